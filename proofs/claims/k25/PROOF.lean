import PyProof.Rows.All
import Wide.All
import OpenK.AllK
import Wide.FinOn
import HandS.ForMost
import HandS.ForExc
import HandS.ExcInit
import HandS.ExcField
import HandS.TryMany
import HandS.WideBits
import HandS.Flow
import HandS.IsInst
import HandS.EndBits
import HandS.ExcOwn
import HandS.TupAny
import HandS.StrMore
import HandS.Text
import HandS.Style
import HandS.ExcIs
import KE.KExcIs
import HandS.Sort
import HandS.Replace
import HandS.TupLe
import HandS.More
import PyProof.ListStr
import HandS.RaiseMore
import KE.KStrBytes
import PySem.Challenge.RW_rootward_k25_steps_on_the_circle
set_option Elab.async false
set_option linter.all false
set_option maxRecDepth 100000
set_option maxHeartbeats 4000000
namespace MP
open PySem PySem.Spec PyProof.Rows L2

/-! ### values, objects, results -/
inductive W where
  | non | bl (b : Bool) | int (i : Int) | str (x : Str) | tup (xs : List W) | fro (xs : List W) | loc (n : Nat) | gl (v : V) | rng (i j : Int)
inductive Ob where
  | lst (xs : List W)
abbrev Store := List Ob
abbrev EnvW := List (Option W)
inductive Res (α : Type) where
  | ok (a : α) (st : Store)
  | err (c : Str) (fs : W) (st : Store)
  | stuck
def Res.bind {α β : Type} (r : Res α) (k : α → Store → Res β) : Res β := match r with
  | .ok a st => k a st
  | .err c fs st => .err c fs st
  | .stuck => .stuck
@[simp] theorem Res.bind_ok {α β : Type} (a : α) (st : Store) (k : α → Store → Res β) : (Res.ok a st).bind k = k a st := rfl
@[simp] theorem Res.bind_err {α β : Type} (c : Str) (fs : W) (st : Store) (k : α → Store → Res β) : (Res.err c fs st : Res α).bind k = .err c fs st := rfl
@[simp] theorem Res.bind_stuck {α β : Type} (k : α → Store → Res β) : (Res.stuck : Res α).bind k = .stuck := rfl
abbrev D (α : Type) := EnvW → Store → Res α

/-! ### how values and stores lie in the heap -/
/-- a list that is never written: the script, or the module's own -/
def SqF (K : PySem.W.Frag) (H : Hp) (a : Addr) (xs : List V) : Prop :=
  (∃ o, H a = some (.frz o (.lst xs))) ∨
    ∃ (o : Obj) (its : Array Value) (n : Nat), K.lookup a = some o ∧ o.cls = .type "list" ∧ o.dict = none ∧ o.data = .seq its n ∧ its.size ≤ sizeLine ∧ Vals xs its.toList
/-- a tuple: tracked, or the module's own -/
def TpF (K : PySem.W.Frag) (H : Hp) (a : Addr) (xs : List V) : Prop :=
  H a = some (.tup xs) ∨
    ∃ (o : Obj) (its : Array Value) (n : Nat), K.lookup a = some o ∧ o.cls = .type "tuple" ∧ o.data = .seq its n ∧ its.size ≤ sizeLine ∧ Vals xs its.toList
theorem SqF.sq {K : PySem.W.Frag} {H : Hp} {a : Addr} {xs : List V} (h : SqF K H a xs) : SqL K H a xs := by
  rcases h with ⟨o, h⟩ | h
  · exact .inl (.inr ⟨o, h⟩)
  · exact .inr h
theorem TpF.sq {K : PySem.W.Frag} {H : Hp} {a : Addr} {xs : List V} (h : TpF K H a xs) : SqT K H a xs := by
  rcases h with h | h
  · exact .inl (.inl h)
  · exact .inr h
mutual
def VR (K : PySem.W.Frag) (ρ : List Addr) (H : Hp) : W → V → Prop
  | .non, v => v = .non
  | .bl b, v => v = .bl b
  | .int i, v => v = .int i
  | .str x, v => v = .str x
  | .tup ws, v => ∃ a us, v = .ref a ∧ TpF K H a us ∧ VRs K ρ H ws us
  | .fro ws, v => ∃ a us, v = .ref a ∧ SqF K H a us ∧ VRs K ρ H ws us
  | .loc n, v => ∃ a, ρ[n]? = some a ∧ v = .ref a
  | .gl u, v => v = u
  | .rng i j, v => ∃ a, v = .ref a ∧ H a = some (.rng i j)
def VRs (K : PySem.W.Frag) (ρ : List Addr) (H : Hp) : List W → List V → Prop
  | [], vs => vs = []
  | w :: ws, vs => ∃ u us, vs = u :: us ∧ VR K ρ H w u ∧ VRs K ρ H ws us
end
/-- what may be written lies at the addresses of ρ -/
def ObR (K : PySem.W.Frag) (ρ : List Addr) (H : Hp) (a : Addr) : Ob → Prop
  | .lst ws => ∃ us, H a = some (.lst us) ∧ VRs K ρ H ws us
structure StR (K : PySem.W.Frag) (ρ : List Addr) (H : Hp) (st : Store) : Prop where
  len : ρ.length = st.length
  nd : ρ.Nodup
  ob : ∀ (n : Nat) (o : Ob), st[n]? = some o → ∃ a, ρ[n]? = some a ∧ ObR K ρ H a o
/-- in an except suite: the exception's slot, its address, its dict, its value -/
structure Exn where
  i : Nat
  a : Addr
  dd : Addr
  y : V
  w : W
structure EnvR (K : PySem.W.Frag) (ex : Option Exn) (ρ : List Addr) (H : Hp) (env : EnvW) (σ : L2.St) : Prop where
  len : σ.length = env.length
  at_ : ∀ (i : Nat) (w : W), env[i]? = some (some w) → ∃ v, σ[i]? = some (some v) ∧ VR K ρ H w v
  exc : ∀ x, ex = some x → σ[x.i]? = some (some (.ref x.a)) ∧ H x.dd = some (.xd [(("value" : Str), x.y)]) ∧ x.dd ∉ ρ ∧ VR K ρ H x.w x.y
def ExOk (ex : Option Exn) (i : Nat) : Prop := ∀ x, ex = some x → x.i ≠ i
theorem ExOk.none {i : Nat} : ExOk none i := fun _ h => nomatch h
/-- later: the store's part may be longer, nothing else that is tracked is changed -/
structure Grow (ρ : List Addr) (H : Hp) (ρ' : List Addr) (H' : Hp) : Prop where
  pre : ∃ m, ρ' = ρ ++ m ∧ ∀ a ∈ m, H a = none
  keep : ∀ a o, H a = some o → a ∉ ρ → H' a = some o
  live : ∀ a, a ∈ ρ → H a ≠ none → H' a ≠ none
/-- immutable things are never among the written ones -/
def Apart (ρ : List Addr) (H : Hp) : Prop := ∀ a ∈ ρ, ∃ o, H a = some o ∧ (∀ xs, o ≠ .tup xs) ∧ (∀ b u, o ≠ .frz b u) ∧ ∀ i j, o ≠ .rng i j

section
variable {K : PySem.W.Frag} {ρ ρ' ρ'' : List Addr} {H H' H'' : Hp} {st st' : Store}
theorem Grow.refl : Grow ρ H ρ H := ⟨⟨[], by simp, fun _ h => nomatch h⟩, fun _ _ h _ => h, fun _ _ h => h⟩
theorem Grow.fresh (g : Grow ρ H ρ' H') {a : Addr} (h : H' a = none) : H a = none := by
  cases e : H a with
  | none => rfl
  | some o =>
    by_cases m : a ∈ ρ
    · exact absurd h (g.live a m (by rw [e]; simp))
    · have := g.keep a o e m
      rw [this] at h; cases h
theorem Grow.trans (g : Grow ρ H ρ' H') (g' : Grow ρ' H' ρ'' H'') : Grow ρ H ρ'' H'' := by
  obtain ⟨m, e, f⟩ := g.pre
  obtain ⟨m', e', f'⟩ := g'.pre
  subst e; subst e'
  refine ⟨⟨m ++ m', by simp, fun a h => ?_⟩, fun a o h n => ?_, fun a h h' => ?_⟩
  · rcases List.mem_append.mp h with h | h
    · exact f a h
    · exact g.fresh (f' a h)
  · refine g'.keep a o (g.keep a o h n) fun z => ?_
    rcases List.mem_append.mp z with z | z
    · exact n z
    · have := f a z; rw [h] at this; cases this
  · exact g'.live a (List.mem_append_left _ h) (g.live a h h')
theorem StR.apart (s : StR K ρ H st) : Apart ρ H := fun a h => by
  obtain ⟨n, hn, e⟩ := List.getElem_of_mem h
  have hn' : n < st.length := by rw [← s.len]; exact hn
  obtain ⟨b, hb, hob⟩ := s.ob n st[n] (by rw [List.getElem?_eq_getElem hn'])
  rw [List.getElem?_eq_getElem hn, e] at hb
  cases hb
  cases ho : st[n] with
  | lst ws =>
    rw [ho] at hob
    obtain ⟨us, hu, _⟩ := hob
    exact ⟨_, hu, fun _ z => (nomatch z), fun _ _ z => (nomatch z), fun _ _ z => (nomatch z)⟩
theorem TpF.grow {a : Addr} {xs : List V} (h : TpF K H a xs) (ap : Apart ρ H) (g : Grow ρ H ρ' H') : TpF K H' a xs := by
  rcases h with h | h
  · refine .inl (g.keep a _ h fun m => ?_)
    obtain ⟨o, e, n, _⟩ := ap a m
    rw [h] at e; cases e
    exact n _ rfl
  · exact .inr h
theorem SqF.grow {a : Addr} {xs : List V} (h : SqF K H a xs) (ap : Apart ρ H) (g : Grow ρ H ρ' H') : SqF K H' a xs := by
  rcases h with ⟨o, h⟩ | h
  · refine .inl ⟨o, g.keep a _ h fun m => ?_⟩
    obtain ⟨o', e, _, n, _⟩ := ap a m
    rw [h] at e; cases e
    exact n _ _ rfl
  · exact .inr h
mutual
theorem VR.grow (ap : Apart ρ H) (g : Grow ρ H ρ' H') : ∀ (w : W) (v : V), VR K ρ H w v → VR K ρ' H' w v
  | .non, _, h => by simpa only [VR] using h
  | .bl _, _, h => by simpa only [VR] using h
  | .int _, _, h => by simpa only [VR] using h
  | .str _, _, h => by simpa only [VR] using h
  | .gl _, _, h => by simpa only [VR] using h
  | .rng i j, v, h => by
    simp only [VR] at h ⊢
    obtain ⟨a, e, r⟩ := h
    refine ⟨a, e, g.keep a _ r fun m => ?_⟩
    obtain ⟨o, e', _, _, n⟩ := ap a m
    rw [r] at e'; cases e'
    exact n _ _ rfl
  | .tup ws, v, h => by
    simp only [VR] at h ⊢
    obtain ⟨a, us, e, t, r⟩ := h
    exact ⟨a, us, e, t.grow ap g, VRs.grow ap g ws us r⟩
  | .fro ws, v, h => by
    simp only [VR] at h ⊢
    obtain ⟨a, us, e, t, r⟩ := h
    exact ⟨a, us, e, t.grow ap g, VRs.grow ap g ws us r⟩
  | .loc n, v, h => by
    simp only [VR] at h ⊢
    obtain ⟨a, e, r⟩ := h
    obtain ⟨m, e', _⟩ := g.pre
    subst e'
    refine ⟨a, ?_, r⟩
    have hl := (List.getElem?_eq_some_iff.mp e).1
    rw [List.getElem?_append_left hl]; exact e
theorem VRs.grow (ap : Apart ρ H) (g : Grow ρ H ρ' H') : ∀ (ws : List W) (vs : List V), VRs K ρ H ws vs → VRs K ρ' H' ws vs
  | [], _, h => by simpa only [VRs] using h
  | w :: ws, vs, h => by
    simp only [VRs] at h ⊢
    obtain ⟨u, us, e, r, rs⟩ := h
    exact ⟨u, us, e, VR.grow ap g w u r, VRs.grow ap g ws us rs⟩
end
theorem EnvR.grow {ex : Option Exn} {env : EnvW} {σ : L2.St} (e : EnvR K ex ρ H env σ) (ap : Apart ρ H) (g : Grow ρ H ρ' H') : EnvR K ex ρ' H' env σ :=
  ⟨e.len, fun i w h => let ⟨v, h1, h2⟩ := e.at_ i w h; ⟨v, h1, VR.grow ap g w v h2⟩, fun x h => by
    obtain ⟨h1, h2, h3, h4⟩ := e.exc x h
    refine ⟨h1, g.keep _ _ h2 h3, fun z => ?_, VR.grow ap g _ _ h4⟩
    obtain ⟨m, em, fm⟩ := g.pre
    subst em
    rcases List.mem_append.mp z with z | z
    · exact h3 z
    · have := fm _ z; rw [h2] at this; cases this⟩
theorem EnvR.put {ex : Option Exn} {env : EnvW} {σ : L2.St} (e : EnvR K ex ρ H env σ) {i : Nat} {w : Option W} {v : Option V} (hx : ExOk ex i) (r : ∀ w', w = some w' → ∃ v', v = some v' ∧ VR K ρ H w' v') : EnvR K ex ρ H (env.set i w) (σ.set i v) := by
  refine ⟨by simp [e.len], fun j w' h => ?_, fun x h => ?_⟩
  · by_cases hj : i = j
    · subst hj
      rw [List.getElem?_set] at h
      split at h
      · split at h
        · rename_i hl
          obtain ⟨v', e1, rv⟩ := r w' (Option.some.inj h)
          subst e1
          refine ⟨v', ?_, rv⟩
          rw [List.getElem?_set]; simp [e.len, *]
        · cases h
      · rename_i z; exact absurd rfl z
    · rw [List.getElem?_set_ne hj] at h
      obtain ⟨u, h1, h2⟩ := e.at_ j w' h
      exact ⟨u, by rw [List.getElem?_set_ne hj]; exact h1, h2⟩
  · obtain ⟨h1, h2⟩ := e.exc x h
    exact ⟨by rw [List.getElem?_set_ne (Ne.symm (hx x h))]; exact h1, h2⟩
theorem EnvR.set {ex : Option Exn} {env : EnvW} {σ : L2.St} (e : EnvR K ex ρ H env σ) {i : Nat} {w : W} {v : V} (hx : ExOk ex i) (r : VR K ρ H w v) : EnvR K ex ρ H (env.set i (some w)) (σ.set i (some v)) :=
  e.put hx fun w' h => by cases h; exact ⟨v, rfl, r⟩
theorem EnvR.unset {ex : Option Exn} {env : EnvW} {σ : L2.St} (e : EnvR K ex ρ H env σ) {i : Nat} (hx : ExOk ex i) : EnvR K ex ρ H (env.set i none) (σ.set i none) :=
  e.put hx fun w' h => by cases h
theorem VRs.length : ∀ {ws : List W} {vs : List V}, VRs K ρ H ws vs → ws.length = vs.length
  | [], vs, h => by simp only [VRs] at h; simp [h]
  | w :: ws, vs, h => by
    simp only [VRs] at h
    obtain ⟨u, us, rfl, _, r⟩ := h
    simp [VRs.length r]
theorem VRs.get : ∀ {ws : List W} {vs : List V} {i : Nat} {w : W}, VRs K ρ H ws vs → ws[i]? = some w → ∃ v, vs[i]? = some v ∧ VR K ρ H w v
  | [], _, _, _, _, e => by simp at e
  | w :: ws, vs, 0, w', h, e => by
    simp only [VRs] at h
    obtain ⟨u, us, rfl, r, _⟩ := h
    simp at e; subst e
    exact ⟨u, rfl, r⟩
  | w :: ws, vs, i + 1, w', h, e => by
    simp only [VRs] at h
    obtain ⟨u, us, rfl, _, r⟩ := h
    obtain ⟨v, h1, h2⟩ := VRs.get (i := i) r (by simpa using e)
    exact ⟨v, by simpa using h1, h2⟩
theorem VRs.append : ∀ {ws ws' : List W} {vs vs' : List V}, VRs K ρ H ws vs → VRs K ρ H ws' vs' → VRs K ρ H (ws ++ ws') (vs ++ vs')
  | [], _, vs, _, h, h' => by simp only [VRs] at h; subst h; simpa using h'
  | w :: ws, _, vs, _, h, h' => by
    simp only [VRs, List.cons_append] at h ⊢
    obtain ⟨u, us, rfl, r, rs⟩ := h
    exact ⟨u, us ++ _, rfl, r, VRs.append rs h'⟩
theorem VRs.take : ∀ {ws : List W} {vs : List V} (n : Nat), VRs K ρ H ws vs → VRs K ρ H (ws.take n) (vs.take n)
  | _, _, 0, _ => by simp [VRs]
  | [], vs, n + 1, h => by simp only [VRs] at h; subst h; simp [VRs]
  | w :: ws, vs, n + 1, h => by
    simp only [VRs] at h
    obtain ⟨u, us, rfl, r, rs⟩ := h
    simp only [List.take_succ_cons, VRs]
    exact ⟨u, _, rfl, r, rs.take n⟩
theorem VRs.drop : ∀ {ws : List W} {vs : List V} (n : Nat), VRs K ρ H ws vs → VRs K ρ H (ws.drop n) (vs.drop n)
  | _, _, 0, h => by simpa using h
  | [], vs, n + 1, h => by simp only [VRs] at h; subst h; simp [VRs]
  | w :: ws, vs, n + 1, h => by
    simp only [VRs] at h
    obtain ⟨u, us, rfl, r, rs⟩ := h
    simpa using rs.drop n
theorem VRs.one {w : W} {v : V} (r : VR K ρ H w v) : VRs K ρ H [w] [v] := by
  simp only [VRs]; exact ⟨v, [], rfl, r, rfl⟩
theorem VRs.cons' {w : W} {v : V} {ws : List W} {vs : List V} (r : VR K ρ H w v) (rs : VRs K ρ H ws vs) : VRs K ρ H (w :: ws) (v :: vs) := by
  simp only [VRs]; exact ⟨v, vs, rfl, r, rs⟩
theorem VRs.reverse : ∀ {ws : List W} {vs : List V}, VRs K ρ H ws vs → VRs K ρ H ws.reverse vs.reverse
  | [], vs, h => by simp only [VRs] at h; subst h; simp [VRs]
  | w :: ws, vs, h => by
    simp only [VRs] at h
    obtain ⟨u, us, rfl, r, rs⟩ := h
    rw [List.reverse_cons, List.reverse_cons]
    exact rs.reverse.append (.one r)
theorem VRs.set {w : W} {v : V} (r : VR K ρ H w v) : ∀ {ws : List W} {vs : List V} (i : Nat), VRs K ρ H ws vs → VRs K ρ H (ws.set i w) (vs.set i v)
  | [], vs, _, h => by simp only [VRs] at h; subst h; simp [VRs]
  | w' :: ws, vs, 0, h => by
    simp only [VRs] at h
    obtain ⟨u, us, rfl, _, rs⟩ := h
    exact .cons' r rs
  | w' :: ws, vs, i + 1, h => by
    simp only [VRs] at h
    obtain ⟨u, us, rfl, r', rs⟩ := h
    exact .cons' r' (rs.set r i)
theorem ObR.stay {a : Addr} {o : Ob} (h : ObR K ρ H a o) (e : H' a = H a) (ap : Apart ρ H) (g : Grow ρ H ρ' H') : ObR K ρ' H' a o := by
  cases o with
  | lst ws =>
    obtain ⟨us, hu, hr⟩ := h
    exact ⟨us, by rw [e]; exact hu, VRs.grow ap g ws us hr⟩
theorem StR.none_of (s : StR K ρ H st) {p : Addr} (hp : H p = none) : p ∉ ρ := fun m => by
  obtain ⟨o, e, _⟩ := s.apart p m; rw [hp] at e; cases e
/-- an object more -/
theorem StR.new (s : StR K ρ H st) {p : Addr} {o : Ob} {u : HO} (hp : H p = none) (g : Grow ρ H (ρ ++ [p]) (upd H p u)) (ho : ObR K (ρ ++ [p]) (upd H p u) p o) : StR K (ρ ++ [p]) (upd H p u) (st ++ [o]) := by
  have ap := s.apart
  have np : p ∉ ρ := fun m => by obtain ⟨o, e, _⟩ := ap p m; rw [hp] at e; cases e
  refine ⟨by simp [s.len], ?_, fun n o' e => ?_⟩
  · rw [List.nodup_append]
    exact ⟨s.nd, List.nodup_cons.mpr ⟨by simp, List.nodup_nil⟩, fun a ha b hb e => by
      have : b = p := by simpa using hb
      subst this; subst e; exact np ha⟩
  · by_cases hn : n < st.length
    · rw [List.getElem?_append_left hn] at e
      obtain ⟨a, ha, hob⟩ := s.ob n o' e
      have hl := (List.getElem?_eq_some_iff.mp ha).1
      have hap : a ≠ p := fun z => np (z ▸ List.mem_of_getElem? ha)
      exact ⟨a, by rw [List.getElem?_append_left hl]; exact ha, hob.stay (upd_ne hap) ap g⟩
    · have hl : n < (st ++ [o]).length := (List.getElem?_eq_some_iff.mp e).1
      have : n = st.length := by simp at hl; omega
      subst this
      rw [List.getElem?_append_right (Nat.le_refl _)] at e
      simp at e; subst e
      exact ⟨p, by rw [← s.len, List.getElem?_append_right (Nat.le_refl _)]; simp, ho⟩
theorem grow_new {p : Addr} {u : HO} (hp : H p = none) : Grow ρ H (ρ ++ [p]) (upd H p u) :=
  ⟨⟨[p], rfl, fun a h => by have : a = p := by simpa using h
                            subst this; exact hp⟩, fun a o h _ => by rw [upd_ne (ne_of_none h hp)]; exact h, fun a _ h z => by
    by_cases e : a = p
    · subst e; rw [upd_same] at z; cases z
    · rw [upd_ne e] at z; exact h z⟩
/-- an immutable thing more -/
theorem grow_imm {p : Addr} {u : HO} (hp : H p = none) : Grow ρ H ρ (upd H p u) :=
  ⟨⟨[], by simp, fun _ h => nomatch h⟩, fun a o h _ => by rw [upd_ne (ne_of_none h hp)]; exact h, fun a _ h z => by
    by_cases e : a = p
    · subst e; rw [upd_same] at z; cases z
    · rw [upd_ne e] at z; exact h z⟩
theorem StR.grow_imm (s : StR K ρ H st) {p : Addr} {u : HO} (hp : H p = none) : StR K ρ (upd H p u) st := by
  have ap := s.apart
  have np : p ∉ ρ := fun m => by obtain ⟨o, e, _⟩ := ap p m; rw [hp] at e; cases e
  refine ⟨s.len, s.nd, fun n o e => ?_⟩
  obtain ⟨a, ha, hob⟩ := s.ob n o e
  have hap : a ≠ p := fun z => np (z ▸ List.mem_of_getElem? ha)
  exact ⟨a, ha, hob.stay (upd_ne hap) ap (MP.grow_imm hp)⟩
/-- an object of the store changed -/
theorem grow_write {a : Addr} {u : HO} (ha : a ∈ ρ) : Grow ρ H ρ (upd H a u) :=
  ⟨⟨[], by simp, fun _ h => nomatch h⟩, fun b o h n => by rw [upd_ne (fun z : b = a => n (by rw [z]; exact ha))]; exact h, fun b _ h z => by
    by_cases e : b = a
    · subst e; rw [upd_same] at z; cases z
    · rw [upd_ne e] at z; exact h z⟩
theorem StR.write (s : StR K ρ H st) {n : Nat} {a : Addr} {o : Ob} {u : HO} (hn : ρ[n]? = some a) (ho : ObR K ρ (upd H a u) a o) : StR K ρ (upd H a u) (st.set n o) := by
  have ap := s.apart
  have hm : a ∈ ρ := List.mem_of_getElem? hn
  have hnl := (List.getElem?_eq_some_iff.mp hn).1
  refine ⟨by simp [s.len], s.nd, fun k o' e => ?_⟩
  by_cases hk : n = k
  · subst hk
    rw [List.getElem?_set] at e
    rw [if_pos rfl, if_pos (by rw [← s.len]; exact hnl)] at e
    cases e
    exact ⟨a, hn, ho⟩
  · rw [List.getElem?_set_ne hk] at e
    obtain ⟨b, hb, hob⟩ := s.ob k o' e
    refine ⟨b, hb, ?_⟩
    have hab : b ≠ a := fun z => by
      subst z
      have h1 := (List.getElem?_eq_some_iff.mp hn)
      have h2 := (List.getElem?_eq_some_iff.mp hb)
      exact hk ((List.getElem_inj s.nd).mp (h1.2.trans h2.2.symm))
    exact hob.stay (upd_ne hab) ap (grow_write hm)
end
end MP
namespace MP
open PySem PySem.Spec PyProof.Rows L2

/-! ### what is wanted of a result; judgements -/
/-- an exception: an own class, its dict -/
def ErR (K : PySem.W.Frag) (mg : Str → Option Value) (ρ : List Addr) (H : Hp) (c : Str) (w : W) (cls : Value) (d : Option Addr) : Prop :=
  ∃ (C dd : Addr) (y : V), mg c = some (.ref C) ∧ cls = .ref C ∧ d = some dd ∧ H dd = some (.xd [(("value" : Str), y)]) ∧ dd ∉ ρ ∧ VR K ρ H w y
def Post {α β : Type} (K : PySem.W.Frag) (mg : Str → Option Value) (Wx : WX) (rel : List Addr → Hp → α → β → Prop) (ρ : List Addr) (H : Hp) (σ : L2.St) (r : Res α) (Q : β → Hp → Prop) : Prop :=
  match r with
  | .ok a st' => ∀ ρ' H' x, Grow ρ H ρ' H' → StR K ρ' H' st' → rel ρ' H' a x → Q x H'
  | .err c fs st' => ∀ ρ' H' cls d, Grow ρ H ρ' H' → StR K ρ' H' st' → ErR K mg ρ' H' c fs cls d → Wx cls d σ H'
  | .stuck => False
abbrev relV (K : PySem.W.Frag) : List Addr → Hp → W → V → Prop := VR K
abbrev relVs (K : PySem.W.Frag) : List Addr → Hp → List W → List V → Prop := VRs K
abbrev relE {α : Type} : List Addr → Hp → α → α → Prop := fun _ _ a b => a = b
section
variable {K : PySem.W.Frag} {mg : Str → Option Value} {Wx : WX} {ρ ρ1 : List Addr} {H H1 : Hp} {σ : L2.St} {α β γ δ : Type}
theorem Post.mono {rel : List Addr → Hp → α → β → Prop} {r : Res α} {Q : β → Hp → Prop} (h : Post K mg Wx rel ρ H σ r Q) (g : Grow ρ H ρ1 H1) : Post K mg Wx rel ρ1 H1 σ r Q := by
  cases r with
  | ok a st => exact fun ρ' H' x g' => h ρ' H' x (g.trans g')
  | err c fs st => exact fun ρ' H' cls d g' => h ρ' H' cls d (g.trans g')
  | stuck => exact h
theorem Post.bind {relA : List Addr → Hp → α → β → Prop} {relC : List Addr → Hp → γ → δ → Prop} {r : Res α} {k : α → Store → Res γ} {Q : δ → Hp → Prop} (h : Post K mg Wx relC ρ H σ (r.bind k) Q) :
    Post K mg Wx relA ρ H σ r (fun x H1 => ∃ ρ1 st1 a, Grow ρ H ρ1 H1 ∧ StR K ρ1 H1 st1 ∧ relA ρ1 H1 a x ∧ Post K mg Wx relC ρ1 H1 σ (k a st1) Q) := by
  cases r with
  | ok a st => exact fun ρ' H' x g s r => ⟨ρ', st, a, g, s, r, Post.mono h g⟩
  | err c fs st => exact h
  | stuck => exact h
theorem Post.ok_ {rel : List Addr → Hp → α → β → Prop} {a : α} {st : Store} {x : β} {Q : β → Hp → Prop} (h : Post K mg Wx rel ρ H σ (.ok a st) Q) (s : StR K ρ H st) (r : rel ρ H a x) : Q x H := h ρ H x .refl s r
end
/-- the reading of a denotation -/
def RG {α β : Type} (X : Cx) (ex : Option Exn) (Wx : WX) (rel : List Addr → Hp → α → β → Prop) (m : D α) : L2.St → Hp → (β → Hp → Prop) → Prop := fun σ H Q =>
  ∃ ρ env st, StR X.K ρ H st ∧ EnvR X.K ex ρ H env σ ∧ Post X.K X.mg Wx rel ρ H σ (m env st) Q
abbrev IE (X : Cx) (ex : Option Exn) (Wx : WX) (e : Expr) (m : D W) : Prop := PE X e (RG X ex Wx (relV X.K) m)
abbrev IA (X : Cx) (ex : Option Exn) (Wx : WX) (es : List Expr) (m : D (List W)) : Prop := PA X es (RG X ex Wx (relVs X.K) m)
abbrev IT (X : Cx) (ex : Option Exn) (Wx : WX) (e : Expr) (m : D Bool) : Prop := PT X e (RG X ex Wx relE m)
abbrev IW (X : Cx) (ex : Option Exn) (Wx : WX) (e : Expr) (m : D Bool) : Prop := PW X e (RG X ex Wx relE m)
section
variable {X : Cx} {ex : Option Exn} {Wx : WX} {α β γ δ : Type}
theorem PE.of {e : Expr} {t t' : TE} (h : PE X e t) (w : ∀ σ H Q, t' σ H Q → t σ H Q) : PE X e t' := ⟨fun pins s σ H Q I q => h.run pins s σ H Q I (w _ _ _ q)⟩
theorem PT.of {e : Expr} {t t' : TT} (h : PT X e t) (w : ∀ σ H Q, t' σ H Q → t σ H Q) : PT X e t' := ⟨fun pins s σ H Q I q => h.run pins s σ H Q I (w _ _ _ q)⟩
theorem PW.of {e : Expr} {t t' : TT} (h : PW X e t) (w : ∀ σ H Q, t' σ H Q → t σ H Q) : PW X e t' := ⟨fun whole pins s σ H Q I q => h.run whole pins s σ H Q I (w _ _ _ q)⟩
theorem PA.of {es : List Expr} {t t' : TA} (h : PA X es t) (w : ∀ σ H Q, t' σ H Q → t σ H Q) : PA X es t' := ⟨fun pos pins s σ H Q I q => h.run pos pins s σ H Q I (w _ _ _ q)⟩
theorem PS.of {e : Stmt} {t t' : TS} (h : PS X e t) (w : ∀ D σ H, t' D σ H → t D σ H) : PS X e t' := ⟨fun pins s σ H D I q => h.run pins s σ H D I (w _ _ _ q)⟩
theorem PSs.of {e : List Stmt} {t t' : TS} (h : PSs X e t) (w : ∀ D σ H, t' D σ H → t D σ H) : PSs X e t' := ⟨fun pins s σ H D I q => h.run pins s σ H D I (w _ _ _ q)⟩
/-- one step of a reading: m's, then what k asks -/
theorem RG.bind {relA : List Addr → Hp → α → β → Prop} {relC : List Addr → Hp → γ → δ → Prop} {ρ : List Addr} {H : Hp} {σ : L2.St} {env : EnvW} {st : Store} {m : D α} {k : α → Store → Res γ} {Q : δ → Hp → Prop} {R : β → Hp → Prop}
    (s : StR X.K ρ H st) (e : EnvR X.K ex ρ H env σ) (h : Post X.K X.mg Wx relC ρ H σ ((m env st).bind k) Q)
    (hk : ∀ ρ1 H1 st1 a x, Grow ρ H ρ1 H1 → StR X.K ρ1 H1 st1 → EnvR X.K ex ρ1 H1 env σ → relA ρ1 H1 a x → Post X.K X.mg Wx relC ρ1 H1 σ (k a st1) Q → R x H1) : RG X ex Wx relA m σ H R := by
  refine ⟨ρ, env, st, s, e, ?_⟩
  generalize hm : m env st = r at h
  cases r with
  | ok a st' => exact fun ρ' H' x g s' r => hk ρ' H' st' a x g s' (e.grow s.apart g) r (Post.mono h g)
  | err c fs st' => exact h
  | stuck => exact h
end

/-! ### denotations -/
def dVar (i : Nat) : D W := fun env st => match env[i]? with
  | some (some w) => .ok w st
  | _ => .stuck
def dC (w : W) : D W := fun _ st => .ok w st
def dOp (f : W → W → Store → Res W) (ma mb : D W) : D W := fun env st => (ma env st).bind fun a st1 => (mb env st1).bind fun b st2 => f a b st2
def dUn (f : W → Store → Res W) (ma : D W) : D W := fun env st => (ma env st).bind fun a st1 => f a st1
def dIf (c : D Bool) (ma mb : D W) : D W := fun env st => (c env st).bind fun b st1 => if b = true then ma env st1 else mb env st1
def dNil : D (List W) := fun _ st => .ok [] st
def dCons (m : D W) (r : D (List W)) : D (List W) := fun env st => (m env st).bind fun a st1 => (r env st1).bind fun l st2 => .ok (a :: l) st2
def dTup (m : D (List W)) : D W := fun env st => (m env st).bind fun l st1 => if l.length ≤ sizeLine then .ok (.tup l) st1 else .stuck
def dLst (m : D (List W)) : D W := fun env st => (m env st).bind fun l st1 => if l.length ≤ sizeLine then .ok (.loc st1.length) (st1 ++ [.lst l]) else .stuck
def dApp (f : List W → Store → Res W) (m : D (List W)) : D W := fun env st => (m env st).bind fun l st1 => f l st1
/-- tests -/
def dBool (m : D W) : D Bool := fun env st => (m env st).bind fun a st1 => match a with
  | .bl b => .ok b st1
  | _ => .stuck
def dAnd (a b : D Bool) : D Bool := fun env st => (a env st).bind fun c st1 => if c = true then b env st1 else .ok false st1
def dOr (a b : D Bool) : D Bool := fun env st => (a env st).bind fun c st1 => if c = true then .ok true st1 else b env st1
def dNot (a : D Bool) : D Bool := fun env st => (a env st).bind fun c st1 => .ok (!c) st1
def dAndV (a b : D W) : D W := fun env st => (a env st).bind fun x st1 => match x with
  | .bl c => if c = true then b env st1 else .ok (.bl false) st1
  | _ => .stuck
def dOrV (a b : D W) : D W := fun env st => (a env st).bind fun x st1 => match x with
  | .bl c => if c = true then .ok (.bl true) st1 else b env st1
  | _ => .stuck
def dNotV (a : D W) : D W := fun env st => (a env st).bind fun x st1 => match x with
  | .bl c => .ok (.bl (!c)) st1
  | _ => .stuck
def dChain (f g : W → W → Store → Res W) (ma mb mc : D W) : D W := fun env st => (ma env st).bind fun a st1 => (mb env st1).bind fun b st2 => (f a b st2).bind fun x st3 => match x with
  | .bl true => (mc env st3).bind fun c st4 => g b c st4
  | .bl false => .ok (.bl false) st3
  | _ => .stuck

section
variable {X : Cx} {ex : Option Exn} {Wx : WX} {pos : Pos}
/-- a two-place operation by values -/
def OpOk (X : Cx) (r : R2) (f : W → W → Store → Res W) : Prop :=
  ∀ (Wx : WX) (ρ : List Addr) (H : Hp) (st : Store) (σ : L2.St) (a b : W) (x y : V) (Q : VK), StR X.K ρ H st → VR X.K ρ H a x → VR X.K ρ H b y → Post X.K X.mg Wx (relV X.K) ρ H σ (f a b st) Q → r x y H Q
def UnOk (X : Cx) (r : V → Hp → VK → Prop) (f : W → Store → Res W) : Prop :=
  ∀ (Wx : WX) (ρ : List Addr) (H : Hp) (st : Store) (σ : L2.St) (a : W) (x : V) (Q : VK), StR X.K ρ H st → VR X.K ρ H a x → Post X.K X.mg Wx (relV X.K) ρ H σ (f a st) Q → r x H Q
def CallOk (X : Cx) (r : List V → Hp → VK → Prop) (f : List W → Store → Res W) : Prop :=
  ∀ (Wx : WX) (ρ : List Addr) (H : Hp) (st : Store) (σ : L2.St) (l : List W) (vs : List V) (Q : VK), StR X.K ρ H st → VRs X.K ρ H l vs → Post X.K X.mg Wx (relV X.K) ρ H σ (f l st) Q → r vs H Q
theorem OpR.or {f : Value → Value → Sem Value} {r r' : R2} (h : OpR X f r) (h' : OpR X f r') : OpR X f (fun x y H Q => r x y H Q ∨ r' x y H Q) := fun pins s σ H x y v u Q I a b q => by
  rcases q with q | q
  · exact h pins s σ H x y v u Q I a b q
  · exact h' pins s σ H x y v u Q I a b q
theorem ie_var (i : Nat) {x : Str} (hN : X.N[i]? = some x := by rfl) (hv : Vis X.env.scope x := by first | exact Or.inl rfl | exact Or.inr (Or.inl rfl) | exact Or.inr (Or.inr rfl)) (hd : (x == ("__debug__" : Str)) = false := by decide)
    (hcd : (x == ("__classdict__" : Str)) = false := by decide) : IE X ex Wx (.Name x pos) (dVar i) := by
  refine PE.of (pe_var hN hv hd hcd) fun σ H Q ⟨ρ, env, st, s, e, p⟩ => ?_
  unfold dVar at p
  generalize hq : env[i]? = o at p
  match o, hq, p with
  | some (some w), hq, p =>
    obtain ⟨v, h1, h2⟩ := e.at_ i w hq
    exact ⟨v, h1, p.ok_ s h2⟩
  | some none, _, p => exact p.elim
  | none, _, p => exact p.elim
theorem ie_c {e : Expr} {v : V} {w : W} (h : PE X e (tC v)) (r : ∀ ρ H, VR X.K ρ H w v) : IE X ex Wx e (dC w) :=
  PE.of h fun σ H Q ⟨ρ, env, st, s, e, p⟩ => p.ok_ s (r ρ H)
theorem ie_op {a b : Expr} {op : Operator} {r : R2} {f : W → W → Store → Res W} {ma mb : D W} (ho : OpR X (binaryOp op) r) (hf : OpOk X r f) (ha : IE X ex Wx a ma) (hb : IE X ex Wx b mb) : IE X ex Wx (.BinOp a op b pos) (dOp f ma mb) :=
  PE.of (pe_op ho ha hb) fun σ H Q ⟨ρ, env, st, s, e, p⟩ => RG.bind s e p fun ρ1 H1 st1 a x g1 s1 e1 ra p1 => RG.bind s1 e1 p1 fun ρ2 H2 st2 b y g2 s2 e2 rb p2 =>
    hf Wx ρ2 H2 st2 σ a b x y Q s2 (VR.grow s1.apart g2 a x ra) rb p2
theorem ie_cmp {a b : Expr} {op : CmpOp} {r : R2} {f : W → W → Store → Res W} {ma mb : D W} (ho : OpR X (compareOp op) r) (hf : OpOk X r f) (ha : IE X ex Wx a ma) (hb : IE X ex Wx b mb) (hm : behindInMarks op b = false) : IE X ex Wx (.Compare a [op] [b] pos) (dOp f ma mb) :=
  PE.of (pe_cmpR ho ha hb hm) fun σ H Q ⟨ρ, env, st, s, e, p⟩ => RG.bind s e p fun ρ1 H1 st1 a x g1 s1 e1 ra p1 => RG.bind s1 e1 p1 fun ρ2 H2 st2 b y g2 s2 e2 rb p2 =>
    hf Wx ρ2 H2 st2 σ a b x y Q s2 (VR.grow s1.apart g2 a x ra) rb p2
/-- a value that is a bool, as a test -/
theorem dBool_step {m : D W} {σ : L2.St} {H : Hp} {Q : Bool → Hp → Prop} (h : RG X ex Wx relE (dBool m) σ H Q) : RG X ex Wx (relV X.K) m σ H fun x H' => ∃ k, x = .bl k ∧ Q k H' := by
  obtain ⟨ρ, env, st, s, e, p⟩ := h
  refine RG.bind s e p fun ρ1 H1 st1 a x g1 s1 e1 ra p1 => ?_
  cases a with
  | bl b =>
    simp only [VR] at ra
    exact ⟨b, ra, p1.ok_ s1 rfl⟩
  | _ => exact p1.elim
theorem it_cmp {a b : Expr} {op : CmpOp} {r : R2} {f : W → W → Store → Res W} {ma mb : D W} (ho : OpR X (compareOp op) r) (hf : OpOk X r f) (ha : IE X ex Wx a ma) (hb : IE X ex Wx b mb) (hm : behindInMarks op b = false) : IT X ex Wx (.Compare a [op] [b] pos) (dBool (dOp f ma mb)) :=
  PT.of (pt_cmpR ho ha hb hm) fun σ H Q h => by
    obtain ⟨ρ, env, st, s, e, p⟩ := dBool_step h
    exact RG.bind s e p fun ρ1 H1 st1 a x g1 s1 e1 ra p1 => RG.bind s1 e1 p1 fun ρ2 H2 st2 b y g2 s2 e2 rb p2 =>
      hf Wx ρ2 H2 st2 σ a b x y _ s2 (VR.grow s1.apart g2 a x ra) rb p2
theorem ie_un {a : Expr} {op : UnaryOp} {r : V → Hp → VK → Prop} {f : W → Store → Res W} {ma : D W} (ho : UnR X (unaryOp op) r) (hf : UnOk X r f) (ha : IE X ex Wx a ma) : IE X ex Wx (.UnaryOp op a pos) (dUn f ma) :=
  PE.of (pe_un ho ha) fun σ H Q ⟨ρ, env, st, s, e, p⟩ => RG.bind s e p fun ρ1 H1 st1 a x g1 s1 e1 ra p1 => hf Wx ρ1 H1 st1 σ a x Q s1 ra p1
theorem ie_if {c a b : Expr} {mc : D Bool} {ma mb : D W} (hc : IT X ex Wx c mc) (ha : IE X ex Wx a ma) (hb : IE X ex Wx b mb) : IE X ex Wx (.IfExp c a b pos) (dIf mc ma mb) :=
  PE.of (pe_ifExp hc ha hb) fun σ H Q ⟨ρ, env, st, s, e, p⟩ => RG.bind s e p fun ρ1 H1 st1 a x g1 s1 e1 ra p1 => by
    have ra' : a = x := ra
    subst ra'
    by_cases h : a = true
    · rw [if_pos h] at p1 ⊢; exact ⟨ρ1, env, st1, s1, e1, p1⟩
    · rw [if_neg h] at p1 ⊢; exact ⟨ρ1, env, st1, s1, e1, p1⟩
theorem ia_nil : IA X ex Wx [] dNil := PA.of pa_nil fun σ H Q ⟨ρ, env, st, s, e, p⟩ => p.ok_ s (by simp [VRs])
theorem ia_cons {e : Expr} {es : List Expr} {m : D W} {r : D (List W)} (he : IE X ex Wx e m) (hr : IA X ex Wx es r) (hs : starEach (e :: es) X.env = (false, eval e X.env) :: starEach es X.env := by rfl) : IA X ex Wx (e :: es) (dCons m r) :=
  PA.of (pa_cons he hr hs) fun σ H Q ⟨ρ, env, st, s, e, p⟩ => RG.bind s e p fun ρ1 H1 st1 a x g1 s1 e1 ra p1 => RG.bind s1 e1 p1 fun ρ2 H2 st2 l xs g2 s2 e2 rb p2 =>
    p2.ok_ s2 (VRs.cons' (VR.grow s1.apart g2 a x ra) rb)
theorem tup_new {ρ : List Addr} {H : Hp} {st : Store} {l : List W} {xs : List V} {p : Addr} (s : StR X.K ρ H st) (r : VRs X.K ρ H l xs) (hp : H p = none) : VR X.K ρ (upd H p (.tup xs)) (.tup l) (.ref p) := by
  simp only [VR]
  exact ⟨p, xs, rfl, .inl upd_same, VRs.grow s.apart (grow_imm hp) l xs r⟩
theorem lst_new {ρ : List Addr} {H : Hp} {st : Store} {l : List W} {xs : List V} {p : Addr} (s : StR X.K ρ H st) (r : VRs X.K ρ H l xs) (hp : H p = none) : StR X.K (ρ ++ [p]) (upd H p (.lst xs)) (st ++ [.lst l]) ∧ VR X.K (ρ ++ [p]) (upd H p (.lst xs)) (.loc st.length) (.ref p) := by
  have g : Grow ρ H (ρ ++ [p]) (upd H p (.lst xs)) := grow_new hp
  refine ⟨s.new hp g ⟨xs, upd_same, VRs.grow s.apart g l xs r⟩, ?_⟩
  simp only [VR]
  exact ⟨p, by rw [← s.len]; simp, rfl⟩
theorem ie_tup {es : List Expr} {m : D (List W)} {x1} (h : IA X ex Wx es m) : IE X ex Wx (.Tuple es x1 pos) (dTup m) :=
  PE.of (pe_tup h) fun σ H Q ⟨ρ, env, st, s, e, p⟩ => RG.bind s e p fun ρ1 H1 st1 l xs g1 s1 e1 r p1 => by
    by_cases hz : l.length ≤ sizeLine
    · rw [if_pos hz] at p1
      refine ⟨by rw [← VRs.length r]; exact hz, fun q hq => ?_⟩
      exact p1 ρ1 _ _ (grow_imm hq) (s1.grow_imm hq) (tup_new s1 r hq)
    · rw [if_neg hz] at p1; exact p1.elim
theorem ie_lst {es : List Expr} {m : D (List W)} (h : IA X ex Wx es m) : IE X ex Wx (.List es pos) (dLst m) :=
  PE.of (pe_lst h) fun σ H Q ⟨ρ, env, st, s, e, p⟩ => RG.bind s e p fun ρ1 H1 st1 l xs g1 s1 e1 r p1 => by
    by_cases hz : l.length ≤ sizeLine
    · rw [if_pos hz] at p1
      refine ⟨by rw [← VRs.length r]; exact hz, fun q hq => ?_⟩
      obtain ⟨a, b⟩ := lst_new s1 r hq
      exact p1 (ρ1 ++ [q]) _ _ (grow_new hq) a b
    · rw [if_neg hz] at p1; exact p1.elim
/-! tests -/
theorem iw_and1 {a : Expr} {m : D Bool} (ha : IT X ex Wx a m) : IW X ex Wx (.BoolOp .And [a] pos) m := pw_and1 ha
theorem iw_or1 {a : Expr} {m : D Bool} (ha : IT X ex Wx a m) : IW X ex Wx (.BoolOp .Or [a] pos) m := pw_or1 ha
theorem iw_and {a b : Expr} {rest : List Expr} {ma mb : D Bool} (ha : IT X ex Wx a ma) (hb : IW X ex Wx (.BoolOp .And (b :: rest) pos) mb) : IW X ex Wx (.BoolOp .And (a :: b :: rest) pos) (dAnd ma mb) :=
  PW.of (pw_and ha hb) fun σ H Q ⟨ρ, env, st, s, e, p⟩ => RG.bind s e p fun ρ1 H1 st1 a x g1 s1 e1 ra p1 => by
    have ra' : a = x := ra
    subst ra'
    by_cases h : a = true
    · rw [if_pos h] at p1 ⊢; exact ⟨ρ1, env, st1, s1, e1, p1⟩
    · rw [if_neg h] at p1 ⊢; exact p1.ok_ s1 rfl
theorem iw_or {a b : Expr} {rest : List Expr} {ma mb : D Bool} (ha : IT X ex Wx a ma) (hb : IW X ex Wx (.BoolOp .Or (b :: rest) pos) mb) : IW X ex Wx (.BoolOp .Or (a :: b :: rest) pos) (dOr ma mb) :=
  PW.of (pw_or ha hb) fun σ H Q ⟨ρ, env, st, s, e, p⟩ => RG.bind s e p fun ρ1 H1 st1 a x g1 s1 e1 ra p1 => by
    have ra' : a = x := ra
    subst ra'
    by_cases h : a = true
    · rw [if_pos h] at p1 ⊢; exact p1.ok_ s1 rfl
    · rw [if_neg h] at p1 ⊢; exact ⟨ρ1, env, st1, s1, e1, p1⟩
theorem it_w {e : Expr} {m : D Bool} (h : IW X ex Wx e m) : IT X ex Wx e m := PW.pt h
theorem it_not {a : Expr} {m : D Bool} (ha : IT X ex Wx a m) : IT X ex Wx (.UnaryOp .Not a pos) (dNot m) :=
  PT.of (pt_not ha) fun σ H Q ⟨ρ, env, st, s, e, p⟩ => RG.bind s e p fun ρ1 H1 st1 a x g1 s1 e1 ra p1 => by
    have ra' : a = x := ra
    subst ra'
    exact p1.ok_ s1 rfl
/-! as values -/
theorem ie_one {a : Expr} {op} {m : D W} (ha : IE X ex Wx a m) : IE X ex Wx (.BoolOp op [a] pos) m := pe_one ha
theorem ie_and {a b : Expr} {rest : List Expr} {ma mb : D W} (ha : IE X ex Wx a ma) (hb : IE X ex Wx (.BoolOp .And (b :: rest) pos) mb) : IE X ex Wx (.BoolOp .And (a :: b :: rest) pos) (dAndV ma mb) :=
  PE.of (pe_and ha hb) fun σ H Q ⟨ρ, env, st, s, e, p⟩ => RG.bind s e p fun ρ1 H1 st1 a x g1 s1 e1 ra p1 => by
    cases a with
    | bl c =>
      simp only [VR] at ra
      refine ⟨c, ra, ?_⟩
      simp only at p1
      by_cases h : c = true
      · rw [if_pos h] at p1 ⊢; exact ⟨ρ1, env, st1, s1, e1, p1⟩
      · rw [if_neg h] at p1 ⊢; exact p1.ok_ s1 (by simp [VR])
    | _ => exact p1.elim
theorem ie_or {a b : Expr} {rest : List Expr} {ma mb : D W} (ha : IE X ex Wx a ma) (hb : IE X ex Wx (.BoolOp .Or (b :: rest) pos) mb) : IE X ex Wx (.BoolOp .Or (a :: b :: rest) pos) (dOrV ma mb) :=
  PE.of (pe_or ha hb) fun σ H Q ⟨ρ, env, st, s, e, p⟩ => RG.bind s e p fun ρ1 H1 st1 a x g1 s1 e1 ra p1 => by
    cases a with
    | bl c =>
      simp only [VR] at ra
      refine ⟨c, ra, ?_⟩
      simp only at p1
      by_cases h : c = true
      · rw [if_pos h] at p1 ⊢; exact p1.ok_ s1 (by simp [VR])
      · rw [if_neg h] at p1 ⊢; exact ⟨ρ1, env, st1, s1, e1, p1⟩
    | _ => exact p1.elim
theorem ie_notV {a : Expr} {ma : D W} (ha : IE X ex Wx a ma) : IE X ex Wx (.UnaryOp .Not a pos) (dNotV ma) :=
  PE.of (pe_not ha) fun σ H Q ⟨ρ, env, st, s, e, p⟩ => RG.bind s e p fun ρ1 H1 st1 a x g1 s1 e1 ra p1 => by
    cases a with
    | bl c =>
      simp only [VR] at ra
      exact ⟨c, ra, p1.ok_ s1 (by simp [VR])⟩
    | _ => exact p1.elim
theorem ie_chain {a b c : Expr} {op op' : CmpOp} {r r' : R2} {f g : W → W → Store → Res W} {ma mb mc : D W} (ho : OpR X (compareOp op) r) (hf : OpOk X r f) (ho' : OpR X (compareOp op') r') (hg : OpOk X r' g) (ha : IE X ex Wx a ma) (hb : IE X ex Wx b mb) (hc : IE X ex Wx c mc)
    (hm : lastMarks [op, op'] [b, c] = false := by with_unfolding_all rfl) : IE X ex Wx (.Compare a [op, op'] [b, c] pos) (dChain f g ma mb mc) := by
  refine PE.of (pe_chain ho ho' ha hb hc hm) fun σ H Q ⟨ρ, env, st, s, e, p⟩ => RG.bind s e p fun ρ1 H1 st1 a x g1 s1 e1 ra p1 => RG.bind s1 e1 p1 fun ρ2 H2 st2 b y g2 s2 e2 rb p2 => ?_
  refine hf Wx ρ2 H2 st2 σ a b x y _ s2 (VR.grow s1.apart g2 a x ra) rb ?_
  generalize f a b st2 = q at p2
  cases q with
  | stuck => exact p2
  | err c fs st' => exact p2
  | ok z st3 =>
    intro ρ3 H3 zv g3 s3 rz
    simp only [Res.bind_ok] at p2
    cases z with
    | bl k =>
      simp only [relV, VR] at rz
      refine ⟨k, rz, ?_⟩
      cases k with
      | true =>
        rw [if_pos rfl]
        simp only at p2
        exact RG.bind s3 (e2.grow s2.apart g3) (Post.mono p2 g3) fun ρ4 H4 st4 c z g4 s4 e4 rc p4 => hg Wx ρ4 H4 st4 σ b c y z Q s4 (VR.grow s3.apart g4 b y (VR.grow s2.apart g3 b y rb)) rc p4
      | false =>
        rw [if_neg (by decide)]
        simp only at p2
        exact (Post.mono p2 g3).ok_ s3 (by simp [VR])
    | _ => exact p2.elim
end
end MP
namespace MP
open PySem PySem.Spec PyProof.Rows L2

/-! ### statements -/
inductive Fl where
  | nx | rt (v : W) | bk | ct
inductive RsS where
  | go (f : Fl) (env : EnvW) (st : Store)
  | err (c : Str) (fs : W) (env : EnvW) (st : Store)
  | stuck
abbrev DS := EnvW → Store → RsS
abbrev DT := W → EnvW → Store → Option (EnvW × Store)
/-- an expression's result, then a statement's -/
def Res.then {α : Type} (r : Res α) (env : EnvW) (k : α → Store → RsS) : RsS := match r with
  | .ok a st => k a st
  | .err c fs st => .err c fs env st
  | .stuck => .stuck
@[simp] theorem Res.then_ok {α : Type} (a : α) (st : Store) (env : EnvW) (k : α → Store → RsS) : (Res.ok a st).then env k = k a st := rfl
@[simp] theorem Res.then_err {α : Type} (c : Str) (fs : W) (st : Store) (env : EnvW) (k : α → Store → RsS) : (Res.err c fs st : Res α).then env k = .err c fs env st := rfl
@[simp] theorem Res.then_stuck {α : Type} (env : EnvW) (k : α → Store → RsS) : (Res.stuck : Res α).then env k = .stuck := rfl
def RsS.next (r : RsS) (k : EnvW → Store → RsS) : RsS := match r with
  | .go .nx env st => k env st
  | r => r
@[simp] theorem RsS.next_nx (env : EnvW) (st : Store) (k) : (RsS.go .nx env st).next k = k env st := rfl
@[simp] theorem RsS.next_rt (v : W) (env : EnvW) (st : Store) (k) : (RsS.go (.rt v) env st).next k = .go (.rt v) env st := rfl
@[simp] theorem RsS.next_bk (env : EnvW) (st : Store) (k) : (RsS.go .bk env st).next k = .go .bk env st := rfl
@[simp] theorem RsS.next_ct (env : EnvW) (st : Store) (k) : (RsS.go .ct env st).next k = .go .ct env st := rfl
@[simp] theorem RsS.next_err (c : Str) (fs : W) (env : EnvW) (st : Store) (k) : (RsS.err c fs env st).next k = .err c fs env st := rfl
@[simp] theorem RsS.next_stuck (k) : (RsS.stuck).next k = .stuck := rfl
def PostF (K : PySem.W.Frag) (D : Ends) (ρ : List Addr) (H : Hp) (σ : L2.St) : Fl → Prop
  | .nx => D.nx σ H
  | .bk => D.bk σ H
  | .ct => D.ct σ H
  | .rt v => ∀ x, VR K ρ H v x → D.rt x H
def PostS (K : PySem.W.Frag) (ex : Option Exn) (mg : Str → Option Value) (Wx : WX) (D : Ends) (ρ : List Addr) (H : Hp) (r : RsS) : Prop := match r with
  | .go f env' st' => ∀ ρ' H' σ', Grow ρ H ρ' H' → StR K ρ' H' st' → EnvR K ex ρ' H' env' σ' → PostF K D ρ' H' σ' f
  | .err c fs env' st' => ∀ ρ' H' σ' cls d, Grow ρ H ρ' H' → StR K ρ' H' st' → EnvR K ex ρ' H' env' σ' → ErR K mg ρ' H' c fs cls d → Wx cls d σ' H'
  | .stuck => False
section
variable {K : PySem.W.Frag} {ex : Option Exn} {mg : Str → Option Value} {Wx : WX} {ρ ρ1 : List Addr} {H H1 : Hp} {De : Ends}
theorem PostS.mono {r : RsS} (h : PostS K ex mg Wx De ρ H r) (g : Grow ρ H ρ1 H1) : PostS K ex mg Wx De ρ1 H1 r := by
  cases r with
  | go f env st => exact fun ρ' H' σ' g' => h ρ' H' σ' (g.trans g')
  | err c fs env st => exact fun ρ' H' σ' cls d g' => h ρ' H' σ' cls d (g.trans g')
  | stuck => exact h
theorem PostS.go_ {f : Fl} {env : EnvW} {st : Store} {σ : L2.St} (h : PostS K ex mg Wx De ρ H (.go f env st)) (s : StR K ρ H st) (e : EnvR K ex ρ H env σ) : PostF K De ρ H σ f := h ρ H σ .refl s e
end
def RS (X : Cx) (ex : Option Exn) (Wx : WX) (m : DS) : TS := fun D σ H => ∃ ρ env st, StR X.K ρ H st ∧ EnvR X.K ex ρ H env σ ∧ PostS X.K ex X.mg Wx D ρ H (m env st)
abbrev IS (X : Cx) (ex : Option Exn) (Wx : WX) (s : Stmt) (m : DS) : Prop := PS X s (RS X ex Wx m)
abbrev ISs (X : Cx) (ex : Option Exn) (Wx : WX) (s : List Stmt) (m : DS) : Prop := PSs X s (RS X ex Wx m)
theorem wipe_set {σ : L2.St} {i : Nat} {v : Option V} : ∀ {vs : List Nat}, i ∈ vs → wipe (σ.set i v) vs = wipe σ vs
  | [], h => nomatch h
  | j :: vs, h => by
    show (wipe (σ.set i v) vs).set j none = (wipe σ vs).set j none
    by_cases hj : i ∈ vs
    · rw [wipe_set hj]
    · have hij : i = j := by
        rcases List.mem_cons.mp h with h | h
        · exact h
        · exact absurd h hj
      subst hij
      have : ∀ (l : List Nat), i ∉ l → wipe (σ.set i v) l = (wipe σ l).set i v := by
        intro l
        induction l with
        | nil => intro _; rfl
        | cons k l ih =>
          intro hn
          have hk : i ≠ k := fun z => hn (z ▸ List.mem_cons_self)
          show (wipe (σ.set i v) l).set k none = ((wipe σ l).set k none).set i v
          rw [ih (fun z => hn (List.mem_cons_of_mem _ z)), List.set_comm _ _ hk]
      rw [this vs hj, List.set_set]
theorem wipe_wipe {σ : L2.St} {vs : List Nat} : wipe (wipe σ vs) vs = wipe σ vs := by
  have : ∀ (l : List Nat) (τ : L2.St), (∀ i ∈ l, i ∈ vs) → wipe (wipe τ l) vs = wipe τ vs := by
    intro l
    induction l with
    | nil => intro τ _; rfl
    | cons k l ih =>
      intro τ h
      show wipe ((wipe τ l).set k none) vs = wipe τ vs
      rw [wipe_set (h k List.mem_cons_self), ih τ fun i hi => h i (List.mem_cons_of_mem _ hi)]
  exact this vs σ fun _ h => h
/-- a target's reading: of the slots only those at vs may change -/
def RT (X : Cx) (ex : Option Exn) (vs : List Nat) (t : DT) : TG := fun v σ H Q => ∃ ρ env st w, StR X.K ρ H st ∧ EnvR X.K ex ρ H env σ ∧ VR X.K ρ H w v ∧ ∃ env' st', t w env st = some (env', st') ∧ ∀ ρ' H' σ', Grow ρ H ρ' H' → StR X.K ρ' H' st' → EnvR X.K ex ρ' H' env' σ' → wipe σ' vs = wipe σ vs → Q σ' H'
abbrev IG (X : Cx) (ex : Option Exn) (vs : List Nat) (e : Expr) (t : DT) : Prop := PG X e (RT X ex vs t)

/-! denotations -/
def sSeq (a b : DS) : DS := fun env st => (a env st).next b
def sNil : DS := fun env st => .go .nx env st
def sExpr (m : D W) : DS := fun env st => (m env st).then env fun _ st1 => .go .nx env st1
def sRet (m : D W) : DS := fun env st => (m env st).then env fun a st1 => .go (.rt a) env st1
def sRetN : DS := fun env st => .go (.rt .non) env st
def sBk : DS := fun env st => .go .bk env st
def sCt : DS := fun env st => .go .ct env st
def sIf (c : D Bool) (a b : DS) : DS := fun env st => (c env st).then env fun k st1 => if k = true then a env st1 else b env st1
def sNever : DS := fun _ _ => .stuck
def sAsg (m : D W) (t : DT) : DS := fun env st => (m env st).then env fun a st1 => match t a env st1 with
  | some (env', st2) => .go .nx env' st2
  | none => .stuck
def tName (i : Nat) : DT := fun w env st => some (env.set i (some w), st)
def tAll : List DT → List W → EnvW → Store → Option (EnvW × Store)
  | [], [], env, st => some (env, st)
  | t :: ts, w :: ws, env, st => (t w env st).bind fun p => tAll ts ws p.1 p.2
  | _, _, _, _ => none
def tTupT (ts : List DT) : DT := fun w env st => match w with
  | .tup ws => tAll ts ws env st
  | _ => none

section
variable {X : Cx} {ex : Option Exn} {Wx : WX} {pos : Pos} {α β : Type}
/-- an expression within a statement -/
theorem RS.step {rel : List Addr → Hp → α → β → Prop} {De : Ends} {ρ : List Addr} {H : Hp} {σ : L2.St} {env : EnvW} {st : Store} {m : D α} {k : α → Store → RsS} {R : β → Hp → Prop}
    (s : StR X.K ρ H st) (e : EnvR X.K ex ρ H env σ) (h : PostS X.K ex X.mg Wx De ρ H ((m env st).then env k))
    (hk : ∀ ρ1 H1 st1 a x, Grow ρ H ρ1 H1 → StR X.K ρ1 H1 st1 → EnvR X.K ex ρ1 H1 env σ → rel ρ1 H1 a x → PostS X.K ex X.mg Wx De ρ1 H1 (k a st1) → R x H1) : RG X ex Wx rel m σ H R := by
  refine ⟨ρ, env, st, s, e, ?_⟩
  generalize hm : m env st = r at h
  cases r with
  | ok a st' => exact fun ρ' H' x g s' r => hk ρ' H' st' a x g s' (e.grow s.apart g) r (PostS.mono h g)
  | err c fs st' => exact fun ρ' H' cls d g s' r => h ρ' H' σ cls d g s' (e.grow s.apart g) r
  | stuck => exact h
/-- the first of two statements -/
theorem PostS.seq {De : Ends} {ρ : List Addr} {H : Hp} {r : RsS} {k : DS} (h : PostS X.K ex X.mg Wx De ρ H (r.next k)) : PostS X.K ex X.mg Wx { De with nx := RS X ex Wx k De } ρ H r := by
  cases r with
  | stuck => exact h
  | err c fs env st => exact h
  | go f env st =>
    cases f with
    | nx => exact fun ρ' H' σ' g s e => ⟨ρ', env, st, s, e, PostS.mono h g⟩
    | rt v => exact h
    | bk => exact h
    | ct => exact h
theorem is_cons {a : Stmt} {rest : List Stmt} {m k : DS} (ha : IS X ex Wx a m) (hr : ISs X ex Wx rest k) : ISs X ex Wx (a :: rest) (sSeq m k) :=
  PSs.of (pss_cons ha hr) fun D σ H ⟨ρ, env, st, s, e, p⟩ => ⟨ρ, env, st, s, e, PostS.seq p⟩
theorem is_one {a : Stmt} {m : DS} (ha : IS X ex Wx a m) : ISs X ex Wx [a] m := pss_one ha
theorem is_nil : ISs X ex Wx [] sNil := PSs.of pss_nil fun D σ H ⟨ρ, env, st, s, e, p⟩ => p.go_ s e
theorem is_never {a : Stmt} : IS X ex Wx a sNever := PS.of ps_never fun D σ H ⟨ρ, env, st, s, e, p⟩ => p
theorem is_neverS {a : List Stmt} : ISs X ex Wx a sNever := PSs.of pss_never fun D σ H ⟨ρ, env, st, s, e, p⟩ => p
theorem is_pass : IS X ex Wx (.Pass pos) sNil := PS.of ps_pass fun D σ H ⟨ρ, env, st, s, e, p⟩ => p.go_ s e
theorem is_break : IS X ex Wx (.Break pos) sBk := PS.of ps_break fun D σ H ⟨ρ, env, st, s, e, p⟩ => p.go_ s e
theorem is_continue : IS X ex Wx (.Continue pos) sCt := PS.of ps_continue fun D σ H ⟨ρ, env, st, s, e, p⟩ => p.go_ s e
theorem is_expr {e : Expr} {m : D W} (he : IE X ex Wx e m) (hs : swapsWith e none pos.line X.env = pure false := by rfl) : IS X ex Wx (.Expr e pos) (sExpr m) :=
  PS.of (ps_expr he hs) fun De σ H ⟨ρ, env, st, s, e, p⟩ => RS.step s e p fun ρ1 H1 st1 a x g s1 e1 r p1 => PostS.go_ (f := .nx) p1 s1 e1
theorem is_ret {e : Expr} {m : D W} (he : IE X ex Wx e m) : IS X ex Wx (.Return (some e) pos) (sRet m) :=
  PS.of (ps_ret he) fun D σ H ⟨ρ, env, st, s, e, p⟩ => RS.step s e p fun ρ1 H1 st1 a x g s1 e1 r p1 => PostS.go_ (f := .rt a) p1 s1 e1 x r
theorem is_retN : IS X ex Wx (.Return none pos) sRetN := PS.of ps_retN fun D σ H ⟨ρ, env, st, s, e, p⟩ => p.go_ s e .non (by simp [VR])
theorem is_if {c : Expr} {a b : List Stmt} {mc : D Bool} {ma mb : DS} (hc : IT X ex Wx c mc) (ha : ISs X ex Wx a ma) (hb : ISs X ex Wx b mb) : IS X ex Wx (.If c a b pos) (sIf mc ma mb) :=
  PS.of (ps_if hc ha hb) fun D σ H ⟨ρ, env, st, s, e, p⟩ => RS.step (rel := relE) s e p fun ρ1 H1 st1 k x g s1 e1 r p1 => by
    have r' : k = x := r
    subst r'
    by_cases h : k = true
    · rw [if_pos h] at p1 ⊢; exact ⟨ρ1, env, st1, s1, e1, p1⟩
    · rw [if_neg h] at p1 ⊢; exact ⟨ρ1, env, st1, s1, e1, p1⟩
/-! targets -/
theorem ig_name {vs : List Nat} {i : Nat} {x : Str} (hv : i ∈ vs) (hx0 : ExOk ex i := by exact ExOk.none) (hN : X.N.Nodup) (hi : X.N[i]? = some x) (hx : Loc X.env.scope x) (hf : X.fn x = true ∨ X.env.scope.names.lookup x = some .local := by first | exact .inl rfl | exact .inr rfl | assumption) : IG X ex vs (.Name x pos) (tName i) :=
  ⟨fun pins s σ H v u Q I r h => (pg_name hN hi hx hf).run pins s σ H v u Q I r (by
    obtain ⟨ρ, env, st, w, s, e, rv, env', st', q, p⟩ := h
    cases q
    exact p ρ H _ .refl s (e.set hx0 rv) (wipe_set hv))⟩
theorem is_asg {vs : List Nat} {tg e : Expr} {m : D W} {t : DT} (he : IE X ex Wx e m) (hg : IG X ex vs tg t) (hs : swapsWithSole [tg] e pos.line X.env = pure false := by rfl) (hw : swappedStores [tg] e X.env = pure none := by rfl)
    (h1 : (assignEach [tg] X.env).map (·.2) = [assign tg X.env] := by rfl) : IS X ex Wx (.Assign [tg] e pos) (sAsg m t) :=
  PS.of (ps_asg he hg hs hw h1) fun D σ H ⟨ρ, env, st, s, e, p⟩ => RS.step s e p fun ρ1 H1 st1 a x g s1 e1 r p1 => by
    refine ⟨ρ1, env, st1, a, s1, e1, r, ?_⟩
    generalize t a env st1 = q at p1
    match q, p1 with
    | some (env', st'), p1 => exact ⟨env', st', rfl, fun ρ' H' σ' g' s' e' _ => p1 ρ' H' σ' g' s' e'⟩
    | none, p1 => exact p1.elim
theorem is_set {i : Nat} {x : Str} {e : Expr} {m : D W} {pos' : Pos} (hx0 : ExOk ex i) (hN : X.N.Nodup) (hi : X.N[i]? = some x) (hx : Loc X.env.scope x) (he : IE X ex Wx e m) (hs : swapsWith e (some (.Name x pos')) pos.line X.env = pure false := by rfl)
    (hf : X.fn x = true ∨ X.env.scope.names.lookup x = some .local := by first | exact .inl rfl | exact .inr rfl | assumption) : IS X ex Wx (.Assign [.Name x pos'] e pos) (sAsg m (tName i)) :=
  PS.of (ps_set hN hi hx he hs hf) fun D σ H ⟨ρ, env, st, s, e, p⟩ => RS.step s e p fun ρ1 H1 st1 a x g s1 e1 r p1 => PostS.go_ p1 s1 (e1.set hx0 r)
/-- several targets by the parts of a tuple -/
def RTs (X : Cx) (ex : Option Exn) (vl : List Nat) (ts : List DT) : TGs := fun vs σ H Q => ∃ ρ env st ws, StR X.K ρ H st ∧ EnvR X.K ex ρ H env σ ∧ VRs X.K ρ H ws vs ∧
  ∃ env' st', tAll ts ws env st = some (env', st') ∧ ∀ ρ' H' σ', Grow ρ H ρ' H' → StR X.K ρ' H' st' → EnvR X.K ex ρ' H' env' σ' → wipe σ' vl = wipe σ vl → Q σ' H'
abbrev IGs (X : Cx) (ex : Option Exn) (vl : List Nat) (es : List Expr) (ts : List DT) : Prop := PGs X es (RTs X ex vl ts)
theorem PGs.of {es : List Expr} {t t' : TGs} (h : PGs X es t) (w : ∀ vs σ H Q, t' vs σ H Q → t vs σ H Q) : PGs X es t' := ⟨fun pins s σ H vs us Q I r q => h.run pins s σ H vs us Q I r (w _ _ _ _ q)⟩
theorem PG.of {e : Expr} {t t' : TG} (h : PG X e t) (w : ∀ v σ H Q, t' v σ H Q → t v σ H Q) : PG X e t' := ⟨fun pins s σ H v u Q I r q => h.run pins s σ H v u Q I r (w _ _ _ _ q)⟩
theorem igs_nil {vl : List Nat} : IGs X ex vl [] [] := PGs.of pgs_nil fun vs σ H Q ⟨ρ, env, st, ws, s, e, r, env', st', q, p⟩ => by
  cases ws with
  | nil =>
    simp only [VRs] at r
    simp only [tAll, Option.some.injEq, Prod.mk.injEq] at q
    obtain ⟨rfl, rfl⟩ := q
    exact ⟨r, p ρ H σ .refl s e rfl⟩
  | cons w ws => simp [tAll] at q
theorem igs_cons {vl : List Nat} {e : Expr} {es : List Expr} {t : DT} {ts : List DT} (h1 : IG X ex vl e t) (h2 : IGs X ex vl es ts) (hs : (assignEach (e :: es) X.env).map (·.2) = assign e X.env :: (assignEach es X.env).map (·.2) := by rfl) : IGs X ex vl (e :: es) (t :: ts) :=
  PGs.of (pgs_cons h1 h2 hs) fun vs σ H Q ⟨ρ, env, st, ws, s, e, r, env', st', q, p⟩ => by
    cases ws with
    | nil => simp [tAll] at q
    | cons w ws =>
      simp only [VRs] at r
      obtain ⟨u, us, rfl, ru, rs⟩ := r
      unfold tAll at q
      cases ht : t w env st with
      | none => rw [ht] at q; cases q
      | some pr =>
        obtain ⟨env1, st1⟩ := pr
        rw [ht] at q
        refine ⟨u, us, rfl, ρ, env, st, w, s, e, ru, env1, st1, ht, fun ρ1 H1 σ1 g s1 e1 w1 => ?_⟩
        exact ⟨ρ1, env1, st1, ws, s1, e1, VRs.grow s.apart g ws us rs, env', st', q, fun ρ' H' σ' g' s' e' w' => p ρ' H' σ' (g.trans g') s' e' (w'.trans w1)⟩
theorem tAll_len : ∀ {ts : List DT} {ws : List W} {env : EnvW} {st : Store} {r : EnvW × Store}, tAll ts ws env st = some r → ws.length = ts.length
  | [], [], _, _, _, _ => rfl
  | [], _ :: _, _, _, _, h => by simp [tAll] at h
  | _ :: _, [], _, _, _, h => by simp [tAll] at h
  | t :: ts, w :: ws, env, st, r, h => by
    unfold tAll at h
    cases ht : t w env st with
    | none => rw [ht] at h; cases h
    | some pr => rw [ht] at h; simp [tAll_len (show tAll ts ws pr.1 pr.2 = some r from h)]
theorem ig_tup {vl : List Nat} {es : List Expr} {k : Nat} {ts : List DT} (hc : X.calm = true) (h : IGs X ex vl es ts) (hn : (assignEach es X.env).length = ts.length := by rfl) (hst : (assignEach es X.env).findIdx? (·.1) = none := by rfl) : IG X ex vl (.Tuple es k pos) (tTupT ts) :=
  PG.of (pg_tup hc h hn hst) fun v σ H Q ⟨ρ, env, st, w, s, e, r, env', st', q, p⟩ => by
    cases w with
    | tup ws =>
      simp only [VR] at r
      obtain ⟨a, us, rfl, ht, rs⟩ := r
      have q' : tAll ts ws env st = some (env', st') := q
      exact ⟨a, us, rfl, ht.sq, by rw [← VRs.length rs, tAll_len q'], ρ, env, st, ws, s, e, rs, env', st', q', p⟩
    | _ => simp [tTupT] at q
end
end MP
namespace MP
open PySem PySem.Spec PyProof.Rows L2
open Classical
noncomputable section

/-! ### what is walked -/
structure ItW where
  items : List W
  src : Option Nat
/-- the list that is walked stands as it stood -/
def ItW.Chk (it : ItW) (st : Store) : Prop := match it.src with
  | none => True
  | some n => st[n]? = some (.lst it.items)
@[simp] theorem ItW.chk_none (l : List W) (st : Store) : ItW.Chk ⟨l, none⟩ st = True := rfl
@[simp] theorem ItW.chk_some (l : List W) (n : Nat) (st : Store) : ItW.Chk ⟨l, some n⟩ st = (st[n]? = some (.lst l)) := rfl
def signs (x : Str) : List W := x.cps.toList.map fun c => .str ⟨#[c]⟩
def intsW (lo : Int) (n : Nat) : List W := (List.range n).map fun i => .int (lo + (i : Nat))
def itOf (a : W) (st : Store) : Res ItW := match a with
  | .tup xs => .ok ⟨xs, none⟩ st
  | .fro xs => .ok ⟨xs, none⟩ st
  | .str x => .ok ⟨signs x, none⟩ st
  | .loc n => match st[n]? with
    | some (.lst xs) => .ok ⟨xs, some n⟩ st
    | none => .stuck
  | .rng lo hi => if -(2 ^ 62) ≤ lo ∧ lo < 2 ^ 62 ∧ -(2 ^ 62) ≤ hi ∧ hi < 2 ^ 62 then .ok ⟨intsW lo (hi - lo).toNat, none⟩ st else .stuck
  | _ => .stuck
def dIt (m : D W) : D ItW := fun env st => (m env st).bind fun a st1 => itOf a st1
def rangeW (lo hi : Int) (st : Store) : Res ItW := if -(2 ^ 62) ≤ lo ∧ lo < 2 ^ 62 ∧ -(2 ^ 62) ≤ hi ∧ hi < 2 ^ 62 then .ok ⟨intsW lo (hi - lo).toNat, none⟩ st else .stuck
def rangeOf (l : List W) (st : Store) : Res ItW := match l with
  | [.int j] => rangeW 0 j st
  | [.int i, .int j] => rangeW i j st
  | _ => .stuck
def dRange (m : D (List W)) : D ItW := fun env st => (m env st).bind fun l st1 => rangeOf l st1
def dRange1 (m : D (List W)) : D ItW := dRange (fun env st => (m env st).bind fun l st1 => match l with | [.int j] => .ok [.int j] st1 | _ => .stuck)
def dRange2 (m : D (List W)) : D ItW := dRange (fun env st => (m env st).bind fun l st1 => match l with | [.int i, .int j] => .ok [.int i, .int j] st1 | _ => .stuck)
def forW (chk : Store → Prop) (t : DT) (b : DS) : List W → DS
  | [], env, st => if chk st then .go .nx env st else .stuck
  | w :: ws, env, st => if chk st then
      match t w env st with
      | none => .stuck
      | some (env1, st1) => match b env1 st1 with
        | .go .nx env2 st2 => forW chk t b ws env2 st2
        | .go .ct env2 st2 => forW chk t b ws env2 st2
        | .go .bk env2 st2 => .go .nx env2 st2
        | r => r
    else .stuck
def sFor (m : D ItW) (t : DT) (b : DS) : DS := fun env st => (m env st).then env fun it st1 => forW it.Chk t b it.items env st1
def whileF (c : D Bool) (b : DS) : Nat → DS
  | 0, _, _ => .stuck
  | n + 1, env, st => (c env st).then env fun k st1 => if k = true then
      match b env st1 with
      | .go .nx env2 st2 => whileF c b n env2 st2
      | .go .ct env2 st2 => whileF c b n env2 st2
      | .go .bk env2 st2 => .go .nx env2 st2
      | r => r
    else .go .nx env st1
def sWhile (c : D Bool) (b : DS) : DS := fun env st => if h : ∃ n, whileF c b n env st ≠ .stuck then whileF c b h.choose env st else .stuck
/-- a comprehension's elements -/
def wipeW (env : EnvW) : List Nat → EnvW
  | [] => env
  | v :: vs => (wipeW env vs).set v none
def lcW (chk : Store → Prop) (env : EnvW) (t : DT) (c : D Bool) (e : D W) : List W → List W → Store → Option (List W × Store)
  | [], acc, st => if chk st then some (acc, st) else none
  | w :: ws, acc, st => if chk st then
      match t w env st with
      | none => none
      | some (env1, st1) => match c env1 st1 with
        | .ok true st2 => match e env1 st2 with
          | .ok y st3 => if acc.length < sizeLine then lcW chk env t c e ws (acc ++ [y]) st3 else none
          | _ => none
        | .ok false st2 => lcW chk env t c e ws acc st2
        | _ => none
    else none
def dYes : D Bool := fun _ st => .ok true st
def dLc (m : D ItW) (vs : List Nat) (t : DT) (c : D Bool) (e : D W) : D W := fun env st => (m env st).bind fun it st1 =>
  match lcW it.Chk (wipeW env vs) t c e it.items [] st1 with
  | some (acc, st2) => .ok (.loc st2.length) (st2 ++ [.lst acc])
  | none => .stuck

section
variable {X : Cx} {ex : Option Exn} {Wx : WX} {pos : Pos}
/-- an iterator walks these things -/
def relI (X : Cx) : List Addr → Hp → ItW → It → Prop := fun ρ0 H0 it J =>
  ∀ ρ H st, Grow ρ0 H0 ρ H → StR X.K ρ H st → it.Chk st → ∀ i, (∀ w, it.items[i]? = some w → J.go i H ∧ ∀ x H', J.yld i H x H' → Grow ρ H ρ H' ∧ StR X.K ρ H' st ∧ VR X.K ρ H' w x) ∧ (it.items.length ≤ i → J.stop i H)
abbrev II (X : Cx) (ex : Option Exn) (Wx : WX) (tg e : Expr) (m : D ItW) : Prop := PI X tg e (RG X ex Wx (relI X) m)
theorem PI.of {tg e : Expr} {t t' : TI} (h : PI X tg e t) (w : ∀ σ H R, t' σ H R → t σ H R) : PI X tg e t' := ⟨fun pins s σ H R I q => h.run pins s σ H R I (w _ _ _ q)⟩
theorem PI.or {tg e : Expr} {t t' : TI} (h : PI X tg e t) (h' : PI X tg e t') : PI X tg e (fun σ H R => t σ H R ∨ t' σ H R) := ⟨fun pins s σ H R I q => by
  rcases q with q | q
  · exact h.run pins s σ H R I q
  · exact h'.run pins s σ H R I q⟩
theorem relI_list {ρ : List Addr} {H : Hp} {st : Store} {ws : List W} {us : List V} {a : Addr} (s : StR X.K ρ H st) (ht : SqF X.K H a us) (r : VRs X.K ρ H ws us) : relI X ρ H ⟨ws, none⟩ (Itl X.K a) := by
  intro ρ' H' st' g s' _ i
  have h' := ht.grow s.apart g
  have r' := VRs.grow s.apart g ws us r
  refine ⟨fun w e => ?_, fun h => ⟨us, h'.sq, by rw [← VRs.length r]; exact h⟩⟩
  obtain ⟨v, e1, rv⟩ := r'.get e
  refine ⟨⟨us, v, h'.sq, e1⟩, fun x H2 ⟨e2, y⟩ => ?_⟩
  subst e2
  have := y us h'.sq
  rw [e1] at this; cases this
  exact ⟨.refl, s', rv⟩
theorem relI_tup {ρ : List Addr} {H : Hp} {st : Store} {ws : List W} {us : List V} {a : Addr} (s : StR X.K ρ H st) (ht : TpF X.K H a us) (r : VRs X.K ρ H ws us) : relI X ρ H ⟨ws, none⟩ (Itt X.K a) := by
  intro ρ' H' st' g s' _ i
  have h' := ht.grow s.apart g
  have r' := VRs.grow s.apart g ws us r
  refine ⟨fun w e => ?_, fun h => ⟨us, h'.sq, by rw [← VRs.length r]; exact h⟩⟩
  obtain ⟨v, e1, rv⟩ := r'.get e
  refine ⟨⟨us, v, h'.sq, e1⟩, fun x H2 ⟨e2, y⟩ => ?_⟩
  subst e2
  have := y us h'.sq
  rw [e1] at this; cases this
  exact ⟨.refl, s', rv⟩
theorem relI_loc {ρ : List Addr} {H : Hp} {ws : List W} {n : Nat} {a : Addr} (hn : ρ[n]? = some a) : relI X ρ H ⟨ws, some n⟩ (Itl X.K a) := by
  intro ρ' H' st' g s' ck i
  obtain ⟨m, e, _⟩ := g.pre
  subst e
  obtain ⟨b, hb, us, hu, r⟩ := s'.ob n (.lst ws) ck
  have : b = a := by
    rw [List.getElem?_append_left (List.getElem?_eq_some_iff.mp hn).1, hn] at hb
    exact (Option.some.inj hb).symm
  subst this
  have hs : SqL X.K H' b us := .inl (.inl hu)
  refine ⟨fun w e => ?_, fun h => ⟨us, hs, by rw [← VRs.length r]; exact h⟩⟩
  obtain ⟨v, e1, rv⟩ := r.get e
  refine ⟨⟨us, v, hs, e1⟩, fun x H2 ⟨e2, y⟩ => ?_⟩
  subst e2
  have := y us hs
  rw [e1] at this; cases this
  exact ⟨.refl, s', rv⟩
theorem relI_str {ρ : List Addr} {H : Hp} {z : Str} : relI X ρ H ⟨signs z, none⟩ (Its z) := by
  intro ρ' H' st' g s' _ i
  have hl : (signs z).length = z.cps.size := by simp [signs]
  refine ⟨fun w e => ?_, fun h => by show z.cps.size ≤ i; rw [← hl]; exact h⟩
  simp only [signs, List.getElem?_map] at e
  cases hc : z.cps.toList[i]? with
  | none => rw [hc] at e; cases e
  | some c =>
    rw [hc] at e
    cases e
    have hi : i < z.cps.size := by simpa using (List.getElem?_eq_some_iff.mp hc).1
    refine ⟨hi, fun x H2 ⟨e2, c', hc', e3⟩ => ?_⟩
    subst e2; subst e3
    have hcc : z.cps[i]? = some c := by simpa using hc
    rw [hcc] at hc'; cases hc'
    exact ⟨.refl, s', by simp [VR]⟩
theorem relI_range {ρ : List Addr} {H : Hp} {lo : Int} {n : Nat} : relI X ρ H ⟨intsW lo n, none⟩ (Itr lo n) := by
  intro ρ' H' st' g s' _ i
  have hl : (intsW lo n).length = n := by simp [intsW]
  refine ⟨fun w e => ?_, fun h => by show n ≤ i; rw [← hl]; exact h⟩
  have hi : i < n := by rw [← hl]; exact (List.getElem?_eq_some_iff.mp e).1
  refine ⟨hi, fun x H2 ⟨e2, e3⟩ => ?_⟩
  subst e2; subst e3
  simp only [intsW, List.getElem?_map, List.getElem?_range hi, Option.map_some, Option.some.injEq] at e
  subst e
  exact ⟨.refl, s', by simp [VR]⟩
/-- a range that a name holds -/
def iRngV (te : TE) : TI := fun σ H R => te σ H fun x H1 => ∃ (a : Addr) (lo hi : Int), x = .ref a ∧ H1 a = some (.rng lo hi) ∧ (-(2 ^ 62) ≤ lo ∧ lo < 2 ^ 62 ∧ -(2 ^ 62) ≤ hi ∧ hi < 2 ^ 62) ∧ R (Itr lo (hi - lo).toNat) H1
theorem pi_rngV {X : Cx} {tg e : Expr} {te : TE} (he : PE X e te) : PI X tg e (iRngV te) := by
  refine ⟨fun pins s σ H R I h => thn (he.run pins s σ H _ I h) fun v s1 ⟨x, H1, I1, r1, q1⟩ => ?_⟩
  obtain ⟨a, lo, hi, rfl, hq, ⟨h1, h2, h3, h4⟩, q⟩ := q1
  cases r1
  obtain ⟨t, u, v, hget⟩ := I1.hok a _ hq
  refine wpAny_pyIter_range (show IsRange s1.heap a lo hi 1 t u v from hget) (small_one h1 h2 h3 h4) ?_
  refine ⟨s1.heap.objs.size, [s1.heap.objs.size], _, _, H1, rfl, I1.kept (t' := s1.toks) fun b o e => Heap.get?_push_of_some _ e, turn_range _ lo (hi - lo).toNat, ?_, fun b hb => ?_, q⟩
  · have e1 : lo + ((0 : Nat) : Int) * 1 = lo := by simp
    have e2 : (((hi - lo).toNat : Nat) : Int) - ((0 : Nat) : Int) = Builtin.Range.rangeSize lo hi 1 := by rw [rangeSize_one]; split <;> omega
    show IsRangeIter _ _ (lo + ((0 : Nat) : Int) * 1) ((((hi - lo).toNat : Nat) : Int) - ((0 : Nat) : Int)) 1
    rw [e1, e2]
    exact Heap.get?_push_size _ rfl
  · have e : b = s1.heap.objs.size := by simpa using hb
    subst e
    exact I1.fpOk (Nat.le_refl _) (I1.hok.fresh (Nat.le_refl _))
theorem ii_val {tg e : Expr} {m : D W} (he : IE X ex Wx e m) : II X ex Wx tg e (dIt m) := by
  refine PI.of (PI.or (pi_list he) (PI.or (pi_tup he) (PI.or (pi_str he) (pi_rngV he)))) fun σ H R ⟨ρ, env, st, s, e, p⟩ => ?_
  have key : ∀ (ok : W → Store → Prop) (R' : V → Hp → Prop), (∀ a st1, m env st = .ok a st1 → ok a st1) →
      (∀ ρ1 H1 st1 a x, ok a st1 → Grow ρ H ρ1 H1 → StR X.K ρ1 H1 st1 → VR X.K ρ1 H1 a x → Post X.K X.mg Wx (relI X) ρ1 H1 σ (itOf a st1) R → R' x H1) → RG X ex Wx (relV X.K) m σ H R' := fun ok R' h1 h2 => by
    refine ⟨ρ, env, st, s, e, ?_⟩
    unfold dIt at p
    generalize hm : m env st = r at p h1
    cases r with
    | ok a st' => exact fun ρ' H' x g s' r => h2 ρ' H' st' a x (h1 a st' rfl) g s' r (Post.mono p g)
    | err c fs st' => exact p
    | stuck => exact p
  have p0 := p
  unfold dIt at p0
  generalize hm : m env st = r at p0
  cases r with
  | stuck => exact p0.elim
  | err c fs st' =>
    refine .inl (key (fun _ _ => False) _ (fun a st1 h => ?_) (fun _ _ _ _ _ h => h.elim))
    rw [hm] at h; cases h
  | ok a0 st0 =>
    have same : ∀ a st1, m env st = .ok a st1 → (a = a0 ∧ st1 = st0) := fun a st1 h => by rw [hm] at h; cases h; exact ⟨rfl, rfl⟩
    cases a0 with
    | tup xs =>
      refine .inr (.inl (key _ _ same fun ρ1 H1 st1 a x h g s1 r q => ?_))
      obtain ⟨rfl, rfl⟩ := h
      simp only [VR] at r
      obtain ⟨ad, us, rfl, ht, rs⟩ := r
      exact ⟨ad, rfl, ⟨us, ht.sq⟩, q ρ1 H1 _ .refl s1 (relI_tup s1 ht rs)⟩
    | fro xs =>
      refine .inl (key _ _ same fun ρ1 H1 st1 a x h g s1 r q => ?_)
      obtain ⟨rfl, rfl⟩ := h
      simp only [VR] at r
      obtain ⟨ad, us, rfl, ht, rs⟩ := r
      exact ⟨ad, rfl, ⟨us, ht.sq⟩, q ρ1 H1 _ .refl s1 (relI_list s1 ht rs)⟩
    | loc n =>
      refine .inl (key _ _ same fun ρ1 H1 st1 a x h g s1 r q => ?_)
      obtain ⟨rfl, rfl⟩ := h
      simp only [VR] at r
      obtain ⟨ad, hn, rfl⟩ := r
      simp only [itOf] at q
      split at q
      · rename_i xs hx
        obtain ⟨b, hb, us, hu, rs⟩ := s1.ob n (.lst xs) hx
        rw [hn] at hb; cases hb
        exact ⟨ad, rfl, ⟨us, .inl (.inl hu)⟩, q ρ1 H1 _ .refl s1 (relI_loc hn)⟩
      · exact q.elim
    | str z =>
      refine .inr (.inr (.inl (key _ _ same fun ρ1 H1 st1 a x h g s1 r q => ?_)))
      obtain ⟨rfl, rfl⟩ := h
      simp only [VR] at r
      exact ⟨z, r, q ρ1 H1 _ .refl s1 relI_str⟩
    | rng lo hi =>
      refine .inr (.inr (.inr (key _ _ same fun ρ1 H1 st1 a x h g s1 r q => ?_)))
      obtain ⟨rfl, rfl⟩ := h
      simp only [VR] at r
      obtain ⟨ad, rfl, hr⟩ := r
      simp only [itOf] at q
      split at q
      · rename_i hb
        exact ⟨ad, lo, hi, rfl, hr, hb, q ρ1 H1 _ .refl s1 relI_range⟩
      · exact q.elim
    | _ => exact p0.elim
theorem ii_range1 {tg a : Expr} {m : D (List W)} {p' : Pos} (hg : Gl X "range") (hm : X.mg "range" = none) (ha : IA X ex Wx [a] m) (hs : starEach [a] X.env = [(false, eval a X.env)] := by rfl) : II X ex Wx tg (.Call (.Name "range" p') [a] [] pos) (dRange1 m) :=
  PI.of (pi_range1 hg hm ha hs) fun σ H R ⟨ρ, env, st, s, e, p⟩ => by
    have p' : Post X.K X.mg Wx (relI X) ρ H σ ((m env st).bind fun l st1 => match l with | [.int j] => rangeW 0 j st1 | _ => .stuck) R := by
      unfold dRange1 dRange at p
      simp only at p
      generalize m env st = r at p ⊢
      cases r with
      | ok l st1 =>
        simp only [Res.bind_ok] at p ⊢
        match l, p with
        | [.int j], p => exact p
      | err c fs st1 => exact p
      | stuck => exact p
    refine RG.bind s e p' fun ρ1 H1 st1 l vs g1 s1 e1 r q => ?_
    match l, q, r with
    | [.int j], q, r =>
      simp only [VRs, VR] at r
      obtain ⟨_, _, rfl, rfl, rfl⟩ := r
      simp only [rangeW] at q
      split at q
      · rename_i hb
        have e0 : (j - 0).toNat = j.toNat := by omega
        rw [e0] at q
        exact ⟨j, rfl, hb.2.2.1, hb.2.2.2, q ρ1 H1 _ .refl s1 relI_range⟩
      · exact q.elim
theorem ii_range2 {tg a b : Expr} {m : D (List W)} {p' : Pos} (hg : Gl X "range") (hm : X.mg "range" = none) (ha : IA X ex Wx [a, b] m) (hs : starEach [a, b] X.env = [(false, eval a X.env), (false, eval b X.env)] := by rfl) (hs2 : starEach [b] X.env = [(false, eval b X.env)] := by rfl) :
    II X ex Wx tg (.Call (.Name "range" p') [a, b] [] pos) (dRange2 m) :=
  PI.of (pi_range2 hg hm ha hs hs2) fun σ H R ⟨ρ, env, st, s, e, p⟩ => by
    have p' : Post X.K X.mg Wx (relI X) ρ H σ ((m env st).bind fun l st1 => match l with | [.int i, .int j] => rangeW i j st1 | _ => .stuck) R := by
      unfold dRange2 dRange at p
      simp only at p
      generalize m env st = r at p ⊢
      cases r with
      | ok l st1 =>
        simp only [Res.bind_ok] at p ⊢
        match l, p with
        | [.int i, .int j], p => exact p
      | err c fs st1 => exact p
      | stuck => exact p
    refine RG.bind s e p' fun ρ1 H1 st1 l vs g1 s1 e1 r q => ?_
    match l, q, r with
    | [.int i, .int j], q, r =>
      simp only [VRs, VR] at r
      obtain ⟨_, _, rfl, rfl, _, _, rfl, rfl, rfl⟩ := r
      simp only [rangeW] at q
      split at q
      · rename_i hb
        exact ⟨i, j, rfl, hb, q ρ1 H1 _ .refl s1 relI_range⟩
      · exact q.elim
/-! ### loops -/
theorem is_for {vs : List Nat} {tg iter : Expr} {body : List Stmt} {m : D ItW} {t : DT} {b : DS} (hp : PassesOwn (model X.prog X.w) X.A X.env X.xe) (hc : X.calm = true) (hi : II X ex Wx tg iter m) (hg : IG X ex vs tg t) (hb : ISs X ex Wx body b) (hs : ∀ x, foldedSetIterable iter X.env x = pure x := by intro _; rfl) : IS X ex Wx (.For tg iter body [] pos) (sFor m t b) :=
  PS.of (ps_for hp hc hi hg hb hs) fun De σ H ⟨ρ, env, st, s, e, p⟩ => RS.step (rel := relI X) s e p fun ρ1 H1 st1 it J g s1 e1 r q => by
    refine ⟨fun i m σ H => m = it.items.length - i ∧ i ≤ it.items.length ∧ ∃ ρ env st, Grow ρ1 H1 ρ H ∧ StR X.K ρ H st ∧ EnvR X.K ex ρ H env σ ∧ PostS X.K ex X.mg Wx De ρ H (forW it.Chk t b (it.items.drop i) env st),
      ⟨_, rfl, Nat.zero_le _, ρ1, env, st1, .refl, s1, e1, q⟩, ?_⟩
    rintro i m σ' H' ⟨rfl, hi, ρ', env', st', g', s', e', q'⟩
    by_cases hlt : i < it.items.length
    · rw [List.drop_eq_getElem_cons hlt] at q'
      unfold forW at q'
      split at q'
      · rename_i ck
        obtain ⟨go, stop⟩ := r ρ' H' st' g' s' ck i
        obtain ⟨hgo, hy⟩ := go _ (List.getElem?_eq_getElem hlt)
        refine .inr ⟨hgo, fun σ2 H2 => ∃ ρ env st, Grow ρ1 H1 ρ H2 ∧ StR X.K ρ H2 st ∧ EnvR X.K ex ρ H2 env σ2 ∧ PostS X.K ex X.mg Wx De ρ H2 (forW it.Chk t b (it.items.drop (i + 1)) env st), fun σ2 H2 n => ⟨_, by omega, rfl, hlt, n⟩, fun x H2 y => ?_⟩
        obtain ⟨g2, s2, rv⟩ := hy x H2 y
        have e2 := e'.grow s'.apart g2
        cases ht : t it.items[i] env' st' with
        | none => rw [ht] at q'; exact q'.elim
        | some pr =>
          obtain ⟨env3, st3⟩ := pr
          rw [ht] at q'
          refine ⟨ρ', env', st', _, s2, e2, rv, env3, st3, ht, fun ρ3 H3 σ3 g3 s3 e3 _ => ⟨ρ3, env3, st3, s3, e3, ?_⟩⟩
          simp only at q'
          have gg := g'.trans (g2.trans g3)
          have q3 := PostS.mono q' (g2.trans g3)
          generalize hbr : b env3 st3 = br at q3
          cases br with
          | stuck => exact q3
          | err c fs env4 st4 => exact q3
          | go f env4 st4 =>
            cases f with
            | nx => exact fun ρ4 H4 σ4 g4 s4 e4 => ⟨ρ4, env4, st4, gg.trans g4, s4, e4, PostS.mono q3 g4⟩
            | ct => exact fun ρ4 H4 σ4 g4 s4 e4 => ⟨ρ4, env4, st4, gg.trans g4, s4, e4, PostS.mono q3 g4⟩
            | bk => exact q3
            | rt v => exact q3
      · exact q'.elim
    · have : i = it.items.length := by omega
      subst this
      rw [List.drop_length] at q'
      unfold forW at q'
      split at q'
      · rename_i ck
        exact .inl ⟨(r ρ' H' st' g' s' ck _).2 (Nat.le_refl _), PostS.go_ (f := .nx) q' s' e'⟩
      · exact q'.elim
theorem is_while {c : Expr} {body : List Stmt} {mc : D Bool} {b : DS} (hp : PassesOwn (model X.prog X.w) X.A X.env X.xe) (hc : IT X ex Wx c mc) (hb : ISs X ex Wx body b) : IS X ex Wx (.While c body [] pos) (sWhile mc b) :=
  PS.of (ps_while hp hc hb) fun De σ H ⟨ρ, env, st, s, e, p⟩ => by
    unfold sWhile at p
    split at p
    · rename_i hn
      refine ⟨fun m σ H => ∃ ρ env st, StR X.K ρ H st ∧ EnvR X.K ex ρ H env σ ∧ PostS X.K ex X.mg Wx De ρ H (whileF mc b m env st), ⟨_, ρ, env, st, s, e, p⟩, ?_⟩
      rintro m σ' H' ⟨ρ', env', st', s', e', q⟩
      cases m with
      | zero => exact q.elim
      | succ m =>
        unfold whileF at q
        refine RS.step (rel := relE) s' e' q fun ρ1 H1 st1 k x g1 s1 e1 r p1 => ?_
        have r' : k = x := r
        subst r'
        by_cases h : k = true
        · rw [if_pos h] at p1 ⊢
          refine ⟨fun σ2 H2 => ∃ ρ env st, StR X.K ρ H2 st ∧ EnvR X.K ex ρ H2 env σ2 ∧ PostS X.K ex X.mg Wx De ρ H2 (whileF mc b m env st), fun σ2 H2 n => ⟨m, Nat.lt_succ_self m, n⟩, ρ1, env', st1, s1, e1, ?_⟩
          generalize hbr : b env' st1 = br at p1
          cases br with
          | stuck => exact p1
          | err c fs env4 st4 => exact p1
          | go f env4 st4 =>
            cases f with
            | nx => exact fun ρ4 H4 σ4 g4 s4 e4 => ⟨ρ4, env4, st4, s4, e4, PostS.mono p1 g4⟩
            | ct => exact fun ρ4 H4 σ4 g4 s4 e4 => ⟨ρ4, env4, st4, s4, e4, PostS.mono p1 g4⟩
            | bk => exact p1
            | rt v => exact p1
        · rw [if_neg h] at p1 ⊢
          exact PostS.go_ (f := .nx) p1 s1 e1
    · exact p.elim
end
theorem whileF_mono {c : D Bool} {b : DS} : ∀ {n m : Nat} {env : EnvW} {st : Store}, whileF c b n env st ≠ .stuck → n ≤ m → whileF c b m env st = whileF c b n env st
  | 0, _, _, _, h, _ => absurd rfl h
  | n + 1, 0, _, _, _, hl => by omega
  | n + 1, m + 1, env, st, h, hl => by
    unfold whileF at h ⊢
    cases hc : c env st with
    | stuck => rfl
    | err x fs st1 => rfl
    | ok k st1 =>
      rw [hc] at h
      simp only [Res.then_ok] at h ⊢
      by_cases hk : k = true
      · rw [if_pos hk] at h ⊢
        rw [if_pos hk]
        cases hb : b env st1 with
        | stuck => rfl
        | err x fs env2 st2 => rfl
        | go f env2 st2 =>
          rw [hb] at h
          cases f with
          | nx => exact whileF_mono (n := n) (m := m) h (by omega)
          | ct => exact whileF_mono (n := n) (m := m) h (by omega)
          | bk => rfl
          | rt v => rfl
      · rw [if_neg hk, if_neg hk]
theorem sWhile_eq {c : D Bool} {b : DS} {env : EnvW} {st : Store} {r : RsS} (n : Nat) (h : whileF c b n env st = r) (hr : r ≠ .stuck) : sWhile c b env st = r := by
  have h1 : whileF c b n env st ≠ .stuck := by rw [h]; exact hr
  unfold sWhile
  rw [dif_pos ⟨n, h1⟩]
  have h2 := (⟨n, h1⟩ : ∃ n, whileF c b n env st ≠ .stuck).choose_spec
  rcases Nat.le_total n (⟨n, h1⟩ : ∃ n, whileF c b n env st ≠ .stuck).choose with hl | hl
  · rw [whileF_mono h1 hl, h]
  · rw [← whileF_mono h2 hl, h]
end
end MP
namespace MP
open PySem PySem.Spec PyProof.Rows L2
open Classical
noncomputable section

/-! ### comprehensions -/
mutual
theorem VR.imm {K : PySem.W.Frag} {ρ : List Addr} {H H' : Hp} (h1 : ∀ a xs, H a = some (.tup xs) → H' a = some (.tup xs)) (h2 : ∀ a o u, H a = some (.frz o u) → H' a = some (.frz o u)) (h3 : ∀ a i j, H a = some (.rng i j) → H' a = some (.rng i j)) : ∀ (w : W) (v : V), VR K ρ H w v → VR K ρ H' w v
  | .non, _, h => by simpa only [VR] using h
  | .bl _, _, h => by simpa only [VR] using h
  | .int _, _, h => by simpa only [VR] using h
  | .str _, _, h => by simpa only [VR] using h
  | .gl _, _, h => by simpa only [VR] using h
  | .loc n, _, h => by simpa only [VR] using h
  | .rng i j, v, h => by
    simp only [VR] at h ⊢
    obtain ⟨a, e, r⟩ := h
    exact ⟨a, e, h3 a i j r⟩
  | .tup ws, v, h => by
    simp only [VR] at h ⊢
    obtain ⟨a, us, e, t, r⟩ := h
    exact ⟨a, us, e, t.imp (h1 a us) id, VRs.imm h1 h2 h3 ws us r⟩
  | .fro ws, v, h => by
    simp only [VR] at h ⊢
    obtain ⟨a, us, e, t, r⟩ := h
    exact ⟨a, us, e, t.imp (fun ⟨o, z⟩ => ⟨o, h2 a o _ z⟩) id, VRs.imm h1 h2 h3 ws us r⟩
theorem VRs.imm {K : PySem.W.Frag} {ρ : List Addr} {H H' : Hp} (h1 : ∀ a xs, H a = some (.tup xs) → H' a = some (.tup xs)) (h2 : ∀ a o u, H a = some (.frz o u) → H' a = some (.frz o u)) (h3 : ∀ a i j, H a = some (.rng i j) → H' a = some (.rng i j)) : ∀ (ws : List W) (vs : List V), VRs K ρ H ws vs → VRs K ρ H' ws vs
  | [], _, h => by simpa only [VRs] using h
  | w :: ws, vs, h => by
    simp only [VRs] at h ⊢
    obtain ⟨u, us, e, r, rs⟩ := h
    exact ⟨u, us, e, VR.imm h1 h2 h3 w u r, VRs.imm h1 h2 h3 ws us rs⟩
end
mutual
theorem VR.more {K : PySem.W.Frag} {ρ m : List Addr} {H : Hp} : ∀ (w : W) (v : V), VR K ρ H w v → VR K (ρ ++ m) H w v
  | .non, _, h => by simpa only [VR] using h
  | .bl _, _, h => by simpa only [VR] using h
  | .int _, _, h => by simpa only [VR] using h
  | .str _, _, h => by simpa only [VR] using h
  | .gl _, _, h => by simpa only [VR] using h
  | .rng i j, _, h => by simpa only [VR] using h
  | .loc n, _, h => by
    simp only [VR] at h ⊢
    obtain ⟨a, e, r⟩ := h
    exact ⟨a, by rw [List.getElem?_append_left (List.getElem?_eq_some_iff.mp e).1]; exact e, r⟩
  | .tup ws, v, h => by
    simp only [VR] at h ⊢
    obtain ⟨a, us, e, t, r⟩ := h
    exact ⟨a, us, e, t, VRs.more ws us r⟩
  | .fro ws, v, h => by
    simp only [VR] at h ⊢
    obtain ⟨a, us, e, t, r⟩ := h
    exact ⟨a, us, e, t, VRs.more ws us r⟩
theorem VRs.more {K : PySem.W.Frag} {ρ m : List Addr} {H : Hp} : ∀ (ws : List W) (vs : List V), VRs K ρ H ws vs → VRs K (ρ ++ m) H ws vs
  | [], _, h => by simpa only [VRs] using h
  | w :: ws, vs, h => by
    simp only [VRs] at h ⊢
    obtain ⟨u, us, e, r, rs⟩ := h
    exact ⟨u, us, e, VR.more w u r, VRs.more ws us rs⟩
end
section
variable {X : Cx} {Wx : WX} {pos : Pos}
/-- a list that the store doesn't have is changed -/
theorem side_imm {H : Hp} {D : Addr} {xs : List V} {o : HO} (hD : H D = some (.lst xs)) : (∀ a ys, H a = some (.tup ys) → upd H D o a = some (.tup ys)) ∧ (∀ a b u, H a = some (.frz b u) → upd H D o a = some (.frz b u)) ∧ (∀ a i j, H a = some (.rng i j) → upd H D o a = some (.rng i j)) := by
  refine ⟨fun a ys e => ?_, fun a b u e => ?_, fun a i j e => ?_⟩
  · rw [upd_ne (ne_of e hD (by intro z; cases z))]; exact e
  · rw [upd_ne (ne_of e hD (by intro z; cases z))]; exact e
  · rw [upd_ne (ne_of e hD (by intro z; cases z))]; exact e
theorem StR.side {K : PySem.W.Frag} {ρ : List Addr} {H : Hp} {st : Store} {D : Addr} {xs : List V} {o : HO} (s : StR K ρ H st) (hD : H D = some (.lst xs)) (hn : D ∉ ρ) : StR K ρ (upd H D o) st := by
  obtain ⟨i1, i2, i3⟩ := side_imm (o := o) hD
  refine ⟨s.len, s.nd, fun n ob e => ?_⟩
  obtain ⟨a, ha, hob⟩ := s.ob n ob e
  have hne : a ≠ D := fun z => hn (z ▸ List.mem_of_getElem? ha)
  refine ⟨a, ha, ?_⟩
  cases ob with
  | lst ws =>
    obtain ⟨us, hu, hr⟩ := hob
    exact ⟨us, by rw [upd_ne hne]; exact hu, VRs.imm i1 i2 i3 ws us hr⟩
theorem EnvR.side {K : PySem.W.Frag} {ρ : List Addr} {H : Hp} {env : EnvW} {σ : L2.St} {D : Addr} {xs : List V} {o : HO} (e : EnvR K none ρ H env σ) (hD : H D = some (.lst xs)) : EnvR K none ρ (upd H D o) env σ := by
  obtain ⟨i1, i2, i3⟩ := side_imm (o := o) hD
  exact ⟨e.len, fun i w h => let ⟨v, h1, h2⟩ := e.at_ i w h; ⟨v, h1, VR.imm i1 i2 i3 w v h2⟩, fun _ h => nomatch h⟩
theorem EnvR.wipe {K : PySem.W.Frag} {ρ : List Addr} {H : Hp} {env : EnvW} {σ : L2.St} (e : EnvR K none ρ H env σ) : ∀ vs : List Nat, EnvR K none ρ H (wipeW env vs) (wipe σ vs)
  | [] => e
  | v :: vs => (e.wipe vs).unset .none
abbrev W0 : WX := fun _ _ _ _ => False
/-- a comprehension with one for -/
theorem lc_read {env : EnvW} {st : Store} {ρ : List Addr} {H : Hp} {σ : L2.St} {Q : VK} {m : D ItW} {t : DT} {vs : List Nat} {c : D Bool} {el : D W} {tt : TT}
    (s : StR X.K ρ H st) (e : EnvR X.K none ρ H env σ) (p : Post X.K X.mg Wx (relV X.K) ρ H σ (dLc m vs t c el env st) Q)
    (htt : ∀ σ H Q, RG X none W0 relE c σ H Q → tt σ H Q) :
    tLc (RG X none Wx (relI X) m) (RT X none vs t) tt (RG X none W0 (relV X.K) el) vs σ H Q := by
  refine RG.bind s e p fun ρ1 H1 st1 it J g s1 e1 r q => fun D hD => ?_
  have nD : D ∉ ρ1 := s1.none_of hD
  generalize hl : lcW it.Chk (wipeW env vs) t c el it.items [] st1 = res at q
  cases res with
  | none => exact q.elim
  | some pr =>
    obtain ⟨fin, stf⟩ := pr
    simp only at q
    have ew : EnvR X.K none ρ1 H1 (wipeW env vs) (wipe σ vs) := e1.wipe vs
    refine ⟨fun i m H => m = it.items.length - i ∧ i ≤ it.items.length ∧ ∃ ρ st acc us, Grow ρ1 H1 ρ H ∧ StR X.K ρ H st ∧ H D = some (.lst us) ∧ D ∉ ρ ∧ VRs X.K ρ H acc us ∧ lcW it.Chk (wipeW env vs) t c el (it.items.drop i) acc st = some (fin, stf),
      ⟨_, rfl, Nat.zero_le _, ρ1, st1, [], [], grow_imm hD, s1.grow_imm hD, upd_same, nD, by simp [VRs], hl⟩, ?_⟩
    rintro i m H' ⟨rfl, hi, ρ', st', acc, us, g', s', hD', nD', ra, hq⟩
    have ew' : EnvR X.K none ρ' H' (wipeW env vs) (wipe σ vs) := ew.grow s1.apart g'
    by_cases hlt : i < it.items.length
    · rw [List.drop_eq_getElem_cons hlt] at hq
      unfold lcW at hq
      split at hq
      · rename_i ck
        obtain ⟨go, stop⟩ := r ρ' H' st' g' s' ck i
        obtain ⟨hgo, hy⟩ := go _ (List.getElem?_eq_getElem hlt)
        refine .inr ⟨hgo, fun H2 => ∃ ρ st acc us, Grow ρ1 H1 ρ H2 ∧ StR X.K ρ H2 st ∧ H2 D = some (.lst us) ∧ D ∉ ρ ∧ VRs X.K ρ H2 acc us ∧ lcW it.Chk (wipeW env vs) t c el (it.items.drop (i + 1)) acc st = some (fin, stf), fun H2 n => ⟨_, by omega, rfl, hlt, n⟩, fun x H2 y => ?_⟩
        obtain ⟨g2, s2, rv⟩ := hy x H2 y
        have hD2 : H2 D = some (.lst us) := g2.keep D _ hD' nD'
        have e2 := ew'.grow s'.apart g2
        cases htt' : t it.items[i] (wipeW env vs) st' with
        | none => rw [htt'] at hq; cases hq
        | some pr =>
          obtain ⟨env3, st3⟩ := pr
          rw [htt'] at hq
          simp only at hq
          refine ⟨ρ', wipeW env vs, st', _, s2, e2, rv, env3, st3, htt', fun ρ3 H3 σ3 g3 s3 e3 w3 => ⟨w3.trans wipe_wipe, ?_⟩⟩
          have hD3 : H3 D = some (.lst us) := g3.keep D _ hD2 nD'
          have nD3 : D ∉ ρ3 := fun z => by
            obtain ⟨mm, em, fm⟩ := g3.pre
            subst em
            rcases List.mem_append.mp z with z | z
            · exact nD' z
            · have := fm D z; rw [hD2] at this; cases this
          refine htt _ _ _ ⟨ρ3, env3, st3, s3, e3, ?_⟩
          generalize hc : c env3 st3 = rc at hq
          cases rc with
          | stuck => cases hq
          | err cc fs st4 => cases hq
          | ok b st4 =>
            intro ρ4 H4 b' g4 s4 rb
            have rb' : b = b' := rb
            subst rb'
            have hD4 : H4 D = some (.lst us) := g4.keep D _ hD3 nD3
            have nD4 : D ∉ ρ4 := fun z => by
              obtain ⟨mm, em, fm⟩ := g4.pre
              subst em
              rcases List.mem_append.mp z with z | z
              · exact nD3 z
              · have := fm D z; rw [hD3] at this; cases this
            have g24 : Grow ρ' H' ρ4 H4 := g2.trans (g3.trans g4)
            have ra4 : VRs X.K ρ4 H4 acc us := VRs.grow s'.apart g24 acc us ra
            have e4 := e3.grow s3.apart g4
            cases b with
            | false =>
              rw [if_neg (by decide)]
              exact ⟨ρ4, st4, acc, us, g'.trans g24, s4, hD4, nD4, ra4, hq⟩
            | true =>
              rw [if_pos rfl]
              simp only at hq
              refine ⟨ρ4, env3, st4, s4, e4, ?_⟩
              generalize hel : el env3 st4 = re at hq
              cases re with
              | stuck => cases hq
              | err cc fs st5 => cases hq
              | ok y st5 =>
                intro ρ5 H5 yv g5 s5 ry
                simp only at hq
                split at hq
                · rename_i hsz
                  have hD5 : H5 D = some (.lst us) := g5.keep D _ hD4 nD4
                  have nD5 : D ∉ ρ5 := fun z => by
                    obtain ⟨mm, em, fm⟩ := g5.pre
                    subst em
                    rcases List.mem_append.mp z with z | z
                    · exact nD4 z
                    · have := fm D z; rw [hD4] at this; cases this
                  have ra5 : VRs X.K ρ5 H5 acc us := VRs.grow s4.apart g5 acc us ra4
                  obtain ⟨i1, i2, i3⟩ := side_imm (o := .lst (us ++ [yv])) hD5
                  refine ⟨us, hD5, by rw [← VRs.length ra5]; exact hsz, ρ5, st5, acc ++ [y], us ++ [yv], ?_, s5.side hD5 nD5, upd_same, nD5, VRs.imm i1 i2 i3 _ _ (ra5.append (.one ry)), hq⟩
                  have g15 : Grow ρ1 H1 ρ5 H5 := g'.trans (g24.trans g5)
                  exact ⟨g15.pre, fun a o ha hn => by rw [upd_ne (ne_of_none ha hD)]; exact g15.keep a o ha hn, fun a ha hn => by
                    by_cases z : a = D
                    · subst z; rw [upd_same]; simp
                    · rw [upd_ne z]; exact g15.live a ha hn⟩
                · cases hq
      · cases hq
    · have : i = it.items.length := by omega
      subst this
      rw [List.drop_length] at hq
      unfold lcW at hq
      split at hq
      · rename_i ck
        cases hq
        refine .inl ⟨(r ρ' H' _ g' s' ck _).2 (Nat.le_refl _), ?_⟩
        have gD : Grow ρ1 H1 (ρ' ++ [D]) H' := by
          obtain ⟨mm, em, fm⟩ := g'.pre
          subst em
          exact ⟨⟨mm ++ [D], by simp, fun a ha => by
            rcases List.mem_append.mp ha with ha | ha
            · exact fm a ha
            · have : a = D := by simpa using ha
              subst this; exact hD⟩, g'.keep, g'.live⟩
        have sD : StR X.K (ρ' ++ [D]) H' (stf ++ [.lst fin]) := by
          have gg : Grow ρ' H' (ρ' ++ [D]) H' ∨ True := .inr trivial
          refine ⟨by simp [s'.len], ?_, fun n o en => ?_⟩
          · rw [List.nodup_append]
            exact ⟨s'.nd, List.nodup_cons.mpr ⟨by simp, List.nodup_nil⟩, fun a ha b hb ee => by
              have : b = D := by simpa using hb
              subst this; subst ee; exact nD' ha⟩
          · by_cases hn : n < stf.length
            · rw [List.getElem?_append_left hn] at en
              obtain ⟨a, ha, hob⟩ := s'.ob n o en
              have hl2 := (List.getElem?_eq_some_iff.mp ha).1
              refine ⟨a, by rw [List.getElem?_append_left hl2]; exact ha, ?_⟩
              cases o with
              | lst ws =>
                obtain ⟨us2, hu, hr⟩ := hob
                exact ⟨us2, hu, VRs.more ws us2 hr⟩
            · have hl2 : n < (stf ++ [Ob.lst fin]).length := (List.getElem?_eq_some_iff.mp en).1
              have : n = stf.length := by simp at hl2; omega
              subst this
              rw [List.getElem?_append_right (Nat.le_refl _)] at en
              simp at en; subst en
              exact ⟨D, by rw [← s'.len, List.getElem?_append_right (Nat.le_refl _)]; simp, us, hD', VRs.more _ _ ra⟩
        exact q (ρ' ++ [D]) H' (.ref D) gD sD (by
          simp only [relV, VR]
          exact ⟨D, by rw [← s'.len]; simp, rfl⟩)
      · cases hq
theorem ie_lc {elt tg iter : Expr} {scope : Scope} {own : List (Str × Nat)} {m : D ItW} {t : DT} {el : D W} (hc : X.calm = true) (hN : X.N.Nodup) (hi : II X none Wx tg iter m) (ok : BlkOk X.N X.env.scope scope own)
    (hg : ∀ (s : Shared) (H : Hp) (C : Addr) (cl : List (Str × Addr)) (fp : List Addr), IG (X.blk s H scope (compEnvC scope cl C X.env) fp) none (own.map (·.2)) tg t)
    (he : ∀ (s : Shared) (H : Hp) (C : Addr) (cl : List (Str × Addr)) (fp : List Addr), IE (X.blk s H scope (compEnvC scope cl C X.env) fp) none W0 elt el) (hs : ∀ x, foldedSetIterable iter X.env x = pure x := by intro _; rfl) :
    IE X none Wx (.ListComp elt [⟨tg, iter, [], 0⟩] scope pos) (dLc m (own.map (·.2)) t dYes el) :=
  PE.of (pe_lc hc hN hi ok hg (fun _ _ _ _ _ => pts_nil) he hs) fun σ H Q ⟨ρ, env, st, s, e, p⟩ => lc_read s e p fun σ H Q ⟨ρ, env, st, s, e, p⟩ => Post.ok_ p s rfl
theorem ie_lcIf {elt tg iter cnd : Expr} {scope : Scope} {own : List (Str × Nat)} {m : D ItW} {t : DT} {c : D Bool} {el : D W} (hc : X.calm = true) (hN : X.N.Nodup) (hi : II X none Wx tg iter m) (ok : BlkOk X.N X.env.scope scope own)
    (hg : ∀ (s : Shared) (H : Hp) (C : Addr) (cl : List (Str × Addr)) (fp : List Addr), IG (X.blk s H scope (compEnvC scope cl C X.env) fp) none (own.map (·.2)) tg t)
    (ht : ∀ (s : Shared) (H : Hp) (C : Addr) (cl : List (Str × Addr)) (fp : List Addr), IT (X.blk s H scope (compEnvC scope cl C X.env) fp) none W0 cnd c)
    (he : ∀ (s : Shared) (H : Hp) (C : Addr) (cl : List (Str × Addr)) (fp : List Addr), IE (X.blk s H scope (compEnvC scope cl C X.env) fp) none W0 elt el) (hs : ∀ x, foldedSetIterable iter X.env x = pure x := by intro _; rfl) :
    IE X none Wx (.ListComp elt [⟨tg, iter, [cnd], 0⟩] scope pos) (dLc m (own.map (·.2)) t c el) :=
  PE.of (pe_lc hc hN hi ok hg (fun s H C cl fp => pts_one (ht s H C cl fp)) he hs) fun σ H Q ⟨ρ, env, st, s, e, p⟩ => lc_read s e p fun σ H Q h => h
/-- y = [..] -/
theorem is_setLc {i : Nat} {y : Str} {py spos : Pos} {elt tg iter : Expr} {scope : Scope} {own : List (Str × Nat)} {m : D ItW} {t : DT} {el : D W} (hc : X.calm = true) (hN : X.N.Nodup) (hy : X.N[i]? = some y) (hyl : X.env.scope.names.lookup y = some .local)
    (hsw : swapsWith (.ListComp elt [⟨tg, iter, [], 0⟩] scope pos) (some (.Name y py)) spos.line X.env = pure true) (hi : II X none Wx tg iter m) (ok : BlkOk X.N X.env.scope scope own)
    (hg : ∀ (s : Shared) (H : Hp) (C : Addr) (cl : List (Str × Addr)) (fp : List Addr), IG (X.blk s H scope (compEnvC scope cl C X.env) fp) none (own.map (·.2)) tg t)
    (he : ∀ (s : Shared) (H : Hp) (C : Addr) (cl : List (Str × Addr)) (fp : List Addr), IE (X.blk s H scope (compEnvC scope cl C X.env) fp) none W0 elt el) (hs : ∀ x, foldedSetIterable iter X.env x = pure x := by intro _; rfl) :
    IS X none Wx (.Assign [.Name y py] (.ListComp elt [⟨tg, iter, [], 0⟩] scope pos) spos) (sAsg (dLc m (own.map (·.2)) t dYes el) (tName i)) :=
  PS.of (ps_setLc hc hN hy hyl hsw hi ok hg (fun _ _ _ _ _ => pts_nil) he hs) fun De σ H ⟨ρ, env, st, s, e, p⟩ => by
    have z : RG X none Wx (relV X.K) (dLc m (own.map (·.2)) t dYes el) σ H fun x H1 => gName i x σ H1 De.nx :=
      RS.step s e p fun ρ1 H1 st1 a x g s1 e1 r p1 => PostS.go_ (f := .nx) p1 s1 (e1.set .none r)
    obtain ⟨ρ', env', st', s', e', p'⟩ := z
    exact lc_read s' e' p' fun σ H Q ⟨ρ, env, st, s, e, p⟩ => Post.ok_ p s rfl
theorem is_setLcIf {i : Nat} {y : Str} {py spos : Pos} {elt tg iter cnd : Expr} {scope : Scope} {own : List (Str × Nat)} {m : D ItW} {t : DT} {c : D Bool} {el : D W} (hc : X.calm = true) (hN : X.N.Nodup) (hy : X.N[i]? = some y) (hyl : X.env.scope.names.lookup y = some .local)
    (hsw : swapsWith (.ListComp elt [⟨tg, iter, [cnd], 0⟩] scope pos) (some (.Name y py)) spos.line X.env = pure true) (hi : II X none Wx tg iter m) (ok : BlkOk X.N X.env.scope scope own)
    (hg : ∀ (s : Shared) (H : Hp) (C : Addr) (cl : List (Str × Addr)) (fp : List Addr), IG (X.blk s H scope (compEnvC scope cl C X.env) fp) none (own.map (·.2)) tg t)
    (ht : ∀ (s : Shared) (H : Hp) (C : Addr) (cl : List (Str × Addr)) (fp : List Addr), IT (X.blk s H scope (compEnvC scope cl C X.env) fp) none W0 cnd c)
    (he : ∀ (s : Shared) (H : Hp) (C : Addr) (cl : List (Str × Addr)) (fp : List Addr), IE (X.blk s H scope (compEnvC scope cl C X.env) fp) none W0 elt el) (hs : ∀ x, foldedSetIterable iter X.env x = pure x := by intro _; rfl) :
    IS X none Wx (.Assign [.Name y py] (.ListComp elt [⟨tg, iter, [cnd], 0⟩] scope pos) spos) (sAsg (dLc m (own.map (·.2)) t c el) (tName i)) :=
  PS.of (ps_setLc hc hN hy hyl hsw hi ok hg (fun s H C cl fp => pts_one (ht s H C cl fp)) he hs) fun De σ H ⟨ρ, env, st, s, e, p⟩ => by
    have z : RG X none Wx (relV X.K) (dLc m (own.map (·.2)) t c el) σ H fun x H1 => gName i x σ H1 De.nx :=
      RS.step s e p fun ρ1 H1 st1 a x g s1 e1 r p1 => PostS.go_ (f := .nx) p1 s1 (e1.set .none r)
    obtain ⟨ρ', env', st', s', e', p'⟩ := z
    exact lc_read s' e' p' fun σ H Q h => h
end
end
end MP
namespace MP
open PySem PySem.Spec PyProof.Rows L2
open Classical
noncomputable section

/-! ### what a def leaves behind is let go -/
mutual
def clB (n : Nat) : W → Bool
  | .loc k => decide (k < n)
  | .tup ws => clBs n ws
  | .fro ws => clBs n ws
  | .non => true
  | .bl _ => true
  | .int _ => true
  | .str _ => true
  | .gl _ => true
  | .rng _ _ => true
def clBs (n : Nat) : List W → Bool
  | [] => true
  | w :: ws => clB n w && clBs n ws
end
def clO (n : Nat) : Ob → Bool
  | .lst ws => clBs n ws
/-- what stood at the entry stands, or is closed -/
def GcOk (st0 st : Store) : Prop := ∀ i : Nat, i < st0.length → st[i]? = st0[i]? ∨ ∃ o, st[i]? = some o ∧ clO st0.length o = true
def gc (st0 : Store) (v : W) (st : Store) : Res W :=
  if GcOk st0 st then
    if clB st0.length v = true then .ok v (st.take st0.length)
    else match v with
      | .loc m => match st[m]? with
        | some (.lst ws) => if clBs st0.length ws = true then .ok (.loc st0.length) (st.take st0.length ++ [.lst ws]) else .ok v st
        | _ => .ok v st
      | _ => .ok v st
  else .ok v st
section
variable {K : PySem.W.Frag} {ρ m : List Addr} {H : Hp}
mutual
theorem VR.less : ∀ (w : W) (v : V), clB ρ.length w = true → VR K (ρ ++ m) H w v → VR K ρ H w v
  | .non, _, _, h => by simpa only [VR] using h
  | .bl _, _, _, h => by simpa only [VR] using h
  | .int _, _, _, h => by simpa only [VR] using h
  | .str _, _, _, h => by simpa only [VR] using h
  | .gl _, _, _, h => by simpa only [VR] using h
  | .rng _ _, _, _, h => by simpa only [VR] using h
  | .loc n, _, c, h => by
    simp only [VR] at h ⊢
    simp only [clB, decide_eq_true_eq] at c
    obtain ⟨a, e, r⟩ := h
    exact ⟨a, by rw [List.getElem?_append_left c] at e; exact e, r⟩
  | .tup ws, v, c, h => by
    simp only [VR] at h ⊢
    simp only [clB] at c
    obtain ⟨a, us, e, t, r⟩ := h
    exact ⟨a, us, e, t, VRs.less ws us c r⟩
  | .fro ws, v, c, h => by
    simp only [VR] at h ⊢
    simp only [clB] at c
    obtain ⟨a, us, e, t, r⟩ := h
    exact ⟨a, us, e, t, VRs.less ws us c r⟩
theorem VRs.less : ∀ (ws : List W) (vs : List V), clBs ρ.length ws = true → VRs K (ρ ++ m) H ws vs → VRs K ρ H ws vs
  | [], _, _, h => by simpa only [VRs] using h
  | w :: ws, vs, c, h => by
    simp only [VRs] at h ⊢
    simp only [clBs, Bool.and_eq_true] at c
    obtain ⟨u, us, e, r, rs⟩ := h
    exact ⟨u, us, e, VR.less w u c.1 r, VRs.less ws us c.2 rs⟩
end
mutual
theorem VR.cl : ∀ (w : W) (v : V), VR K ρ H w v → clB ρ.length w = true
  | .non, _, _ => rfl
  | .bl _, _, _ => rfl
  | .int _, _, _ => rfl
  | .str _, _, _ => rfl
  | .gl _, _, _ => rfl
  | .rng _ _, _, _ => rfl
  | .loc n, _, h => by
    simp only [VR] at h
    obtain ⟨a, e, _⟩ := h
    simp only [clB, decide_eq_true_eq]
    exact (List.getElem?_eq_some_iff.mp e).1
  | .tup ws, v, h => by
    simp only [VR] at h
    obtain ⟨a, us, e, t, r⟩ := h
    simp only [clB]
    exact VRs.cl ws us r
  | .fro ws, v, h => by
    simp only [VR] at h
    obtain ⟨a, us, e, t, r⟩ := h
    simp only [clB]
    exact VRs.cl ws us r
theorem VRs.cl : ∀ (ws : List W) (vs : List V), VRs K ρ H ws vs → clBs ρ.length ws = true
  | [], _, _ => rfl
  | w :: ws, vs, h => by
    simp only [VRs] at h
    obtain ⟨u, us, e, r, rs⟩ := h
    simp only [clBs, Bool.and_eq_true]
    exact ⟨VR.cl w u r, VRs.cl ws us rs⟩
end
theorem ObR.cl {a : Addr} {o : Ob} (h : ObR K ρ H a o) : clO ρ.length o = true := by
  cases o with
  | lst ws =>
    obtain ⟨us, _, r⟩ := h
    exact VRs.cl ws us r
theorem ObR.less {a : Addr} {o : Ob} (c : clO ρ.length o = true) (h : ObR K (ρ ++ m) H a o) : ObR K ρ H a o := by
  cases o with
  | lst ws =>
    obtain ⟨us, e, r⟩ := h
    exact ⟨us, e, VRs.less ws us c r⟩
theorem gc_ok {H0 : Hp} {st0 st : Store} {v : W} {x : V} (s0 : StR K ρ H0 st0) (g : Grow ρ H0 (ρ ++ m) H) (s : StR K (ρ ++ m) H st) (r : VR K (ρ ++ m) H v x) :
    ∃ v' st' ρ', gc st0 v st = .ok v' st' ∧ Grow ρ H0 ρ' H ∧ StR K ρ' H st' ∧ VR K ρ' H v' x := by
  unfold gc
  by_cases hg : GcOk st0 st
  · rw [if_pos hg]
    have hlen : st0.length = ρ.length := s0.len.symm
    have hle : ρ.length ≤ st.length := by rw [← s.len]; simp
    have g' : Grow ρ H0 ρ H := ⟨⟨[], by simp, fun _ h => nomatch h⟩, g.keep, g.live⟩
    have s' : StR K ρ H (st.take st0.length) := by
      refine ⟨by rw [List.length_take, hlen]; omega, s0.nd, fun n o e => ?_⟩
      have hn : n < st0.length := by
        have := (List.getElem?_eq_some_iff.mp e).1
        rw [List.length_take] at this; omega
      rw [List.getElem?_take_of_lt hn] at e
      obtain ⟨a, ha, hob⟩ := s.ob n o e
      rw [List.getElem?_append_left (by omega)] at ha
      refine ⟨a, ha, hob.less ?_⟩
      rcases hg n hn with h | ⟨o', h1, h2⟩
      · rw [e] at h
        obtain ⟨_, _, ho0⟩ := s0.ob n o h.symm
        exact ho0.cl
      · rw [e] at h1; cases h1
        rw [← hlen]; exact h2
    by_cases hc : clB st0.length v = true
    · rw [if_pos hc]
      exact ⟨_, _, ρ, rfl, g', s', VR.less v x (by rw [← hlen]; exact hc) r⟩
    · rw [if_neg hc]
      have dflt : ∃ v' st' ρ', (Res.ok v st : Res W) = .ok v' st' ∧ Grow ρ H0 ρ' H ∧ StR K ρ' H st' ∧ VR K ρ' H v' x := ⟨_, _, _, rfl, g, s, r⟩
      cases v with
      | loc k =>
        simp only
        cases hk : st[k]? with
        | none => exact dflt
        | some o =>
          cases o with
          | lst ws =>
            simp only
            by_cases hw : clBs st0.length ws = true
            · rw [if_pos hw]
              obtain ⟨a, ha, us, hu, ru⟩ := s.ob k (.lst ws) hk
              have hka : ρ.length ≤ k := by
                simp only [clB, decide_eq_true_eq] at hc; omega
              rw [List.getElem?_append_right hka] at ha
              have ham : a ∈ m := List.mem_of_getElem? ha
              have hna : a ∉ ρ := fun z => by
                have := s.nd
                rw [List.nodup_append] at this
                exact this.2.2 a z a ham rfl
              obtain ⟨m', em, fm⟩ := g.pre
              have em' : m = m' := List.append_cancel_left em
              subst em'
              have ru' : VRs K ρ H ws us := VRs.less ws us (by rw [← hlen]; exact hw) ru
              refine ⟨_, _, ρ ++ [a], rfl, ⟨⟨[a], rfl, fun b hb => by
                have : b = a := by simpa using hb
                subst this; exact fm _ ham⟩, g.keep, g.live⟩, ?_, ?_⟩
              · refine ⟨by simp [s'.len], ?_, fun n o en => ?_⟩
                · rw [List.nodup_append]
                  exact ⟨s0.nd, List.nodup_cons.mpr ⟨by simp, List.nodup_nil⟩, fun b hb c hcc e => by
                    have : c = a := by simpa using hcc
                    subst this; subst e; exact hna hb⟩
                · by_cases hn : n < (st.take st0.length).length
                  · rw [List.getElem?_append_left hn] at en
                    obtain ⟨b, hb, hob⟩ := s'.ob n o en
                    refine ⟨b, by rw [List.getElem?_append_left (List.getElem?_eq_some_iff.mp hb).1]; exact hb, ?_⟩
                    cases o with
                    | lst ws2 =>
                      obtain ⟨us2, e2, r2⟩ := hob
                      exact ⟨us2, e2, VRs.more ws2 us2 r2⟩
                  · have hl2 : n < (st.take st0.length ++ [Ob.lst ws]).length := (List.getElem?_eq_some_iff.mp en).1
                    have : n = (st.take st0.length).length := by rw [List.length_append] at hl2; simp at hl2 hn ⊢; omega
                    subst this
                    rw [List.getElem?_append_right (Nat.le_refl _)] at en
                    simp at en; subst en
                    exact ⟨a, by rw [← s'.len, List.getElem?_append_right (Nat.le_refl _)]; simp, us, hu, VRs.more ws us ru'⟩
              · simp only [VR] at r ⊢
                obtain ⟨b, hb, rfl⟩ := r
                rw [List.getElem?_append_right hka, ha] at hb
                cases hb
                exact ⟨a, by rw [hlen]; simp, rfl⟩
            · rw [if_neg hw]; exact dflt
      | _ => exact dflt
  · rw [if_neg hg]
    exact ⟨_, _, _, rfl, g, s, r⟩
end
/-- a def's denotation by its body's -/
def fnDen (slots : Nat) (body : DS) : List W → Store → Res W := fun ws st =>
  match body (ws.map some ++ List.replicate (slots - ws.length) none) st with
  | .go (.rt v) _ st' => gc st v st'
  | .go .nx _ st' => gc st .non st'
  | .err c w _ st' => .err c w st'
  | _ => .stuck
/-- a def's promise -/
def SpM (K : PySem.W.Frag) (mg : Str → Option Value) (n : Nat) (den : List W → Store → Res W) : Sp := fun vs H Q E =>
  ∃ ρ ws st, StR K ρ H st ∧ VRs K ρ H ws vs ∧ ws.length = n ∧ Post K mg (fun c d _ H => E c d H) (relV K) ρ H [] (den ws st) Q
abbrev WxOf (E : XK) : WX := fun c d _ H => E c d H
section
variable {P : Program} {w : World} {K : PySem.W.Frag} {mg : Str → Option Value} {base : Heap}
/-- a def of the text keeps its promise -/
theorem fn_ok {x qual : Str} {st : Stmt} {f : Addr} {fd : FuncData} {N ps : List Str} {k : Nat} {body : DS} (F : Fun K x qual st f fd) (S : FnScope N ps (defScope st)) 
    (hb : ∀ (cdv : Value) (A : Around) (outer : List Env) (s : Shared) (H : Hp) (E : XK), Room k (A.deeper (envOfC qual (defScope st) s.heap.objs.size f cdv)) →
      ISs (cxOf (L2.CX P w) P w K mg base N qual (defScope st) f cdv A outer s H E) none (WxOf E) (defBody st) body) :
    FnOk P w K mg base (L2.CX P w) (k + 1) f fd ps (SpM K mg ps.length (fnDen N.length body)) := by
  refine F.okX S (fun vs H Q E h => ?_) (fun cdv A outer s H vs Q E hr h => ?_)
  · obtain ⟨ρ, ws, st, _, r, e, _⟩ := h
    rw [← VRs.length r, e]
  · obtain ⟨ρ, ws, st0, s0, r, hl, p⟩ := h
    refine ⟨_, hb cdv A outer s H E hr, ρ, ws.map some ++ List.replicate (N.length - ws.length) none, st0, s0, ?_, ?_⟩
    · refine ⟨?_, fun i w' e => ?_, fun _ h => nomatch h⟩
      · simp [L2.start, VRs.length r]
      · by_cases hi : i < ws.length
        · rw [List.getElem?_append_left (by simpa using hi)] at e
          rw [List.getElem?_map] at e
          cases hw : ws[i]? with
          | none => rw [hw] at e; cases e
          | some w2 =>
            rw [hw] at e
            cases e
            obtain ⟨v, e1, rv⟩ := r.get hw
            refine ⟨v, ?_, rv⟩
            unfold L2.start
            rw [List.getElem?_append_left (by rw [List.length_map, ← VRs.length r]; exact hi), List.getElem?_map, e1]
            rfl
        · rw [List.getElem?_append_right (by simpa using hi)] at e
          rw [List.getElem?_replicate] at e
          split at e <;> cases e
    · unfold fnDen at p
      generalize body (ws.map some ++ List.replicate (N.length - ws.length) none) st0 = res at p
      cases res with
      | stuck => exact p.elim
      | err c v env' st' => exact fun ρ' H' σ' cls d g s' e' er => p ρ' H' cls d g s' er
      | go f env' st' =>
        cases f with
        | bk => exact p.elim
        | ct => exact p.elim
        | nx =>
          intro ρ' H' σ' g s' e'
          obtain ⟨mm, em, _⟩ := id g.pre
          subst em
          obtain ⟨v', st2, ρ2, e2, g2, s2, r2⟩ := gc_ok (v := .non) (x := .non) s0 g s' (by simp [VR])
          simp only [e2] at p
          exact p ρ2 H' _ g2 s2 r2
        | rt v =>
          intro ρ' H' σ' g s' e' x rx
          obtain ⟨mm, em, _⟩ := id g.pre
          subst em
          obtain ⟨v', st2, ρ2, e2, g2, s2, r2⟩ := gc_ok s0 g s' rx
          simp only [e2] at p
          exact p ρ2 H' _ g2 s2 r2
end

/-! ### calls -/
section
variable {X : Cx} {ex : Option Exn} {Wx : WX} {pos p : Pos} {k : Nat} {f : Addr} {fd : FuncData} {ps ks : List Str} {n : Nat} {den : List W → Store → Res W} {x : Str} {e : Expr} {es : List Expr}
theorem sp_of {ρ : List Addr} {H : Hp} {st : Store} {σ : L2.St} {l : List W} {vs : List V} {Q : VK} (s : StR X.K ρ H st) (r : VRs X.K ρ H l vs) (hl : l.length = n) (p : Post X.K X.mg Wx (relV X.K) ρ H σ (den l st) Q) : SpM X.K X.mg n den vs H Q (WE Wx σ) := by
  refine ⟨ρ, l, st, s, r, hl, ?_⟩
  generalize den l st = res at p
  cases res with
  | ok a st' => exact p
  | err c v st' => exact p
  | stuck => exact p
/-- a def applied: the number of arguments is looked after -/
def dCall (n : Nat) (den : List W → Store → Res W) (m : D (List W)) : D W := fun env st => (m env st).bind fun l st1 => if l.length = n then den l st1 else .stuck
theorem ie_call {m : D (List W)} (F : FnOk X.prog X.w X.K X.mg X.base (L2.CX X.prog X.w) k f fd ps (SpM X.K X.mg n den)) (hr : Room k X.A) (hg : Gl X x) (hm : X.mg x = some (.ref f)) (hk : PySem.W.keepIn X.K (.ref f) = true) (hb : Binds X.K fd ps []) (tk : Takes X Wx)
    (ha : IA X ex Wx (e :: es) m) (hdb : (x == ("__debug__" : Str)) = false := by decide) (he : starEach (e :: es) X.env = (false, eval e X.env) :: starEach es X.env := by rfl) (hpl : (backTo pos (starEach es X.env)).any (·.1) = false := by rfl) :
    IE X ex Wx (.Call (.Name x p) (e :: es) [] pos) (dCall n den m) :=
  PE.of (pe_callS F hr hg hm hk hb (fun σ => passAt tk σ) ha hdb he hpl) fun σ H Q ⟨ρ, env, st, s, e, p⟩ => RG.bind s e p fun ρ1 H1 st1 l vs g s1 e1 r p1 => by
    split at p1
    · rename_i hl; exact sp_of s1 r hl p1
    · exact p1.elim
theorem pe_call0S {sp : Sp} {E : L2.St → XK} {CX : CXT} (F : FnOk X.prog X.w X.K X.mg X.base CX k f fd ps sp) (hr : Room k X.A) (hg : Gl X x) (hm : X.mg x = some (.ref f)) (hk : PySem.W.keepIn X.K (.ref f) = true) (hb : Binds X.K fd ps []) (hx : ∀ σ, PassesAt CX X σ (E σ))
    (hdb : (x == ("__debug__" : Str)) = false := by decide) : PE X (.Call (.Name x p) [] [] pos) (tCallS sp E tNil) := by
  refine ⟨fun pins s σ H Q I h => ?_⟩
  refine wpAny_Call_Name_kw (ld_glob I hg hm ?_ hdb)
  exact PySem.W.callWith_K0 I.kIn hk (run_fnS F hr hb (hx σ) I .nil h)
theorem ie_call0 (F : FnOk X.prog X.w X.K X.mg X.base (L2.CX X.prog X.w) k f fd ps (SpM X.K X.mg n den)) (hr : Room k X.A) (hg : Gl X x) (hm : X.mg x = some (.ref f)) (hk : PySem.W.keepIn X.K (.ref f) = true) (hb : Binds X.K fd ps []) (tk : Takes X Wx)
    (hdb : (x == ("__debug__" : Str)) = false := by decide) : IE X ex Wx (.Call (.Name x p) [] [] pos) (dCall n den dNil) :=
  PE.of (pe_call0S F hr hg hm hk hb (fun σ => passAt tk σ) hdb) fun σ H Q ⟨ρ, env, st, s, e, p⟩ => by
    show SpM X.K X.mg n den [] H Q (WE Wx σ)
    unfold dCall dNil at p
    simp only [Res.bind_ok] at p
    split at p
    · rename_i hl; exact sp_of s (by simp [VRs]) hl p
    · exact p.elim
/-- built-in functions and types -/
theorem ie_callB {id : String} {r : List V → Hp → VK → Prop} {g : List W → Store → Res W} {m : D (List W)} (hc : CallR X (.builtin id) r) (hf : CallOk X r g) (hg : Gl X x) (hm : X.mg x = none) (hv : bootBuiltins x = some (.builtin id)) (ha : IA X ex Wx (e :: es) m) (hn : x ≠ "__name__" := by decide)
    (hdb : (x == ("__debug__" : Str)) = false := by decide) (he : starEach (e :: es) X.env = (false, eval e X.env) :: starEach es X.env := by rfl) (hpl : (backTo pos (starEach es X.env)).any (·.1) = false := by rfl) : IE X ex Wx (.Call (.Name x p) (e :: es) [] pos) (dApp g m) :=
  PE.of (pe_callB hc hg hm hv ha hn hdb he hpl) fun σ H Q ⟨ρ, env, st, s, e, p⟩ => RG.bind s e p fun ρ1 H1 st1 l vs g s1 e1 r p1 => hf Wx ρ1 H1 st1 σ l vs Q s1 r p1
theorem ie_callTy {T : String} {r : List V → Hp → VK → Prop} {g : List W → Store → Res W} {m : D (List W)} (hc : CallR X (.type T) r) (hf : CallOk X r g) (hg : Gl X x) (hm : X.mg x = none) (hv : bootBuiltins x = some (.type T)) (ha : IA X ex Wx (e :: es) m) (hn : x ≠ "__name__" := by decide)
    (hdb : (x == ("__debug__" : Str)) = false := by decide) (he : starEach (e :: es) X.env = (false, eval e X.env) :: starEach es X.env := by rfl) (hpl : (backTo pos (starEach es X.env)).any (·.1) = false := by rfl) : IE X ex Wx (.Call (.Name x p) (e :: es) [] pos) (dApp g m) :=
  PE.of (pe_callTy hc hg hm hv ha hn hdb he hpl) fun σ H Q ⟨ρ, env, st, s, e, p⟩ => RG.bind s e p fun ρ1 H1 st1 l vs g s1 e1 r p1 => hf Wx ρ1 H1 st1 σ l vs Q s1 r p1
/-- methods of built-in types; ty: the receiver is of the type -/
def dBm (ty : W → Store → Bool) (g : W → List W → Store → Res W) (mo : D W) (m : D (List W)) : D W := fun env st => (mo env st).bind fun a st1 => if ty a st1 = true then (m env st1).bind fun l st2 => g a l st2 else .stuck
def MtOk (X : Cx) (r : V → List V → Hp → VK → Prop) (g : W → List W → Store → Res W) : Prop :=
  ∀ (Wx : WX) (ρ : List Addr) (H : Hp) (st : Store) (σ : L2.St) (a : W) (l : List W) (x : V) (vs : List V) (Q : VK), StR X.K ρ H st → VR X.K ρ H a x → VRs X.K ρ H l vs → Post X.K X.mg Wx (relV X.K) ρ H σ (g a l st) Q → r x vs H Q
def TyOk (X : Cx) (T : String) (ty : W → Store → Bool) : Prop :=
  ∀ (ρ : List Addr) (H : Hp) (st : Store) (a : W) (x : V), StR X.K ρ H st → VR X.K ρ H a x → ty a st = true → tyV X.K T x H
theorem ie_bm {T name id : String} {o : Expr} {apos cpos : Pos} {r : V → List V → Hp → VK → Prop} {mo : D W} {m : D (List W)} {g : W → List W → Store → Res W} {ty : W → Store → Bool} (pa : PlainAttrs T) (slot : Slot T name id) (hty : typeOf (.builtin id) = pure (.type "method_descriptor")) (hm : MtR X id r) 
    (hf : MtOk X r g) (hv : TyOk X T ty) (ho : IE X ex Wx o mo) (ha : IA X ex Wx (e :: es) m)
    (hbase : attributeBase o name X.env (eval o X.env) = eval o X.env := by rfl)
    (hfew : ((backTo cpos (starEach (e :: es) X.env)).all (fun x => !x.1) && (backToKw cpos (keywordEach [] X.env)).all (fun x => x.1.isSome)
      && decide ((e :: es).length + ([] : List Keyword).length + (if ([] : List Keyword).isEmpty then 0 else 1) < 30)) = true := by rfl)
    (hline : (apos.endLine == cpos.line) = true := by rfl) (hs : starEach (e :: es) X.env = (false, eval e X.env) :: starEach es X.env := by rfl) (hplain : (backTo cpos (starEach es X.env)).any (·.1) = false := by rfl) :
    IE X ex Wx (.Call (.Attribute o name apos) (e :: es) [] cpos) (dBm ty g mo m) :=
  PE.of (pe_bm pa slot hty hm ho ha hbase hfew hline hs hplain) fun σ H Q ⟨ρ, env, st, s, e, p⟩ => RG.bind s e p fun ρ1 H1 st1 a x g1 s1 e1 ra p1 => by
    split at p1
    · rename_i ht
      exact ⟨hv ρ1 H1 st1 a x s1 ra ht, RG.bind s1 e1 p1 fun ρ2 H2 st2 l vs g2 s2 e2 rl p2 => hf Wx ρ2 H2 st2 σ a l x vs Q s2 (VR.grow s1.apart g2 a x ra) rl p2⟩
    · exact p1.elim
theorem ie_bm0 {T name id : String} {o : Expr} {apos cpos : Pos} {r : V → List V → Hp → VK → Prop} {mo : D W} {g : W → List W → Store → Res W} {ty : W → Store → Bool} (pa : PlainAttrs T) (slot : Slot T name id) (hty : typeOf (.builtin id) = pure (.type "method_descriptor")) (hm : MtR X id r) 
    (hf : MtOk X r g) (hv : TyOk X T ty) (ho : IE X ex Wx o mo)
    (hbase : attributeBase o name X.env (eval o X.env) = eval o X.env := by rfl) (hline : (apos.endLine == cpos.line) = true := by rfl) :
    IE X ex Wx (.Call (.Attribute o name apos) [] [] cpos) (dBm ty g mo dNil) :=
  PE.of (pe_bm0 pa slot hty hm ho hbase hline) fun σ H Q ⟨ρ, env, st, s, e, p⟩ => RG.bind s e p fun ρ1 H1 st1 a x g1 s1 e1 ra p1 => by
    split at p1
    · rename_i ht
      exact ⟨hv ρ1 H1 st1 a x s1 ra ht, hf Wx ρ1 H1 st1 σ a [] x [] Q s1 ra (by simp [VRs]) p1⟩
    · exact p1.elim
end
end
end MP
namespace MP
open PySem PySem.Spec PyProof.Rows L2
open Classical
noncomputable section

/-! ### errors -/
/-- the promise of an error's __init__: self.value = value -/
def spExc (K : PySem.W.Frag) : Sp := fun vs H Q _ => ∃ (a C : Addr) (y : V), vs = [.ref a, y] ∧ OexC K C ∧ PySem.W.findIn K (.ref C) ("value" : Str) = some none ∧ H a = some (exo a C none) ∧
  ∀ d, H d = none → d ≠ a → Q .non (upd (upd H d (exd d [(("value" : Str), y)])) a (exo a C (some d)))
section
variable {P : Program} {w : World} {K : PySem.W.Frag} {mg : Str → Option Value} {base : Heap}
theorem exc_init_ok {x qual : Str} {st : Stmt} {f : Addr} {fd : FuncData} {p1 p2 p3 p4 : Pos} (F : Fun K x qual st f fd) (S : FnScope ["self", "value"] ["self", "value"] (defScope st))
    (hst : defBody st = [.Assign [.Attribute (.Name "self" p1) "value" p2] (.Name "value" p3) p4]) (hv1 : (defScope st).names.lookup ("self" : Str) = some NameKind.local) (hv2 : (defScope st).names.lookup ("value" : Str) = some NameKind.local) :
    FnOk P w K mg base (L2.CX P w) 1 f fd ["self", "value"] (spExc K) := by
  refine F.okX S (fun vs H Q E h => ?_) (fun cdv A outer s H vs Q E hr h => ?_)
  · obtain ⟨a, C, y, rfl, _⟩ := h
    rfl
  · rw [hst]
    refine ⟨_, pss_one (ps_ost (pv 0 rfl (.inl hv1)) (pv 1 rfl (.inl hv2))), ?_⟩
    obtain ⟨a, C, y, rfl, T, hn, ha, q⟩ := h
    exact ⟨y, rfl, .ref a, rfl, a, C, rfl, T, hn, .inl ⟨ha, fun d hd ne => q d hd ne⟩⟩
end
/-- what the written part says of an error class with the __init__ at f -/
structure ErrC (K : PySem.W.Frag) (mg : Str → Option Value) (x : Str) (C f : Addr) : Prop where
  cls : OexC K C
  mgC : mg x = some (.ref C)
  ini : PySem.W.findIn K (.ref C) "__init__" = some (some (.ref f))
  ity : PySem.W.typeIn K (.ref f) = some (.type "function")
  noV : PySem.W.findIn K (.ref C) ("value" : Str) = some none
  xf : XfC K C
def sRaise (x : Str) (m : D (List W)) : DS := fun env st => (m env st).then env fun l st1 => match l with
  | [w] => .err x w env st1
  | _ => .stuck
section
variable {X : Cx} {ex : Option Exn} {Wx : WX} {pos pos2 p : Pos} {k : Nat} {f C : Addr} {fd : FuncData} {x : Str} {e : Expr}
theorem raise_heap {H : Hp} {a d : Addr} {C : Addr} {y : V} (ha : H a = none) (hd : upd H a (exo a C none) d = none) (hda : d ≠ a) :
    upd (del (upd (upd (upd H a (exo a C none)) d (exd d [(("value" : Str), y)])) a (exo a C (some d))) a) d (.xd [(("value" : Str), y)]) = upd H d (.xd [(("value" : Str), y)]) := by
  funext b
  by_cases h1 : b = d
  · rw [h1, upd_same, upd_same]
  · rw [upd_ne h1, upd_ne h1]
    by_cases h2 : b = a
    · rw [h2, del_same, ha]
    · rw [del_ne h2, upd_ne h2, upd_ne h1, upd_ne h2]
theorem is_raise {m : D (List W)} (hc : X.calm = true) (tk : Takes X Wx) (T : ErrC X.K X.mg x C f) (F : FnOk X.prog X.w X.K X.mg X.base (L2.CX X.prog X.w) k f fd ["self", "value"] (spExc X.K)) (hr : Room (k + 1) X.A) (hb : Binds X.K fd ["self", "value"] []) (hg : Gl X x)
    (ha : IA X ex Wx [e] m) (hdb : (x == ("__debug__" : Str)) = false := by decide) (he : starEach [e] X.env = (false, eval e X.env) :: starEach [] X.env := by rfl) (hpl : (backTo pos (starEach [] X.env)).any (·.1) = false := by rfl) :
    IS X ex Wx (.Raise (some (.Call (.Name x p) [e] [] pos)) none pos2) (sRaise x m) :=
  PS.of (ps_raise hc tk (pmk_oex T.cls T.ini T.ity F hr hb .nil passL hg T.mgC ha hdb he hpl)) fun De σ H ⟨ρ, env, st, s, e, q⟩ => RS.step (rel := relVs X.K) s e q fun ρ1 H1 st1 l vs g s1 e1 r q1 => by
    match l, r, q1 with
    | [w], r, q1 =>
      have r' := r
      simp only [relVs, VRs] at r'
      obtain ⟨y, _, rfl, ry, rfl⟩ := r'
      refine ⟨by show 1 ≤ 1000; decide, fun a na => ⟨a, C, y, rfl, T.cls, T.noV, upd_same, fun d nd dne => ⟨rfl, d, [(("value" : Str), y)], upd_same, ?_, ?_, ?_⟩⟩⟩
      · rw [upd_ne dne, upd_same]
      · rw [upd_ne dne] at nd; exact nd
      · rw [raise_heap na nd dne]
        have nd1 : H1 d = none := by rw [upd_ne dne] at nd; exact nd
        exact q1 ρ1 _ σ _ _ (grow_imm nd1) (s1.grow_imm nd1) (e1.grow s1.apart (grow_imm nd1)) ⟨C, d, y, T.mgC, rfl, rfl, upd_same, s1.none_of nd1, VR.grow s1.apart (grow_imm nd1) w y ry⟩
/-! ### try .. except X as n -/
def unAt (i : Nat) (r : RsS) : RsS := match r with
  | .go f env st => .go f (env.set i none) st
  | .err _ _ _ _ => .stuck
  | .stuck => .stuck
/-- sub: which error names the clause takes (none: not known) -/
def sTryAs (i : Nat) (b : DS) (sub : Str → Option Bool) (su : Str → W → DS) : DS := fun env st => match b env st with
  | .err c w env1 st1 => match sub c with
    | some true => if i < env1.length then unAt i (su c w (env1.set i none) st1) else .stuck
    | some false => .err c w env1 st1
    | none => .stuck
  | r => r
def SubOk (X : Cx) (cv : Value) (sub : Str → Option Bool) : Prop := ∀ c b, sub c = some b → ∀ C, X.mg c = some (.ref C) → PySem.W.exmOne X.K (.ref C) cv = some b ∧ (b = true → XfC X.K C ∧ PySem.W.findIn X.K (.ref C) ("value" : Str) = some none)
/-- the suite: over each error that comes -/
def SuOk (X : Cx) (i : Nat) (stmts : List Stmt) (sub : Str → Option Bool) (su : Str → W → DS) : Prop :=
  ∀ (c : Str) (C dd a : Addr) (y : V) (w : W) (oe : Obj) (pn : List (Addr × Obj)), sub c = some true → X.mg c = some (.ref C) → XfC X.K C → PySem.W.findIn X.K (.ref C) ("value" : Str) = some none → Zc (.ref C) (some dd) oe → (∃ vs, oe.data = .fields vs) → ISs (X.suite a ((a, oe) :: pn)) (some ⟨i, a, dd, y, w⟩) W0 stmts (su c w)
theorem pss_ex {X : Cx} {st : List Stmt} {α : Type} {t : α → TS} (h : ∀ a, PSs X st (t a)) : PSs X st (fun D σ H => ∃ a, t a D σ H) := ⟨fun pins s σ H D I ⟨a, q⟩ => (h a).run pins s σ H D I q⟩
theorem pss_and {X : Cx} {st : List Stmt} {φ : Prop} {t : TS} (h : φ → PSs X st t) : PSs X st (fun D σ H => φ ∧ t D σ H) := ⟨fun pins s σ H D I ⟨f, q⟩ => (h f).run pins s σ H D I q⟩
theorem is_try_as {x n : Str} {c : Value} {i : Nat} {body suite : List Stmt} {b₀ : Stmt} {np pos' : Pos} {b : DS} {sub : Str → Option Bool} {su : Str → W → DS} (hs : X.stack = X.env :: X.outer) (hf : X.env.frame = some X.env.locals) (hN : X.N.Nodup) (hi : X.N[i]? = some n) (hln : X.env.kindOf n = some .local) (hc : Names X x c) (tk : Takes X Wx)
    (hb : ∀ (W : WX) (pn : List (Addr × Obj)) (xe : Value → Shared → Prop), Takes (X.tr pn xe) W → PassesOwn (model X.prog X.w) X.A X.env xe → ISs (X.tr pn xe) none W body b) (hsub : SubOk X c sub) (hsu : SuOk X i (b₀ :: suite) sub su) :
    IS X none Wx (.Try body [.ExceptHandler (some (.Name x np)) (some n) (b₀ :: suite) pos'] [] [] pos) (sTryAs i b sub su) := by
  refine PS.of (ps_try_as (tb := fun W => RS X none W b)
    (ts := fun a cls d De σ H => ∃ (c1 : Str) (C dd : Addr) (y : V) (w : MP.W), (sub c1 = some true ∧ X.mg c1 = some (.ref C) ∧ cls = .ref C ∧ d = some dd ∧ XfC X.K C ∧ PySem.W.findIn X.K (.ref C) ("value" : Str) = some none) ∧ RS X (some ⟨i, a, dd, y, w⟩) W0 (su c1 w) De σ H) hs hf hN hi hln hc tk hb ?_) ?_
  · intro a oe cls d pn hz hfv
    refine pss_ex fun c1 => pss_ex fun C => pss_ex fun dd => pss_ex fun y => pss_ex fun w => pss_and fun h => ?_
    obtain ⟨hs1, hm1, rfl, rfl, xf, nv⟩ := h
    exact hsu c1 C dd a y w oe pn hs1 hm1 xf nv hz hfv
  · intro De σ H ⟨ρ, env, st, s, e, q⟩
    refine ⟨ρ, env, st, s, e, ?_⟩
    unfold sTryAs at q
    generalize b env st = res at q
    cases res with
    | stuck => exact q
    | go f env1 st1 => exact q
    | err c1 w env1 st1 =>
      intro ρ' H' σ' cls d g s' e' er
      simp only at q
      obtain ⟨C, dd, y, hm, rfl, rfl, hx, ndd, rw⟩ := id er
      cases hsb : sub c1 with
      | none => rw [hsb] at q; exact q.elim
      | some bb =>
        rw [hsb] at q
        obtain ⟨hb1, hb2⟩ := hsub c1 bb hsb C hm
        refine ⟨bb, hb1, fun hbt a na => ?_, fun hbf => ?_⟩
        · subst hbt
          simp only at q
          obtain ⟨xf, nv⟩ := hb2 rfl
          by_cases hil0 : i < env1.length
          case neg => rw [if_neg hil0] at q; exact q.elim
          rw [if_pos hil0] at q
          refine ⟨c1, C, dd, y, w, ⟨hsb, hm, rfl, rfl, xf, nv⟩, ρ', env1.set i none, st1, s', ⟨by simp [e'.len], fun j w' h => ?_, fun x h => ?_⟩, ?_⟩
          · by_cases hj : i = j
            · subst hj
              rw [List.getElem?_set] at h
              split at h
              · first | cases h | (split at h <;> cases h)
              · rename_i z; exact absurd rfl z
            · rw [List.getElem?_set_ne hj] at h
              obtain ⟨v, h1, h2⟩ := e'.at_ j w' h
              exact ⟨v, by rw [List.getElem?_set_ne hj]; exact h1, h2⟩
          · cases h
            refine ⟨?_, hx, ndd, rw⟩
            have hil : i < σ'.length := by rw [e'.len]; exact hil0
            show (σ'.set i (some (V.ref a)))[i]? = _
            rw [List.getElem?_set_self hil]
          · generalize su c1 w (env1.set i none) st1 = r2 at q
            have q := PostS.mono q g
            cases r2 with
            | stuck => exact q
            | err c2 w2 env2 st2 => exact q.elim
            | go f env2 st2 =>
              intro ρ2 H2 σ2 g2 s2 e2
              have e3 : EnvR X.K none ρ2 H2 (env2.set i none) (σ2.set i none) := ⟨by simp [e2.len], fun j w' h => by
                by_cases hj : i = j
                · subst hj
                  rw [List.getElem?_set] at h
                  split at h
                  · first | cases h | (split at h <;> cases h)
                  · rename_i z; exact absurd rfl z
                · rw [List.getElem?_set_ne hj] at h
                  obtain ⟨v, h1, h2⟩ := e2.at_ j w' h
                  exact ⟨v, by rw [List.getElem?_set_ne hj]; exact h1, h2⟩, fun _ h => nomatch h⟩
              have z := q ρ2 H2 (σ2.set i none) g2 s2 e3
              cases f with
              | nx => exact z
              | bk => exact z
              | ct => exact z
              | rt v => exact z
        · subst hbf
          simp only at q
          exact q ρ' H' σ' _ _ g s' e' er
/-- n.value in the suite -/
def dExc (w : W) : D W := fun _ st => .ok w st
theorem ie_exc {a C dd : Addr} {y : V} {w : W} {i : Nat} {oe : Obj} {pn : List (Addr × Obj)} {n : Str} {q1 : Pos} (T : XfC X.K C) (hno : PySem.W.findIn X.K (.ref C) ("value" : Str) = some none) (hz : Zc (.ref C) (some dd) oe) (hf : ∃ vs, oe.data = .fields vs)
    (hN : X.N[i]? = some n) (hv : Vis X.env.scope n) (hd : (n == ("__debug__" : Str)) = false := by decide) (hcd : (n == ("__classdict__" : Str)) = false := by decide) :
    IE (X.suite a ((a, oe) :: pn)) (some ⟨i, a, dd, y, w⟩) Wx (.Attribute (.Name n q1) "value" pos) (dExc w) := by
  refine PE.of (pe_xf T hno hz hf (pe_var (i := i) hN hv hd hcd)) fun σ H Q ⟨ρ, env, st, s, e, p⟩ => ?_
  obtain ⟨h1, h2, h3, h4⟩ := e.exc _ rfl
  exact ⟨.ref a, h1, rfl, rfl, dd, _, y, rfl, h2, by simp [List.lookup], p.ok_ s h4⟩
end
end
end MP
namespace MP
open PySem PySem.Spec PyProof.Rows L2
open Classical
noncomputable section

section
variable {X : Cx} {ex : Option Exn} {Wx : WX} {pos : Pos}
theorem loc_lst {ρ : List Addr} {H : Hp} {st : Store} {n : Nat} {x : V} {xs : List W} (s : StR X.K ρ H st) (r : VR X.K ρ H (.loc n) x) (h : st[n]? = some (.lst xs)) : ∃ a us, ρ[n]? = some a ∧ x = .ref a ∧ H a = some (.lst us) ∧ VRs X.K ρ H xs us := by
  simp only [VR] at r
  obtain ⟨a, ha, rfl⟩ := r
  obtain ⟨b, hb, us, hu, rs⟩ := s.ob n _ h
  rw [ha] at hb; cases hb
  exact ⟨a, us, ha, rfl, hu, rs⟩
theorem tup_of {ρ : List Addr} {H : Hp} {x : V} {xs : List W} (r : VR X.K ρ H (.tup xs) x) : ∃ a us, x = .ref a ∧ TpF X.K H a us ∧ VRs X.K ρ H xs us := by
  simpa only [VR] using r
theorem fro_of {ρ : List Addr} {H : Hp} {x : V} {xs : List W} (r : VR X.K ρ H (.fro xs) x) : ∃ a us, x = .ref a ∧ SqF X.K H a us ∧ VRs X.K ρ H xs us := by
  simpa only [VR] using r
theorem int_of {ρ : List Addr} {H : Hp} {x : V} {i : Int} (r : VR X.K ρ H (.int i) x) : x = .int i := by simpa only [VR] using r
theorem str_of {ρ : List Addr} {H : Hp} {x : V} {i : Str} (r : VR X.K ρ H (.str i) x) : x = .str i := by simpa only [VR] using r
theorem bl_of {ρ : List Addr} {H : Hp} {x : V} {i : Bool} (r : VR X.K ρ H (.bl i) x) : x = .bl i := by simpa only [VR] using r
theorem non_of {ρ : List Addr} {H : Hp} {x : V} (r : VR X.K ρ H .non x) : x = .non := by simpa only [VR] using r
/-- an answer that is a new list -/
theorem post_lst {ρ : List Addr} {H : Hp} {st : Store} {σ : L2.St} {l : List W} {us : List V} {Q : VK} (s : StR X.K ρ H st) (r : VRs X.K ρ H l us) (p : Post X.K X.mg Wx (relV X.K) ρ H σ (.ok (.loc st.length) (st ++ [.lst l])) Q) : ∀ q, H q = none → Q (.ref q) (upd H q (.lst us)) := fun q hq => by
  obtain ⟨a, b⟩ := lst_new s r hq
  exact p (ρ ++ [q]) _ _ (grow_new hq) a b
theorem post_tup {ρ : List Addr} {H : Hp} {st : Store} {σ : L2.St} {l : List W} {us : List V} {Q : VK} (s : StR X.K ρ H st) (r : VRs X.K ρ H l us) (p : Post X.K X.mg Wx (relV X.K) ρ H σ (.ok (.tup l) st) Q) : ∀ q, H q = none → Q (.ref q) (upd H q (.tup us)) := fun q hq =>
  p ρ _ _ (grow_imm hq) (s.grow_imm hq) (tup_new s r hq)
theorem post_int {ρ : List Addr} {H : Hp} {st : Store} {σ : L2.St} {i : Int} {Q : VK} (s : StR X.K ρ H st) (p : Post X.K X.mg Wx (relV X.K) ρ H σ (.ok (.int i) st) Q) : Q (.int i) H := p.ok_ s (by simp [VR])
theorem post_str {ρ : List Addr} {H : Hp} {st : Store} {σ : L2.St} {i : Str} {Q : VK} (s : StR X.K ρ H st) (p : Post X.K X.mg Wx (relV X.K) ρ H σ (.ok (.str i) st) Q) : Q (.str i) H := p.ok_ s (by simp [VR])
theorem post_bl {ρ : List Addr} {H : Hp} {st : Store} {σ : L2.St} {i : Bool} {Q : VK} (s : StR X.K ρ H st) (p : Post X.K X.mg Wx (relV X.K) ρ H σ (.ok (.bl i) st) Q) : Q (.bl i) H := p.ok_ s (by simp [VR])
/-! ### + - * // % ** -/
def lst2 (st : Store) (m n : Nat) : Option (List W × List W) := match st[m]?, st[n]? with
  | some (.lst xs), some (.lst ys) => some (xs, ys)
  | _, _ => none
def addW (a b : W) (st : Store) : Res W := match a, b with
  | .int i, .int j => .ok (.int (i + j)) st
  | .str x, .str y => if x.length + y.length ≤ sizeLine then .ok (.str (x ++ y)) st else .stuck
  | .tup xs, .tup ys => if xs.length + ys.length ≤ sizeLine then .ok (.tup (xs ++ ys)) st else .stuck
  | .loc m, .loc n => match lst2 st m n with
    | some (xs, ys) => if xs.length + ys.length ≤ sizeLine then .ok (.loc st.length) (st ++ [.lst (xs ++ ys)]) else .stuck
    | none => .stuck
  | _, _ => .stuck
theorem lst2_of {st : Store} {m n : Nat} {xs ys : List W} (h : lst2 st m n = some (xs, ys)) : st[m]? = some (.lst xs) ∧ st[n]? = some (.lst ys) := by
  unfold lst2 at h
  split at h
  · rename_i h1 h2; cases h; exact ⟨h1, h2⟩
  · cases h
def rAdd (K : PySem.W.Frag) : R2 := fun x y H Q => (rI0 (fun i j => .int (i + j)) x y H Q) ∨ ((∃ i j, x = .str i ∧ y = .str j ∧ i.length + j.length ≤ sizeLine ∧ Q (.str (i ++ j)) H) ∨ (rCatA K x y H Q ∨ rCat x y H Q))
theorem opr_add : OpR X (binaryOp .Add) (rAdd X.K) := OpR.or op_add (OpR.or op_add_str (OpR.or op_catA op_cat))
theorem add_ok : OpOk X (rAdd X.K) addW := fun Wx ρ H st σ a b x y Q s ra rb p => by
  unfold addW at p
  split at p
  · rw [int_of ra, int_of rb]
    exact .inl ⟨_, _, rfl, rfl, post_int s p⟩
  · rw [str_of ra, str_of rb]
    split at p
    · rename_i hz
      exact .inr (.inl ⟨_, _, rfl, rfl, hz, post_str s p⟩)
    · exact p.elim
  · split at p
    · rename_i xs ys hz
      obtain ⟨a1, us, rfl, ht, r1⟩ := tup_of ra
      obtain ⟨b1, vs, rfl, hu, r2⟩ := tup_of rb
      refine .inr (.inr (.inl ⟨a1, b1, us, vs, rfl, rfl, ht.sq, hu.sq, by rw [← VRs.length r1, ← VRs.length r2]; exact hz, fun e => ?_, fun _ e => ?_, fun _ _ => post_tup s (r1.append r2) p⟩))
      · refine p.ok_ s ?_
        have e1 : xs = [] := by cases xs with
          | nil => rfl
          | cons _ _ => have := VRs.length r1; rw [e] at this; simp at this
        subst e1
        simp only [List.nil_append, relV, VR]
        exact ⟨b1, vs, rfl, hu, r2⟩
      · refine p.ok_ s ?_
        have e1 : ys = [] := by cases ys with
          | nil => rfl
          | cons _ _ => have := VRs.length r2; rw [e] at this; simp at this
        subst e1
        simp only [List.append_nil, relV, VR]
        exact ⟨a1, us, rfl, ht, r1⟩
    · exact p.elim
  · split at p
    · rename_i xs ys hl
      obtain ⟨h1, h2⟩ := lst2_of hl
      split at p
      · rename_i hz
        obtain ⟨a1, us, _, rfl, hu, r1⟩ := loc_lst s ra h1
        obtain ⟨b1, vs, _, rfl, hv, r2⟩ := loc_lst s rb h2
        exact .inr (.inr (.inr ⟨a1, b1, us, vs, rfl, rfl, hu, hv, by rw [← VRs.length r1, ← VRs.length r2]; exact hz, post_lst s (r1.append r2) p⟩))
      · exact p.elim
    · exact p.elim
  · exact p.elim
theorem ie_add {a b : Expr} {ma mb : D W} (ha : IE X ex Wx a ma) (hb : IE X ex Wx b mb) : IE X ex Wx (.BinOp a .Add b pos) (dOp addW ma mb) := ie_op opr_add add_ok ha hb
def subW (a b : W) (st : Store) : Res W := match a, b with
  | .int i, .int j => .ok (.int (i - j)) st
  | _, _ => .stuck
theorem sub_ok : OpOk X (rI0 fun i j => .int (i - j)) subW := fun Wx ρ H st σ a b x y Q s ra rb p => by
  unfold subW at p
  split at p
  · rw [int_of ra, int_of rb]; exact ⟨_, _, rfl, rfl, post_int s p⟩
  · exact p.elim
theorem ie_sub {a b : Expr} {ma mb : D W} (ha : IE X ex Wx a ma) (hb : IE X ex Wx b mb) : IE X ex Wx (.BinOp a .Sub b pos) (dOp subW ma mb) := ie_op op_sub sub_ok ha hb
theorem op_mulI : OpR X (binaryOp .Mult) (rI IntMulOk fun i j => .int (i * j)) := opI fun _ _ _ _ _ _ _ hc q => mul_int q hc
/-- z, k times -/
def repS (z : Str) (k : Nat) : Str := ⟨(List.replicate k z.cps).foldl (· ++ ·) #[]⟩
def CRepS (z : Str) (k : Int) : Prop := 2 ≤ k ∧ k ≤ 1000 ∧ 1 ≤ z.length ∧ z.length ≤ 1000 ∧ (repS z k.toNat).length ≤ sizeLine
theorem op_mulS : OpR X (binaryOp .Mult) (fun x y H Q => ∃ z k, x = .str z ∧ y = .int k ∧ CRepS z k ∧ Q (.str (repS z k.toNat)) H) := by
  intro pins s σ H x y v u Q I rx ry h
  obtain ⟨z, k, rfl, rfl, ⟨h1, h2, h3, h4, h5⟩, q⟩ := h
  obtain ⟨t, rfl⟩ := rx
  obtain ⟨t', rfl⟩ := ry
  have hk1 : (k == 1) = false := by simp; omega
  have hz0 : (z.length == 0) = false := by simp; omega
  refine PySem.P.mul_str ?_ (fun _ _ => ?_) (fun _ _ => ?_) ?_
  · have a1 : ¬ k < -(2 ^ 63 : Int) := by omega
    have a2 : ¬ k ≥ 2 ^ 63 := by omega
    rw [decide_eq_false a1, decide_eq_false a2]; rfl
  · have : (2 : Int) ^ 63 - 1 = 9223372036854775807 := by decide
    rw [this]
    intro hgt
    have h6 : (1000 : Int) ≤ 9223372036854775807 / k := by
      rw [Int.le_ediv_iff_mul_le (by omega)]; omega
    omega
  · have hle : z.length * k.toNat ≤ 1000 * 1000 := Nat.mul_le_mul h4 (by omega)
    exact decide_eq_false (by rw [sizeLine_eq]; omega)
  · rw [if_neg (by omega), hk1, hz0]
    exact ⟨h5, .str _, H, I.tok _, ⟨_, rfl⟩, q⟩
def mulW (a b : W) (st : Store) : Res W := match a, b with
  | .int i, .int j => if IntMulOk i j then .ok (.int (i * j)) st else .stuck
  | .str z, .int k => if CRepS z k then .ok (.str (repS z k.toNat)) st else .stuck
  | .loc m, .int k => match st[m]? with
    | some (.lst xs) => if -(2 ^ 63) ≤ k ∧ k < 2 ^ 63 ∧ xs.length * k.toNat ≤ sizeLine then .ok (.loc st.length) (st ++ [.lst (List.replicate k.toNat xs).flatten]) else .stuck
    | _ => .stuck
  | _, _ => .stuck
theorem VRs.rep {K : PySem.W.Frag} {ρ : List Addr} {H : Hp} {ws : List W} {us : List V} (r : VRs K ρ H ws us) : ∀ n : Nat, VRs K ρ H (List.replicate n ws).flatten (List.replicate n us).flatten
  | 0 => by simp [VRs]
  | n + 1 => by
    simp only [List.replicate_succ, List.flatten_cons]
    exact r.append (r.rep n)
theorem mul_ok : OpOk X (fun x y H Q => rI IntMulOk (fun i j => .int (i * j)) x y H Q ∨ ((∃ z k, x = .str z ∧ y = .int k ∧ CRepS z k ∧ Q (.str (repS z k.toNat)) H) ∨ rRep x y H Q)) mulW := fun Wx ρ H st σ a b x y Q s ra rb p => by
  unfold mulW at p
  split at p
  · split at p
    · rename_i hz
      rw [int_of ra, int_of rb]; exact .inl ⟨_, _, rfl, rfl, hz, post_int s p⟩
    · exact p.elim
  · split at p
    · rename_i hz
      rw [str_of ra, int_of rb]; exact .inr (.inl ⟨_, _, rfl, rfl, hz, post_str s p⟩)
    · exact p.elim
  · split at p
    · rename_i xs hl
      split at p
      · rename_i hz
        obtain ⟨a1, us, _, rfl, hu, r1⟩ := loc_lst s ra hl
        rw [int_of rb]
        exact .inr (.inr ⟨a1, _, us, rfl, rfl, hu, hz.1, hz.2.1, by rw [← VRs.length r1]; exact hz.2.2, post_lst s (r1.rep _) p⟩)
      · exact p.elim
    · exact p.elim
  · exact p.elim
theorem ie_mul {a b : Expr} {ma mb : D W} (ha : IE X ex Wx a ma) (hb : IE X ex Wx b mb) : IE X ex Wx (.BinOp a .Mult b pos) (dOp mulW ma mb) := ie_op (OpR.or op_mulI (OpR.or op_mulS op_rep)) mul_ok ha hb
def fdivW (a b : W) (st : Store) : Res W := match a, b with
  | .int i, .int j => if CDivW i j then .ok (.int (i / j)) st else .stuck
  | _, _ => .stuck
theorem fdiv_ok : OpOk X (rI CDivW fun i j => .int (i / j)) fdivW := fun Wx ρ H st σ a b x y Q s ra rb p => by
  unfold fdivW at p
  split at p
  · split at p
    · rename_i hz
      rw [int_of ra, int_of rb]; exact ⟨_, _, rfl, rfl, hz, post_int s p⟩
    · exact p.elim
  · exact p.elim
theorem ie_fdiv {a b : Expr} {ma mb : D W} (ha : IE X ex Wx a ma) (hb : IE X ex Wx b mb) : IE X ex Wx (.BinOp a .FloorDiv b pos) (dOp fdivW ma mb) := ie_op op_fdivW fdiv_ok ha hb
theorem op_modP : OpR X (binaryOp .Mod) (rI (fun _ j => 0 < j) fun i j => .int (i % j)) := opI fun i j _ _ _ _ _ hc q => mod_int' (by omega) (by rw [Int.fmod_eq_emod_of_nonneg i (by omega)]; exact q)
def modW (a b : W) (st : Store) : Res W := match a, b with
  | .int i, .int j => if 0 < j then .ok (.int (i % j)) st else .stuck
  | _, _ => .stuck
theorem mod_ok : OpOk X (rI (fun _ j => 0 < j) fun i j => .int (i % j)) modW := fun Wx ρ H st σ a b x y Q s ra rb p => by
  unfold modW at p
  split at p
  · split at p
    · rename_i hz
      rw [int_of ra, int_of rb]; exact ⟨_, _, rfl, rfl, hz, post_int s p⟩
    · exact p.elim
  · exact p.elim
theorem ie_mod {a b : Expr} {ma mb : D W} (ha : IE X ex Wx a ma) (hb : IE X ex Wx b mb) : IE X ex Wx (.BinOp a .Mod b pos) (dOp modW ma mb) := ie_op op_modP mod_ok ha hb
def CPowW (i j : Int) : Prop := 0 ≤ j ∧ (Builtin.Int.intBits i : Int) * j ≤ 2 ^ 27
theorem op_powI : OpR X (binaryOp .Pow) (rI CPowW fun i j => .int (i ^ j.toNat)) := opI fun _ _ _ _ _ _ _ hc q => pow_int hc.1 hc.2 q
def powW (a b : W) (st : Store) : Res W := match a, b with
  | .int i, .int j => if CPowW i j then .ok (.int (i ^ j.toNat)) st else .stuck
  | _, _ => .stuck
theorem pow_ok : OpOk X (rI CPowW fun i j => .int (i ^ j.toNat)) powW := fun Wx ρ H st σ a b x y Q s ra rb p => by
  unfold powW at p
  split at p
  · split at p
    · rename_i hz
      rw [int_of ra, int_of rb]; exact ⟨_, _, rfl, rfl, hz, post_int s p⟩
    · exact p.elim
  · exact p.elim
theorem ie_pow {a b : Expr} {ma mb : D W} (ha : IE X ex Wx a ma) (hb : IE X ex Wx b mb) : IE X ex Wx (.BinOp a .Pow b pos) (dOp powW ma mb) := ie_op op_powI pow_ok ha hb
def negW (a : W) (st : Store) : Res W := match a with
  | .int i => .ok (.int (-i)) st
  | _ => .stuck
theorem neg_ok : UnOk X (rU fun i => .int (-i)) negW := fun Wx ρ H st σ a x Q s ra p => by
  unfold negW at p
  split at p
  · rw [int_of ra]; exact ⟨_, rfl, post_int s p⟩
  · exact p.elim
theorem ie_neg {a : Expr} {ma : D W} (ha : IE X ex Wx a ma) : IE X ex Wx (.UnaryOp .USub a pos) (dUn negW ma) := ie_un un_neg neg_ok ha
/-! ### == != by data -/
def allO {α : Type} : List (Option α) → Option (List α)
  | [] => some []
  | some a :: r => (allO r).map (a :: ·)
  | none :: _ => none
def datF (st : Store) : Nat → W → Option PyData
  | 0, _ => none
  | n + 1, w => match w with
    | .non => some .none
    | .bl b => some (.bool b)
    | .int i => some (.int i)
    | .str x => some (.str x)
    | .tup ws => (allO (ws.map (datF st n))).map .tuple
    | .fro ws => (allO (ws.map (datF st n))).map .list
    | .loc k => match st[k]? with
      | some (.lst ws) => (allO (ws.map (datF st n))).map .list
      | none => none
    | .gl _ => none
    | .rng _ _ => none
theorem allO_dp {ρ : List Addr} {H : Hp} {f : W → Option PyData} (h : ∀ w v d, VR X.K ρ H w v → f w = some d → Dp X.K H v d) : ∀ {ws : List W} {us : List V} {ds : List PyData}, VRs X.K ρ H ws us → allO (ws.map f) = some ds → DpAll X.K H us ds
  | [], us, ds, r, e => by
    simp only [VRs] at r
    simp only [List.map_nil, allO, Option.some.injEq] at e
    subst r; subst e
    exact .nil
  | w :: ws, us, ds, r, e => by
    simp only [VRs] at r
    obtain ⟨u, vs, rfl, rw, rs⟩ := r
    simp only [List.map_cons] at e
    cases hf : f w with
    | none => rw [hf] at e; simp [allO] at e
    | some d =>
      rw [hf] at e
      simp only [allO] at e
      cases ha : allO (ws.map f) with
      | none => rw [ha] at e; cases e
      | some dr =>
        rw [ha] at e
        cases e
        exact .cons (h w u d rw hf) (allO_dp h rs ha)
theorem datF_dp {ρ : List Addr} {H : Hp} {st : Store} (s : StR X.K ρ H st) : ∀ (n : Nat) (w : W) (v : V) (d : PyData), VR X.K ρ H w v → datF st n w = some d → Dp X.K H v d
  | 0, _, _, _, _, e => by simp [datF] at e
  | n + 1, w, v, d, r, e => by
    unfold datF at e
    cases w with
    | non => simp only at e; cases e; rw [non_of r]; constructor
    | bl b => simp only at e; cases e; rw [bl_of r]; constructor
    | int i => simp only at e; cases e; rw [int_of r]; constructor
    | str x => simp only at e; cases e; rw [str_of r]; constructor
    | gl u => simp only at e; cases e
    | rng i j => simp only at e; cases e
    | tup ws =>
      simp only at e
      cases ha : allO (ws.map (datF st n)) with
      | none => rw [ha] at e; cases e
      | some ds =>
        rw [ha] at e; cases e
        obtain ⟨a, us, rfl, ht, rs⟩ := tup_of r
        exact .tup ht.sq (allO_dp (datF_dp s n) rs ha)
    | fro ws =>
      simp only at e
      cases ha : allO (ws.map (datF st n)) with
      | none => rw [ha] at e; cases e
      | some ds =>
        rw [ha] at e; cases e
        obtain ⟨a, us, rfl, ht, rs⟩ := fro_of r
        exact .lst ht.sq (allO_dp (datF_dp s n) rs ha)
    | loc k =>
      simp only at e
      cases hk : st[k]? with
      | none => rw [hk] at e; cases e
      | some o =>
        cases o with
        | lst ws =>
          rw [hk] at e
          simp only at e
          cases ha : allO (ws.map (datF st n)) with
          | none => rw [ha] at e; cases e
          | some ds =>
            rw [ha] at e; cases e
            obtain ⟨a, us, _, rfl, hu, rs⟩ := loc_lst s r hk
            exact .lst (.of hu) (allO_dp (datF_dp s n) rs ha)
end
end
end MP
namespace MP
open PySem PySem.Spec PyProof.Rows L2
open Classical
noncomputable section

section
variable {X : Cx} {ex : Option Exn} {Wx : WX} {pos p : Pos}
def eqW (a b : W) (st : Store) : Res W := match datF st 66 a, datF st 66 b with
  | some d, some e => if SeqAt.shaped d = true ∧ SeqAt.shaped e = true then .ok (.bl (PyData.eqv d e)) st else .stuck
  | _, _ => .stuck
def neW (a b : W) (st : Store) : Res W := match datF st 66 a, datF st 66 b with
  | some d, some e => if SeqAt.shaped d = true ∧ SeqAt.shaped e = true then .ok (.bl (!PyData.eqv d e)) st else .stuck
  | _, _ => .stuck
theorem eq_ok : OpOk X (rEqD X.K) eqW := fun Wx ρ H st σ a b x y Q s ra rb p => by
  unfold eqW at p
  split at p
  · rename_i d e hd he
    split at p
    · rename_i hz
      exact ⟨d, e, datF_dp s 66 a x d ra hd, datF_dp s 66 b y e rb he, hz.1, hz.2, post_bl s p⟩
    · exact p.elim
  · exact p.elim
theorem ne_ok : OpOk X (rNeD X.K) neW := fun Wx ρ H st σ a b x y Q s ra rb p => by
  unfold neW at p
  split at p
  · rename_i d e hd he
    split at p
    · rename_i hz
      exact ⟨d, e, datF_dp s 66 a x d ra hd, datF_dp s 66 b y e rb he, hz.1, hz.2, post_bl s p⟩
    · exact p.elim
  · exact p.elim
section
variable {a b : Expr} {ma mb : D W} {k : Nat}
theorem ie_eq (hr : Room k X.A) (ha : IE X ex Wx a ma) (hb : IE X ex Wx b mb) : IE X ex Wx (.Compare a [.Eq] [b] pos) (dOp eqW ma mb) := ie_cmp (op_eqD hr.units) eq_ok ha hb (nomark _)
theorem ie_ne (hr : Room k X.A) (ha : IE X ex Wx a ma) (hb : IE X ex Wx b mb) : IE X ex Wx (.Compare a [.NotEq] [b] pos) (dOp neW ma mb) := ie_cmp (op_neD hr.units) ne_ok ha hb (nomark _)
theorem it_eq (hr : Room k X.A) (ha : IE X ex Wx a ma) (hb : IE X ex Wx b mb) : IT X ex Wx (.Compare a [.Eq] [b] pos) (dBool (dOp eqW ma mb)) := it_cmp (op_eqD hr.units) eq_ok ha hb (nomark _)
theorem it_ne (hr : Room k X.A) (ha : IE X ex Wx a ma) (hb : IE X ex Wx b mb) : IT X ex Wx (.Compare a [.NotEq] [b] pos) (dBool (dOp neW ma mb)) := it_cmp (op_neD hr.units) ne_ok ha hb (nomark _)
end
/-! ### < <= > >= -/
def ltW (a b : W) (st : Store) : Res W := match a, b with
  | .int i, .int j => .ok (.bl (decide (i < j))) st
  | .str x, .str y => .ok (.bl (decide (x.cps.toList < y.cps.toList))) st
  | _, _ => .stuck
def leW (a b : W) (st : Store) : Res W := match a, b with
  | .int i, .int j => .ok (.bl (decide (i ≤ j))) st
  | .str x, .str y => .ok (.bl (!decide (y.cps.toList < x.cps.toList))) st
  | _, _ => .stuck
def gtW (a b : W) (st : Store) : Res W := match a, b with
  | .int i, .int j => .ok (.bl (decide (j < i))) st
  | .str x, .str y => .ok (.bl (decide (y.cps.toList < x.cps.toList))) st
  | _, _ => .stuck
def geW (a b : W) (st : Store) : Res W := match a, b with
  | .int i, .int j => .ok (.bl (decide (j ≤ i))) st
  | .str x, .str y => .ok (.bl (!decide (x.cps.toList < y.cps.toList))) st
  | _, _ => .stuck
theorem ord_ok {f : W → W → Store → Res W} {g : Int → Int → Bool} {h : Str → Str → Bool} (hf : ∀ a b st, f a b st = match a, b with
    | .int i, .int j => .ok (.bl (g i j)) st
    | .str x, .str y => .ok (.bl (h x y)) st
    | _, _ => .stuck) : OpOk X (fun x y H Q => rI0 (fun i j => .bl (g i j)) x y H Q ∨ ∃ i j, x = .str i ∧ y = .str j ∧ Q (.bl (h i j)) H) f := fun Wx ρ H st σ a b x y Q s ra rb p => by
  rw [hf] at p
  split at p
  · rw [int_of ra, int_of rb]; exact .inl ⟨_, _, rfl, rfl, post_bl s p⟩
  · rw [str_of ra, str_of rb]; exact .inr ⟨_, _, rfl, rfl, post_bl s p⟩
  · exact p.elim
section
variable {a b : Expr} {ma mb : D W}
theorem ie_lt (ha : IE X ex Wx a ma) (hb : IE X ex Wx b mb) : IE X ex Wx (.Compare a [.Lt] [b] pos) (dOp ltW ma mb) := ie_cmp (OpR.or op_lt op_lt_str) (ord_ok fun _ _ _ => rfl) ha hb (nomark _)
theorem ie_le (ha : IE X ex Wx a ma) (hb : IE X ex Wx b mb) : IE X ex Wx (.Compare a [.LtE] [b] pos) (dOp leW ma mb) := ie_cmp (OpR.or op_le op_le_str) (ord_ok fun _ _ _ => rfl) ha hb (nomark _)
theorem ie_gt (ha : IE X ex Wx a ma) (hb : IE X ex Wx b mb) : IE X ex Wx (.Compare a [.Gt] [b] pos) (dOp gtW ma mb) := ie_cmp (OpR.or op_gt op_gt_str) (ord_ok fun _ _ _ => rfl) ha hb (nomark _)
theorem ie_ge (ha : IE X ex Wx a ma) (hb : IE X ex Wx b mb) : IE X ex Wx (.Compare a [.GtE] [b] pos) (dOp geW ma mb) := ie_cmp (OpR.or op_ge op_ge_str) (ord_ok fun _ _ _ => rfl) ha hb (nomark _)
theorem it_lt (ha : IE X ex Wx a ma) (hb : IE X ex Wx b mb) : IT X ex Wx (.Compare a [.Lt] [b] pos) (dBool (dOp ltW ma mb)) := it_cmp (OpR.or op_lt op_lt_str) (ord_ok fun _ _ _ => rfl) ha hb (nomark _)
theorem it_le (ha : IE X ex Wx a ma) (hb : IE X ex Wx b mb) : IT X ex Wx (.Compare a [.LtE] [b] pos) (dBool (dOp leW ma mb)) := it_cmp (OpR.or op_le op_le_str) (ord_ok fun _ _ _ => rfl) ha hb (nomark _)
theorem it_gt (ha : IE X ex Wx a ma) (hb : IE X ex Wx b mb) : IT X ex Wx (.Compare a [.Gt] [b] pos) (dBool (dOp gtW ma mb)) := it_cmp (OpR.or op_gt op_gt_str) (ord_ok fun _ _ _ => rfl) ha hb (nomark _)
theorem it_ge (ha : IE X ex Wx a ma) (hb : IE X ex Wx b mb) : IT X ex Wx (.Compare a [.GtE] [b] pos) (dBool (dOp geW ma mb)) := it_cmp (OpR.or op_ge op_ge_str) (ord_ok fun _ _ _ => rfl) ha hb (nomark _)
/-- a <= b <= c -/
theorem ie_lele {c : Expr} {mc : D W} (ha : IE X ex Wx a ma) (hb : IE X ex Wx b mb) (hc : IE X ex Wx c mc) (hm : lastMarks [.LtE, .LtE] [b, c] = false := by with_unfolding_all rfl) : IE X ex Wx (.Compare a [.LtE, .LtE] [b, c] pos) (dChain leW leW ma mb mc) :=
  ie_chain (OpR.or op_le op_le_str) (ord_ok fun _ _ _ => rfl) (OpR.or op_le op_le_str) (ord_ok fun _ _ _ => rfl) ha hb hc hm
/-- a <= b < c -/
theorem ie_lelt {c : Expr} {mc : D W} (ha : IE X ex Wx a ma) (hb : IE X ex Wx b mb) (hc : IE X ex Wx c mc) (hm : lastMarks [.LtE, .Lt] [b, c] = false := by with_unfolding_all rfl) : IE X ex Wx (.Compare a [.LtE, .Lt] [b, c] pos) (dChain leW ltW ma mb mc) :=
  ie_chain (OpR.or op_le op_le_str) (ord_ok fun _ _ _ => rfl) (OpR.or op_lt op_lt_str) (ord_ok fun _ _ _ => rfl) ha hb hc hm
end
theorem tru_step {m : D W} (σ : L2.St) (H : Hp) (Q : Bool → Hp → Prop) (h : RG X ex Wx relE (dBool m) σ H Q) : RG X ex Wx (relV X.K) m σ H fun x H' => ∃ k, TruV X.K x H' k ∧ Q k H' := by
  obtain ⟨ρ, env, st, s, e, q⟩ := dBool_step h
  refine ⟨ρ, env, st, s, e, ?_⟩
  generalize m env st = r at q
  cases r with
  | stuck => exact q
  | err c w st1 => exact q
  | ok a st1 =>
    intro ρ' H' x g s' r
    obtain ⟨k, ek, q'⟩ := q ρ' H' x g s' r
    subst ek
    exact ⟨k, rfl, q'⟩
/-- a bool's expression as a test -/
theorem it_val {e : Expr} {m : D W} (he : IE X ex Wx e m) (hw : ∀ whole, isTrue e X.env whole = (do let v ← whole; standAt e.pos; holding [v] (truthy v)) := by intro _; rfl) : IT X ex Wx e (dBool m) :=
  PT.of (pt_truth he hw) (tru_step)
theorem chain_step {op op' : CmpOp} {r r' : R2} {f g : W → W → Store → Res W} {ma mb mc : D W} (hf : OpOk X r f) (hg : OpOk X r' g) (σ : L2.St) (H : Hp) (Q : VK) (h : RG X ex Wx (relV X.K) (dChain f g ma mb mc) σ H Q) :
    tChain r r' (RG X ex Wx (relV X.K) ma) (RG X ex Wx (relV X.K) mb) (RG X ex Wx (relV X.K) mc) σ H Q := by
  obtain ⟨ρ, env, st, s, e, q⟩ := h
  refine RG.bind s e q fun ρ1 H1 st1 a x g1 s1 e1 ra p1 => RG.bind s1 e1 p1 fun ρ2 H2 st2 b y g2 s2 e2 rb p2 => ?_
  refine hf Wx ρ2 H2 st2 σ a b x y _ s2 (VR.grow s1.apart g2 a x ra) rb ?_
  generalize f a b st2 = q2 at p2
  cases q2 with
  | stuck => exact p2
  | err c fs st' => exact p2
  | ok z st3 =>
    intro ρ3 H3 zv g3 s3 rz
    simp only [Res.bind_ok] at p2
    cases z with
    | bl k =>
      refine ⟨k, bl_of rz, ?_⟩
      cases k with
      | true =>
        rw [if_pos rfl]
        exact RG.bind s3 (e2.grow s2.apart g3) (Post.mono p2 g3) fun ρ4 H4 st4 c z g4 s4 e4 rc p4 => hg Wx ρ4 H4 st4 σ b c y z Q s4 (VR.grow s3.apart g4 b y (VR.grow s2.apart g3 b y rb)) rc p4
      | false =>
        rw [if_neg (by decide)]
        exact post_bl s3 (Post.mono p2 g3)
    | _ => exact p2.elim
theorem it_lele {a b c : Expr} {ma mb mc : D W} (ha : IE X ex Wx a ma) (hb : IE X ex Wx b mb) (hc : IE X ex Wx c mc) (hm : lastMarks [.LtE, .LtE] [b, c] = false := by with_unfolding_all rfl) : IT X ex Wx (.Compare a [.LtE, .LtE] [b, c] pos) (dBool (dChain leW leW ma mb mc)) :=
  PT.of (pt_chain (OpR.or op_le op_le_str) (OpR.or op_le op_le_str) ha hb hc hm) fun σ H Q h => chain_step (op := .LtE) (op' := .LtE) (ord_ok fun _ _ _ => rfl) (ord_ok fun _ _ _ => rfl) σ H _ (dBool_step h)
theorem it_lelt {a b c : Expr} {ma mb mc : D W} (ha : IE X ex Wx a ma) (hb : IE X ex Wx b mb) (hc : IE X ex Wx c mc) (hm : lastMarks [.LtE, .Lt] [b, c] = false := by with_unfolding_all rfl) : IT X ex Wx (.Compare a [.LtE, .Lt] [b, c] pos) (dBool (dChain leW ltW ma mb mc)) :=
  PT.of (pt_chain (OpR.or op_le op_le_str) (OpR.or op_lt op_lt_str) ha hb hc hm) fun σ H Q h => chain_step (op := .LtE) (op' := .Lt) (ord_ok fun _ _ _ => rfl) (ord_ok fun _ _ _ => rfl) σ H _ (dBool_step h)
/-- any value's truth: a list, a text, a number -/
def truW (a : W) (st : Store) : Res Bool := match a with
  | .non => .ok false st
  | .bl b => .ok b st
  | .int i => .ok (i != 0) st
  | .str y => if y.length ≤ sizeLine then .ok ((y.length : Int) != 0) st else .stuck
  | _ => .stuck
def dTru (m : D W) : D Bool := fun env st => (m env st).bind fun a st1 => truW a st1
theorem it_tru {e : Expr} {m : D W} (he : IE X ex Wx e m) (hw : ∀ whole, isTrue e X.env whole = (do let v ← whole; standAt e.pos; holding [v] (truthy v)) := by intro _; rfl) : IT X ex Wx e (dTru m) :=
  PT.of (pt_truth he hw) fun σ H Q ⟨ρ, env, st, s, e, p⟩ => RG.bind s e p fun ρ1 H1 st1 a x g1 s1 e1 ra p1 => by
    unfold truW at p1
    split at p1
    · rw [non_of ra]; exact ⟨false, rfl, p1.ok_ s1 rfl⟩
    · rw [bl_of ra]; exact ⟨_, rfl, p1.ok_ s1 rfl⟩
    · rw [int_of ra]; exact ⟨_, rfl, p1.ok_ s1 rfl⟩
    · split at p1
      · rename_i hz
        rw [str_of ra]; exact ⟨_, ⟨hz, rfl⟩, p1.ok_ s1 rfl⟩
      · exact p1.elim
    · exact p1.elim
/-! ### is None -/
def isNW (a b : W) (st : Store) : Res W := match b with
  | .non => match a with
    | .non => .ok (.bl true) st
    | .gl _ => .stuck
    | _ => .ok (.bl false) st
  | _ => .stuck
def isNotNW (a b : W) (st : Store) : Res W := match b with
  | .non => match a with
    | .non => .ok (.bl false) st
    | .gl _ => .stuck
    | _ => .ok (.bl true) st
  | _ => .stuck
theorem notNon {ρ : List Addr} {H : Hp} {a : W} {x : V} (r : VR X.K ρ H a x) (h : a ≠ .non) (h2 : ∀ u, a ≠ .gl u) : x ≠ .non := by
  cases a with
  | non => exact absurd rfl h
  | gl u => exact absurd rfl (h2 u)
  | bl b => rw [bl_of r]; intro z; cases z
  | int b => rw [int_of r]; intro z; cases z
  | str b => rw [str_of r]; intro z; cases z
  | tup b => obtain ⟨_, _, rfl, _⟩ := tup_of r; intro z; cases z
  | fro b => obtain ⟨_, _, rfl, _⟩ := fro_of r; intro z; cases z
  | loc n => simp only [VR] at r; obtain ⟨_, _, rfl⟩ := r; intro z; cases z
  | rng i j => simp only [VR] at r; obtain ⟨_, rfl, _⟩ := r; intro z; cases z
theorem isN_ok : OpOk X (fun x y H Q => y = .non ∧ Q (.bl (decide (x = .non))) H) isNW := fun Wx ρ H st σ a b x y Q s ra rb p => by
  cases b with
  | non =>
    refine ⟨non_of rb, ?_⟩
    by_cases h : a = .non
    · subst h
      rw [non_of ra]
      exact post_bl s p
    · by_cases h2 : ∃ u, a = .gl u
      · obtain ⟨u, rfl⟩ := h2; exact p.elim
      · rw [decide_eq_false (notNon ra h fun u e => h2 ⟨u, e⟩)]
        cases a with
        | non => exact absurd rfl h
        | gl u => exact p.elim
        | _ => exact post_bl s p
  | _ => exact p.elim
theorem isNotN_ok : OpOk X (fun x y H Q => y = .non ∧ Q (.bl (!decide (x = .non))) H) isNotNW := fun Wx ρ H st σ a b x y Q s ra rb p => by
  cases b with
  | non =>
    refine ⟨non_of rb, ?_⟩
    by_cases h : a = .non
    · subst h
      rw [non_of ra]
      exact post_bl s p
    · by_cases h2 : ∃ u, a = .gl u
      · obtain ⟨u, rfl⟩ := h2; exact p.elim
      · rw [decide_eq_false (notNon ra h fun u e => h2 ⟨u, e⟩)]
        cases a with
        | non => exact absurd rfl h
        | gl u => exact p.elim
        | _ => exact post_bl s p
  | _ => exact p.elim
theorem ie_isN {a : Expr} {b : Expr} {ma mb : D W} (ha : IE X ex Wx a ma) (hb : IE X ex Wx b mb) : IE X ex Wx (.Compare a [.Is] [b] pos) (dOp isNW ma mb) := ie_cmp op_isN isN_ok ha hb (nomark _)
theorem ie_isNotN {a : Expr} {b : Expr} {ma mb : D W} (ha : IE X ex Wx a ma) (hb : IE X ex Wx b mb) : IE X ex Wx (.Compare a [.IsNot] [b] pos) (dOp isNotNW ma mb) := ie_cmp op_notN isNotN_ok ha hb (nomark _)
theorem it_isN {a : Expr} {b : Expr} {ma mb : D W} (ha : IE X ex Wx a ma) (hb : IE X ex Wx b mb) : IT X ex Wx (.Compare a [.Is] [b] pos) (dBool (dOp isNW ma mb)) := it_cmp op_isN isN_ok ha hb (nomark _)
theorem it_isNotN {a : Expr} {b : Expr} {ma mb : D W} (ha : IE X ex Wx a ma) (hb : IE X ex Wx b mb) : IT X ex Wx (.Compare a [.IsNot] [b] pos) (dBool (dOp isNotNW ma mb)) := it_cmp op_notN isNotN_ok ha hb (nomark _)
/-! ### sequences -/
def seqW (st : Store) : W → Option (List W)
  | .tup ws => some ws
  | .fro ws => some ws
  | .loc n => match st[n]? with
    | some (.lst ws) => some ws
    | none => none
  | _ => none
def lstW (st : Store) : W → Option (List W)
  | .fro ws => some ws
  | .loc n => match st[n]? with
    | some (.lst ws) => some ws
    | none => none
  | _ => none
theorem lstW_of {ρ : List Addr} {H : Hp} {st : Store} {a : W} {x : V} {ws : List W} (s : StR X.K ρ H st) (r : VR X.K ρ H a x) (h : lstW st a = some ws) : ∃ q us, x = .ref q ∧ SqL X.K H q us ∧ VRs X.K ρ H ws us := by
  unfold lstW at h
  split at h
  · cases h
    obtain ⟨q, us, rfl, hq, rs⟩ := fro_of r
    exact ⟨q, us, rfl, hq.sq, rs⟩
  · split at h
    · rename_i hk
      cases h
      obtain ⟨q, us, _, rfl, hu, rs⟩ := loc_lst s r hk
      exact ⟨q, us, rfl, .of hu, rs⟩
    · cases h
  · cases h
theorem seqW_of {ρ : List Addr} {H : Hp} {st : Store} {a : W} {x : V} {ws : List W} (s : StR X.K ρ H st) (r : VR X.K ρ H a x) (h : seqW st a = some ws) : ∃ q us, x = .ref q ∧ (SqL X.K H q us ∨ SqT X.K H q us) ∧ VRs X.K ρ H ws us := by
  cases a with
  | tup l =>
    cases h
    obtain ⟨q, us, rfl, hq, rs⟩ := tup_of r
    exact ⟨q, us, rfl, .inr hq.sq, rs⟩
  | fro l =>
    obtain ⟨q, us, e, hq, rs⟩ := lstW_of s r (ws := ws) h
    exact ⟨q, us, e, .inl hq, rs⟩
  | loc n =>
    obtain ⟨q, us, e, hq, rs⟩ := lstW_of s r (ws := ws) h
    exact ⟨q, us, e, .inl hq, rs⟩
  | _ => cases h
/-! ### in, not in -/
def flV : W → Option V
  | .non => some .non
  | .bl b => some (.bl b)
  | .int i => some (.int i)
  | .str x => some (.str x)
  | _ => none
theorem flV_of {ρ : List Addr} {H : Hp} {a : W} {x v : V} (r : VR X.K ρ H a x) (h : flV a = some v) : x = v ∧ flatV x = true := by
  cases a with
  | non => cases h; rw [non_of r]; exact ⟨rfl, rfl⟩
  | bl b => cases h; rw [bl_of r]; exact ⟨rfl, rfl⟩
  | int b => cases h; rw [int_of r]; exact ⟨rfl, rfl⟩
  | str b => cases h; rw [str_of r]; exact ⟨rfl, rfl⟩
  | _ => cases h
theorem allO_map {α β : Type} {f : α → Option β} : ∀ {l : List α} {r : List β}, allO (l.map f) = some r → ∀ {P : β → Prop}, (∀ a b, a ∈ l → f a = some b → P b) → ∀ b ∈ r, P b
  | [], r, h, P, _, b, hb => by simp only [List.map_nil, allO, Option.some.injEq] at h; subst h; cases hb
  | a :: l, r, h, P, hp, b, hb => by
    simp only [List.map_cons] at h
    cases hf : f a with
    | none => rw [hf] at h; simp [allO] at h
    | some c =>
      rw [hf] at h
      simp only [allO] at h
      cases ha : allO (l.map f) with
      | none => rw [ha] at h; cases h
      | some r' =>
        rw [ha] at h; cases h
        rcases List.mem_cons.mp hb with e | hb
        · rw [e]; exact hp a c List.mem_cons_self hf
        · exact allO_map ha (fun a b m => hp a b (List.mem_cons_of_mem _ m)) b hb
theorem flVs_of {ρ : List Addr} {H : Hp} : ∀ {ws : List W} {us vs : List V}, VRs X.K ρ H ws us → allO (ws.map flV) = some vs → us = vs ∧ us.all flatV = true
  | [], us, vs, r, h => by
    simp only [VRs] at r
    simp only [List.map_nil, allO, Option.some.injEq] at h
    subst r; subst h; exact ⟨rfl, rfl⟩
  | w :: ws, us, vs, r, h => by
    simp only [VRs] at r
    obtain ⟨u, us', rfl, rw, rs⟩ := r
    simp only [List.map_cons] at h
    cases hf : flV w with
    | none => rw [hf] at h; simp [allO] at h
    | some v =>
      rw [hf] at h
      simp only [allO] at h
      cases ha : allO (ws.map flV) with
      | none => rw [ha] at h; cases h
      | some r' =>
        rw [ha] at h; cases h
        obtain ⟨e1, f1⟩ := flV_of rw hf
        obtain ⟨e2, f2⟩ := flVs_of rs ha
        exact ⟨by rw [e1, e2], by simp [f1, f2]⟩
def oneSign (x : Str) : Option Nat := if x.cps.size = 1 then x.cps[0]? else none
theorem oneSign_of {x : Str} {c : Nat} (h : oneSign x = some c) : x = ⟨#[c]⟩ := by
  unfold oneSign at h
  split at h
  · rename_i hs
    obtain ⟨cps⟩ := x
    obtain ⟨l⟩ := cps
    match l, hs, h with
    | [d], _, h => simp at h; subst h; rfl
  · cases h
def inB (a b : W) (st : Store) : Option Bool := match b with
  | .str z => match a with
    | .str x => (oneSign x).map fun c => decide (c ∈ z.cps.toList)
    | _ => none
  | b => match seqW st b with
    | some ws => match flV a, allO (ws.map flV) with
      | some v, some vs => some (inV v vs)
      | _, _ => none
    | none => none
def inW (neg : Bool) (a b : W) (st : Store) : Res W := match inB a b st with
  | some k => .ok (.bl (if neg then !k else k)) st
  | none => .stuck
def rInS (neg : Bool) : R2 := fun x y H Q => ∃ (c : Nat) (z : Str), x = .str ⟨#[c]⟩ ∧ y = .str z ∧ Q (.bl (if neg then !decide (c ∈ z.cps.toList) else decide (c ∈ z.cps.toList))) H
theorem in_ok (neg : Bool) : OpOk X (fun x y H Q => rInS neg x y H Q ∨ rIn X.K neg x y H Q) (inW neg) := fun Wx ρ H st σ a b x y Q s ra rb p => by
  unfold inW at p
  cases hk : inB a b st with
  | none => rw [hk] at p; exact p.elim
  | some k =>
    rw [hk] at p
    have q := post_bl s p
    have seqc : (∃ ws v vs, seqW st b = some ws ∧ flV a = some v ∧ allO (ws.map flV) = some vs ∧ k = inV v vs) → rIn X.K neg x y H Q := fun ⟨ws, v, vs, hs, hv, hvs, e⟩ => by
      subst e
      obtain ⟨q1, us, rfl, hq, rs⟩ := seqW_of s rb hs
      obtain ⟨e1, f1⟩ := flV_of ra hv
      obtain ⟨e2, f2⟩ := flVs_of rs hvs
      refine ⟨q1, us, rfl, hq, f1, f2, ?_⟩
      rw [e1, e2]; exact q
    unfold inB at hk
    split at hk
    · rename_i z
      split at hk
      · rename_i x1
        cases ho : oneSign x1 with
        | none => rw [ho] at hk; cases hk
        | some c =>
          rw [ho] at hk
          cases hk
          exact .inl ⟨c, z, by rw [str_of ra, oneSign_of ho], str_of rb, q⟩
      · cases hk
    · split at hk
      · rename_i ws hs
        split at hk
        · rename_i v vs hv hvs
          cases hk
          exact .inr (seqc ⟨ws, v, vs, hs, hv, hvs, rfl⟩)
        · cases hk
      · cases hk
theorem opr_in : OpR X (compareOp .In) (fun x y H Q => rInS false x y H Q ∨ rIn X.K false x y H Q) := OpR.or op_in_sign op_in_seq
theorem opr_notIn : OpR X (compareOp .NotIn) (fun x y H Q => rInS true x y H Q ∨ rIn X.K true x y H Q) := OpR.or op_notIn_sign op_notIn_seq
theorem ie_in {a b : Expr} {ma mb : D W} (ha : IE X ex Wx a ma) (hb : IE X ex Wx b mb) (hm : behindInMarks .In b = false := by with_unfolding_all rfl) : IE X ex Wx (.Compare a [.In] [b] pos) (dOp (inW false) ma mb) := ie_cmp opr_in (in_ok false) ha hb hm
theorem ie_notIn {a b : Expr} {ma mb : D W} (ha : IE X ex Wx a ma) (hb : IE X ex Wx b mb) (hm : behindInMarks .NotIn b = false := by with_unfolding_all rfl) : IE X ex Wx (.Compare a [.NotIn] [b] pos) (dOp (inW true) ma mb) := ie_cmp opr_notIn (in_ok true) ha hb hm
theorem it_in {a b : Expr} {ma mb : D W} (ha : IE X ex Wx a ma) (hb : IE X ex Wx b mb) (hm : behindInMarks .In b = false := by with_unfolding_all rfl) : IT X ex Wx (.Compare a [.In] [b] pos) (dBool (dOp (inW false) ma mb)) := it_cmp opr_in (in_ok false) ha hb hm
theorem it_notIn {a b : Expr} {ma mb : D W} (ha : IE X ex Wx a ma) (hb : IE X ex Wx b mb) (hm : behindInMarks .NotIn b = false := by with_unfolding_all rfl) : IT X ex Wx (.Compare a [.NotIn] [b] pos) (dBool (dOp (inW true) ma mb)) := it_cmp opr_notIn (in_ok true) ha hb hm
/-! ### a[i], a[i:j] -/
def ixW (a b : W) (st : Store) : Res W := match b with
  | .int i => match a with
    | .str z => if z.length ≤ sizeLine then match atI z.cps.toList i with
        | some c => .ok (.str ⟨#[c]⟩) st
        | none => .stuck
      else .stuck
    | a => match seqW st a with
      | some ws => match atI ws i with
        | some w => .ok w st
        | none => .stuck
      | none => .stuck
  | _ => .stuck
theorem VRs.at {K : PySem.W.Frag} {ρ : List Addr} {H : Hp} {ws : List W} {us : List V} {i : Int} {w : W} (r : VRs K ρ H ws us) (h : atI ws i = some w) : ∃ v, atI us i = some v ∧ VR K ρ H w v := by
  unfold atI at h ⊢
  rw [← VRs.length r]
  cases hj : ixN ws.length i with
  | none => rw [hj] at h; cases h
  | some j =>
    rw [hj] at h
    obtain ⟨v, h1, h2⟩ := r.get (i := j) h
    exact ⟨v, h1, h2⟩
theorem ix_ok : OpOk X (rIx X.K) ixW := fun Wx ρ H st σ a b x y Q s ra rb p => by
  unfold ixW at p
  split at p
  · rw [int_of rb]
    split at p
    · rename_i z
      split at p
      · rename_i hz
        split at p
        · rename_i c hc
          exact .inr (.inr ⟨z, _, c, str_of ra, rfl, hz, hc, post_str s p⟩)
        · exact p.elim
      · exact p.elim
    · split at p
      · rename_i ws hs
        split at p
        · rename_i w hw
          obtain ⟨q, us, rfl, hq, rs⟩ := seqW_of s ra hs
          obtain ⟨v, h1, h2⟩ := rs.at hw
          have := p.ok_ s h2
          rcases hq with hq | hq
          · exact .inl ⟨q, us, _, v, rfl, rfl, hq, h1, this⟩
          · exact .inr (.inl ⟨q, us, _, v, rfl, rfl, hq, h1, this⟩)
        · exact p.elim
      · exact p.elim
  · exact p.elim
theorem ie_ix {a b : Expr} {ma mb : D W} (ha : IE X ex Wx a ma) (hb : IE X ex Wx b mb) (hs : PlainIx b := by intro _ _; rfl) : IE X ex Wx (.Subscript a b pos) (dOp ixW ma mb) :=
  PE.of (pe_ix ix_seq ha hb hs) fun σ H Q ⟨ρ, env, st, s, e, p⟩ => RG.bind s e p fun ρ1 H1 st1 a x g1 s1 e1 ra p1 => RG.bind s1 e1 p1 fun ρ2 H2 st2 b y g2 s2 e2 rb p2 =>
    ix_ok Wx ρ2 H2 st2 σ a b x y Q s2 (VR.grow s1.apart g2 a x ra) rb p2
def cutW (ws : List W) (lo hi : Option Int) : List W := (ws.drop (HT.sIx ws.length 0 lo)).take (HT.sIx ws.length ws.length hi - HT.sIx ws.length 0 lo)
def slW (a : W) (lo hi : Option Int) (st : Store) : Res W := match a with
  | .str z => if z.length ≤ sizeLine then .ok (.str (cutS z lo hi)) st else .stuck
  | .tup ws => .ok (.tup (cutW ws lo hi)) st
  | a => match lstW st a with
    | some ws => .ok (.loc st.length) (st ++ [.lst (cutW ws lo hi)])
    | none => .stuck
def dNoPart : D (Option Int) := fun _ st => .ok none st
def dPart (m : D W) : D (Option Int) := fun env st => (m env st).bind fun a st1 => match a with
  | .int i => .ok (some i) st1
  | _ => .stuck
def dSl (m : D W) (lo hi : D (Option Int)) : D W := fun env st => (m env st).bind fun a st1 => (lo env st1).bind fun l st2 => (hi env st2).bind fun h st3 => slW a l h st3
abbrev IO (X : Cx) (ex : Option Exn) (Wx : WX) (e : Option Expr) (m : D (Option Int)) : Prop := PO X e (RG X ex Wx relE m)
theorem PO.of {e : Option Expr} {t t' : TO} (h : PO X e t) (w : ∀ σ H Q, t' σ H Q → t σ H Q) : PO X e t' := ⟨fun pins s σ H Q I q => h.run pins s σ H Q I (w _ _ _ q)⟩
theorem io_none : IO X ex Wx none dNoPart := PO.of po_none fun σ H Q ⟨ρ, env, st, s, e, p⟩ => Post.ok_ p s rfl
theorem io_some {e : Expr} {m : D W} (he : IE X ex Wx e m) : IO X ex Wx (some e) (dPart m) := PO.of (po_some he) fun σ H Q ⟨ρ, env, st, s, e, p⟩ => RG.bind s e p fun ρ1 H1 st1 a x g1 s1 e1 ra p1 => by
  split at p1
  · exact ⟨_, int_of ra, p1.ok_ s1 rfl⟩
  · exact p1.elim
theorem cutV_whole {us : List V} {lo hi : Option Int} (h : HT.sIx us.length 0 lo = 0 ∧ HT.sIx us.length us.length hi = us.length) : cutV us lo hi = us := by
  unfold cutV
  rw [h.1, h.2]; simp
theorem VRs.cut {K : PySem.W.Frag} {ρ : List Addr} {H : Hp} {ws : List W} {us : List V} (r : VRs K ρ H ws us) (lo hi : Option Int) : VRs K ρ H (cutW ws lo hi) (cutV us lo hi) := by
  unfold cutW cutV
  rw [← VRs.length r]
  exact (r.drop _).take _
theorem sl_ok {Wx : WX} {ρ : List Addr} {H : Hp} {st : Store} {σ : L2.St} {a : W} {x : V} {lo hi : Option Int} {Q : VK} (s : StR X.K ρ H st) (ra : VR X.K ρ H a x) (p : Post X.K X.mg Wx (relV X.K) ρ H σ (slW a lo hi st) Q) :
    rSlA X.K x lo hi H Q ∨ (rSlL X.K x lo hi H Q ∨ rSlS x lo hi H Q) := by
  unfold slW at p
  split at p
  · split at p
    · rename_i hz
      exact .inr (.inr ⟨_, str_of ra, hz, post_str s p⟩)
    · exact p.elim
  · obtain ⟨q, us, rfl, hq, rs⟩ := tup_of ra
    refine .inl ⟨q, us, rfl, hq.sq, fun hw => ?_, fun _ => post_tup s (rs.cut lo hi) p⟩
    refine p.ok_ s ?_
    have rc := rs.cut lo hi
    rw [cutV_whole hw] at rc
    simp only [relV, VR]
    exact ⟨q, us, rfl, hq, rc⟩
  · split at p
    · rename_i ws hs
      obtain ⟨q, us, rfl, hq, rs⟩ := lstW_of s ra hs
      exact .inr (.inl ⟨q, us, rfl, hq, post_lst s (rs.cut lo hi) p⟩)
    · exact p.elim
theorem ie_slice {e : Expr} {lo hi : Option Expr} {m : D W} {ml mh : D (Option Int)} {p2 : Pos} (he : IE X ex Wx e m) (hl : IO X ex Wx lo ml) (hh : IO X ex Wx hi mh) : IE X ex Wx (.Subscript e (.Slice lo hi none p2) pos) (dSl m ml mh) :=
  PE.of (pe_slice (SlR.or sl_tupA (SlR.or sl_list sl_str)) he hl hh) fun σ H Q ⟨ρ, env, st, s, e, p⟩ => RG.bind s e p fun ρ1 H1 st1 a x g1 s1 e1 ra p1 => RG.bind (relA := relE) s1 e1 p1 fun ρ2 H2 st2 l l' g2 s2 e2 rl p2 =>
    RG.bind (relA := relE) s2 e2 p2 fun ρ3 H3 st3 h h' g3 s3 e3 rh p3 => by
      have rl' : l = l' := rl
      have rh' : h = h' := rh
      subst rl'; subst rh'
      exact sl_ok s3 (VR.grow s2.apart g3 a x (VR.grow s1.apart g2 a x ra)) p3
end
end
end MP
namespace MP
open PySem PySem.Spec PyProof.Rows L2
open Classical
noncomputable section
section
variable {X : Cx} {ex : Option Exn} {Wx : WX} {pos p : Pos} {k : Nat} {f : Addr} {fd : FuncData} {ps : List Str} {n : Nat} {den : List W → Store → Res W} {x : Str} {e : Expr} {es : List Expr}
theorem vrs1 {K : PySem.W.Frag} {ρ : List Addr} {H : Hp} {a : W} {vs : List V} (r : VRs K ρ H [a] vs) : ∃ x, vs = [x] ∧ VR K ρ H a x := by
  simp only [VRs] at r
  obtain ⟨u, _, rfl, r, rfl⟩ := r
  exact ⟨u, rfl, r⟩
theorem vrs2 {K : PySem.W.Frag} {ρ : List Addr} {H : Hp} {a b : W} {vs : List V} (r : VRs K ρ H [a, b] vs) : ∃ x y, vs = [x, y] ∧ VR K ρ H a x ∧ VR K ρ H b y := by
  simp only [VRs] at r
  obtain ⟨u, _, rfl, r, v, _, rfl, r2, rfl⟩ := r
  exact ⟨u, v, rfl, r, r2⟩
/-! ### len, int, abs, max, min, all, any, sum, list, tuple, divmod -/
def lenW (l : List W) (st : Store) : Res W := match l with
  | [.str z] => if z.length ≤ sizeLine then .ok (.int z.length) st else .stuck
  | [a] => match seqW st a with
    | some ws => .ok (.int ws.length) st
    | none => .stuck
  | _ => .stuck
theorem len_ok : CallOk X (fun xs H Q => ∃ x n, xs = [x] ∧ LenV X.K x H n ∧ Q (.int n) H) lenW := fun Wx ρ H st σ l vs Q s r p => by
  unfold lenW at p
  split at p
  · rename_i z
    obtain ⟨x, rfl, ra⟩ := vrs1 r
    split at p
    · rename_i hz
      rw [str_of ra]
      exact ⟨_, _, rfl, ⟨hz, rfl⟩, post_int s p⟩
    · exact p.elim
  · rename_i a _
    obtain ⟨x, rfl, ra⟩ := vrs1 r
    split at p
    · rename_i ws hs
      obtain ⟨q, us, rfl, hq, rs⟩ := seqW_of s ra hs
      refine ⟨_, ws.length, rfl, ?_, post_int s p⟩
      rcases hq with hq | hq
      · exact .inl ⟨us, hq, VRs.length rs⟩
      · exact .inr ⟨us, hq, VRs.length rs⟩
    · exact p.elim
  · exact p.elim
theorem ie_len {m : D (List W)} (hg : Gl X "len") (hm : X.mg "len" = none) (ha : IA X ex Wx (e :: es) m) (he : starEach (e :: es) X.env = (false, eval e X.env) :: starEach es X.env := by rfl) (hpl : (backTo pos (starEach es X.env)).any (·.1) = false := by rfl) :
    IE X ex Wx (.Call (.Name "len" p) (e :: es) [] pos) (dApp lenW m) := ie_callB call_len len_ok hg hm PySem.boot_len ha (by decide) (by decide) he hpl
def intOfW (l : List W) (st : Store) : Res W := match l with
  | [.int i] => .ok (.int i) st
  | [.bl b] => .ok (.int (if b then 1 else 0)) st
  | _ => .stuck
theorem intOf_ok : CallOk X (fun xs H Q => (∃ i, xs = [.int i] ∧ Q (.int i) H) ∨ ∃ k, xs = [.bl k] ∧ Q (.int (if k then 1 else 0)) H) intOfW := fun Wx ρ H st σ l vs Q s r p => by
  unfold intOfW at p
  split at p
  · obtain ⟨x, rfl, ra⟩ := vrs1 r; rw [int_of ra]; exact .inl ⟨_, rfl, post_int s p⟩
  · obtain ⟨x, rfl, ra⟩ := vrs1 r; rw [bl_of ra]; exact .inr ⟨_, rfl, post_int s p⟩
  · exact p.elim
theorem ie_intOf {m : D (List W)} (hg : Gl X "int") (hm : X.mg "int" = none) (ha : IA X ex Wx (e :: es) m) (he : starEach (e :: es) X.env = (false, eval e X.env) :: starEach es X.env := by rfl) (hpl : (backTo pos (starEach es X.env)).any (·.1) = false := by rfl) :
    IE X ex Wx (.Call (.Name "int" p) (e :: es) [] pos) (dApp intOfW m) := ie_callTy call_int1 intOf_ok hg hm (by decide +kernel) ha (by decide) (by decide) he hpl
def absW (l : List W) (st : Store) : Res W := match l with
  | [.int i] => .ok (.int (if i < 0 then -i else i)) st
  | _ => .stuck
theorem abs_ok : CallOk X (fun xs H Q => ∃ i, xs = [.int i] ∧ Q (.int (if i < 0 then -i else i)) H) absW := fun Wx ρ H st σ l vs Q s r p => by
  unfold absW at p
  split at p
  · obtain ⟨x, rfl, ra⟩ := vrs1 r; rw [int_of ra]; exact ⟨_, rfl, post_int s p⟩
  · exact p.elim
theorem ie_abs {m : D (List W)} (hg : Gl X "abs") (hm : X.mg "abs" = none) (ha : IA X ex Wx (e :: es) m) (he : starEach (e :: es) X.env = (false, eval e X.env) :: starEach es X.env := by rfl) (hpl : (backTo pos (starEach es X.env)).any (·.1) = false := by rfl) :
    IE X ex Wx (.Call (.Name "abs" p) (e :: es) [] pos) (dApp absW m) := ie_callB call_abs abs_ok hg hm (by decide +kernel) ha (by decide) (by decide) he hpl
def maxW (l : List W) (st : Store) : Res W := match l with
  | [.int i, .int j] => .ok (.int (if j > i then j else i)) st
  | _ => .stuck
def minW (l : List W) (st : Store) : Res W := match l with
  | [.int i, .int j] => .ok (.int (if j < i then j else i)) st
  | _ => .stuck
theorem max_ok : CallOk X (fun xs H Q => ∃ i j, xs = [.int i, .int j] ∧ Q (.int (if j > i then j else i)) H) maxW := fun Wx ρ H st σ l vs Q s r p => by
  unfold maxW at p
  split at p
  · obtain ⟨x, y, rfl, ra, rb⟩ := vrs2 r; rw [int_of ra, int_of rb]; exact ⟨_, _, rfl, post_int s p⟩
  · exact p.elim
theorem min_ok : CallOk X (fun xs H Q => ∃ i j, xs = [.int i, .int j] ∧ Q (.int (if j < i then j else i)) H) minW := fun Wx ρ H st σ l vs Q s r p => by
  unfold minW at p
  split at p
  · obtain ⟨x, y, rfl, ra, rb⟩ := vrs2 r; rw [int_of ra, int_of rb]; exact ⟨_, _, rfl, post_int s p⟩
  · exact p.elim
theorem ie_max {m : D (List W)} (hc : X.calm = true) (hg : Gl X "max") (hm : X.mg "max" = none) (ha : IA X ex Wx (e :: es) m) (he : starEach (e :: es) X.env = (false, eval e X.env) :: starEach es X.env := by rfl) (hpl : (backTo pos (starEach es X.env)).any (·.1) = false := by rfl) :
    IE X ex Wx (.Call (.Name "max" p) (e :: es) [] pos) (dApp maxW m) := ie_callB (call_max2 hc) max_ok hg hm (by decide +kernel) ha (by decide) (by decide) he hpl
theorem ie_min {m : D (List W)} (hc : X.calm = true) (hg : Gl X "min") (hm : X.mg "min" = none) (ha : IA X ex Wx (e :: es) m) (he : starEach (e :: es) X.env = (false, eval e X.env) :: starEach es X.env := by rfl) (hpl : (backTo pos (starEach es X.env)).any (·.1) = false := by rfl) :
    IE X ex Wx (.Call (.Name "min" p) (e :: es) [] pos) (dApp minW m) := ie_callB (call_min2 hc) min_ok hg hm (by decide +kernel) ha (by decide) (by decide) he hpl
def blOf : W → Option Bool
  | .bl b => some b
  | _ => none
def inOf : W → Option Int
  | .int i => some i
  | _ => none
def stOf : W → Option Str
  | .str i => some i
  | _ => none
theorem VRs.maps {K : PySem.W.Frag} {ρ : List Addr} {H : Hp} {α : Type} {g : W → Option α} {c : α → V} (hg : ∀ w v a, VR K ρ H w v → g w = some a → v = c a) : ∀ {ws : List W} {us : List V} {l : List α}, VRs K ρ H ws us → allO (ws.map g) = some l → us = l.map c
  | [], us, l, r, h => by
    simp only [VRs] at r
    simp only [List.map_nil, allO, Option.some.injEq] at h
    subst r; subst h; rfl
  | w :: ws, us, l, r, h => by
    simp only [VRs] at r
    obtain ⟨u, us', rfl, rw, rs⟩ := r
    simp only [List.map_cons] at h
    cases hf : g w with
    | none => rw [hf] at h; simp [allO] at h
    | some a =>
      rw [hf] at h
      simp only [allO] at h
      cases ha : allO (ws.map g) with
      | none => rw [ha] at h; cases h
      | some r' =>
        rw [ha] at h; cases h
        rw [hg w u a rw hf, VRs.maps hg rs ha]; rfl
theorem blOf_of {ρ : List Addr} {H : Hp} (w : W) (v : V) (b : Bool) (r : VR X.K ρ H w v) (h : blOf w = some b) : v = .bl b := by
  cases w with
  | bl c => cases h; exact bl_of r
  | _ => cases h
theorem inOf_of {ρ : List Addr} {H : Hp} (w : W) (v : V) (b : Int) (r : VR X.K ρ H w v) (h : inOf w = some b) : v = .int b := by
  cases w with
  | int c => cases h; exact int_of r
  | _ => cases h
theorem stOf_of {ρ : List Addr} {H : Hp} (w : W) (v : V) (b : Str) (r : VR X.K ρ H w v) (h : stOf w = some b) : v = .str b := by
  cases w with
  | str c => cases h; exact str_of r
  | _ => cases h
def bls (st : Store) (a : W) : Option (List Bool) := (lstW st a).bind fun ws => allO (ws.map blOf)
def nums (st : Store) (a : W) : Option (List Int) := (lstW st a).bind fun ws => allO (ws.map inOf)
def allW (l : List W) (st : Store) : Res W := match l with
  | [a] => match bls st a with
    | some bs => .ok (.bl (bs.all id)) st
    | none => .stuck
  | _ => .stuck
def anyW (l : List W) (st : Store) : Res W := match l with
  | [a] => match bls st a with
    | some bs => .ok (.bl (bs.any id)) st
    | none => .stuck
  | _ => .stuck
def sumW (l : List W) (st : Store) : Res W := match l with
  | [a] => match nums st a with
    | some bs => .ok (.int bs.sum) st
    | none => .stuck
  | _ => .stuck
theorem bls_of {ρ : List Addr} {H : Hp} {st : Store} {a : W} {x : V} {bs : List Bool} (s : StR X.K ρ H st) (r : VR X.K ρ H a x) (h : bls st a = some bs) : ∃ q, x = .ref q ∧ SqL X.K H q (bs.map V.bl) := by
  unfold bls at h
  cases hl : lstW st a with
  | none => rw [hl] at h; cases h
  | some ws =>
    rw [hl] at h
    obtain ⟨q, us, rfl, hq, rs⟩ := lstW_of s r hl
    exact ⟨q, rfl, by rw [← VRs.maps blOf_of rs (show allO (ws.map blOf) = some bs from h)]; exact hq⟩
theorem nums_of {ρ : List Addr} {H : Hp} {st : Store} {a : W} {x : V} {bs : List Int} (s : StR X.K ρ H st) (r : VR X.K ρ H a x) (h : nums st a = some bs) : ∃ q, x = .ref q ∧ SqL X.K H q (bs.map V.int) := by
  unfold nums at h
  cases hl : lstW st a with
  | none => rw [hl] at h; cases h
  | some ws =>
    rw [hl] at h
    obtain ⟨q, us, rfl, hq, rs⟩ := lstW_of s r hl
    exact ⟨q, rfl, by rw [← VRs.maps inOf_of rs (show allO (ws.map inOf) = some bs from h)]; exact hq⟩
theorem all_ok : CallOk X (rAll X.K) allW := fun Wx ρ H st σ l vs Q s r q => by
  unfold allW at q
  split at q
  · obtain ⟨x, rfl, ra⟩ := vrs1 r
    split at q
    · rename_i bs hb
      obtain ⟨a, rfl, h⟩ := bls_of s ra hb
      exact ⟨a, bs, rfl, h, post_bl s q⟩
    · exact q.elim
  · exact q.elim
theorem any_ok : CallOk X (rAny X.K) anyW := fun Wx ρ H st σ l vs Q s r q => by
  unfold anyW at q
  split at q
  · obtain ⟨x, rfl, ra⟩ := vrs1 r
    split at q
    · rename_i bs hb
      obtain ⟨a, rfl, h⟩ := bls_of s ra hb
      exact ⟨a, bs, rfl, h, post_bl s q⟩
    · exact q.elim
  · exact q.elim
theorem sum_ok : CallOk X (rSum X.K) sumW := fun Wx ρ H st σ l vs Q s r q => by
  unfold sumW at q
  split at q
  · obtain ⟨x, rfl, ra⟩ := vrs1 r
    split at q
    · rename_i bs hb
      obtain ⟨a, rfl, h⟩ := nums_of s ra hb
      exact ⟨a, bs, rfl, h, post_int s q⟩
    · exact q.elim
  · exact q.elim
theorem ie_all {m : D (List W)} (hc : X.calm = true) (hg : Gl X "all") (hm : X.mg "all" = none) (ha : IA X ex Wx (e :: es) m) (he : starEach (e :: es) X.env = (false, eval e X.env) :: starEach es X.env := by rfl) (hpl : (backTo pos (starEach es X.env)).any (·.1) = false := by rfl) :
    IE X ex Wx (.Call (.Name "all" p) (e :: es) [] pos) (dApp allW m) := ie_callB (cr_all hc) all_ok hg hm (by decide +kernel) ha (by decide) (by decide) he hpl
theorem ie_any {m : D (List W)} (hc : X.calm = true) (hg : Gl X "any") (hm : X.mg "any" = none) (ha : IA X ex Wx (e :: es) m) (he : starEach (e :: es) X.env = (false, eval e X.env) :: starEach es X.env := by rfl) (hpl : (backTo pos (starEach es X.env)).any (·.1) = false := by rfl) :
    IE X ex Wx (.Call (.Name "any" p) (e :: es) [] pos) (dApp anyW m) := ie_callB (cr_any hc) any_ok hg hm (by decide +kernel) ha (by decide) (by decide) he hpl
theorem ie_sum {m : D (List W)} (hc : X.calm = true) (hg : Gl X "sum") (hm : X.mg "sum" = none) (ha : IA X ex Wx (e :: es) m) (he : starEach (e :: es) X.env = (false, eval e X.env) :: starEach es X.env := by rfl) (hpl : (backTo pos (starEach es X.env)).any (·.1) = false := by rfl) :
    IE X ex Wx (.Call (.Name "sum" p) (e :: es) [] pos) (dApp sumW m) := ie_callB (cr_sum hc) sum_ok hg hm (by decide +kernel) ha (by decide) (by decide) he hpl
def listW (l : List W) (st : Store) : Res W := match l with
  | [a] => match seqW st a with
    | some ws => .ok (.loc st.length) (st ++ [.lst ws])
    | none => .stuck
  | _ => .stuck
theorem list_ok : CallOk X (fun xs H Q => ∃ p ys, xs = [.ref p] ∧ (SqL X.K H p ys ∨ SqT X.K H p ys) ∧ ∀ l, H l = none → Q (.ref l) (upd H l (.lst ys))) listW := fun Wx ρ H st σ l vs Q s r q => by
  unfold listW at q
  split at q
  · obtain ⟨x, rfl, ra⟩ := vrs1 r
    split at q
    · rename_i ws hs
      obtain ⟨a, us, rfl, hq, rs⟩ := seqW_of s ra hs
      exact ⟨a, us, rfl, hq, post_lst s rs q⟩
    · exact q.elim
  · exact q.elim
theorem ie_list {m : D (List W)} (hg : Gl X "list") (hm : X.mg "list" = none) (ha : IA X ex Wx (e :: es) m) (he : starEach (e :: es) X.env = (false, eval e X.env) :: starEach es X.env := by rfl) (hpl : (backTo pos (starEach es X.env)).any (·.1) = false := by rfl) :
    IE X ex Wx (.Call (.Name "list" p) (e :: es) [] pos) (dApp listW m) := ie_callTy call_list_of list_ok hg hm (by decide +kernel) ha (by decide) (by decide) he hpl
def tupleW (l : List W) (st : Store) : Res W := match l with
  | [.tup ws] => .ok (.tup ws) st
  | [a] => match lstW st a with
    | some ws => .ok (.tup ws) st
    | none => .stuck
  | _ => .stuck
theorem tuple_ok : CallOk X (fun xs H Q => ∃ p ys, xs = [.ref p] ∧ ((SqL X.K H p ys ∧ ∀ l, H l = none → Q (.ref l) (upd H l (.tup ys))) ∨ (SqT X.K H p ys ∧ Q (.ref p) H))) tupleW := fun Wx ρ H st σ l vs Q s r q => by
  unfold tupleW at q
  split at q
  · obtain ⟨x, rfl, ra⟩ := vrs1 r
    obtain ⟨a, us, rfl, hq, rs⟩ := tup_of ra
    exact ⟨a, us, rfl, .inr ⟨hq.sq, q.ok_ s ra⟩⟩
  · obtain ⟨x, rfl, ra⟩ := vrs1 r
    split at q
    · rename_i ws hs
      obtain ⟨a, us, rfl, hq, rs⟩ := lstW_of s ra hs
      exact ⟨a, us, rfl, .inl ⟨hq, post_tup s rs q⟩⟩
    · exact q.elim
  · exact q.elim
theorem ie_tuple {m : D (List W)} (hg : Gl X "tuple") (hm : X.mg "tuple" = none) (ha : IA X ex Wx (e :: es) m) (he : starEach (e :: es) X.env = (false, eval e X.env) :: starEach es X.env := by rfl) (hpl : (backTo pos (starEach es X.env)).any (·.1) = false := by rfl) :
    IE X ex Wx (.Call (.Name "tuple" p) (e :: es) [] pos) (dApp tupleW m) := ie_callTy call_tuple_of tuple_ok hg hm (by decide +kernel) ha (by decide) (by decide) he hpl
def divmodW (l : List W) (st : Store) : Res W := match l with
  | [.int i, .int j] => if CDiv i j then .ok (.tup [.int (i / j), .int (i % j)]) st else .stuck
  | _ => .stuck
theorem divmod_ok : CallOk X (fun xs H Q => ∃ i j, xs = [.int i, .int j] ∧ CDiv i j ∧ ∀ p, H p = none → Q (.ref p) (upd H p (.tup [.int (i / j), .int (i % j)]))) divmodW := fun Wx ρ H st σ l vs Q s r q => by
  unfold divmodW at q
  split at q
  · obtain ⟨x, y, rfl, ra, rb⟩ := vrs2 r
    rw [int_of ra, int_of rb]
    split at q
    · rename_i hc
      exact ⟨_, _, rfl, hc, post_tup s (.cons' (by simp [VR]) (.one (by simp [VR]))) q⟩
    · exact q.elim
  · exact q.elim
theorem ie_divmod {m : D (List W)} (hg : Gl X "divmod") (hm : X.mg "divmod" = none) (ha : IA X ex Wx (e :: es) m) (he : starEach (e :: es) X.env = (false, eval e X.env) :: starEach es X.env := by rfl) (hpl : (backTo pos (starEach es X.env)).any (·.1) = false := by rfl) :
    IE X ex Wx (.Call (.Name "divmod" p) (e :: es) [] pos) (dApp divmodW m) := ie_callB call_divmod divmod_ok hg hm (by decide +kernel) ha (by decide) (by decide) he hpl
/-! ### isinstance -/
def tyN (st : Store) : W → Option String
  | .non => some "NoneType"
  | .bl _ => some "bool"
  | .int _ => some "int"
  | .str _ => some "str"
  | .tup _ => some "tuple"
  | .fro _ => some "list"
  | .loc n => match st[n]? with
    | some (.lst _) => some "list"
    | none => none
  | .gl _ => none
  | .rng _ _ => none
theorem tyN_of {ρ : List Addr} {H : Hp} {st : Store} {a : W} {x : V} {t : String} (s : StR X.K ρ H st) (r : VR X.K ρ H a x) (h : tyN st a = some t) : TyX X.K H x (.type t) := by
  cases a with
  | non => cases h; rw [non_of r]; exact .base .non
  | bl b => cases h; rw [bl_of r]; exact .base (.bl b)
  | int b => cases h; rw [int_of r]; exact .base (.int b)
  | str b => cases h; rw [str_of r]; exact .base (.str b)
  | gl u => cases h
  | rng i j => cases h
  | tup ws =>
    cases h
    obtain ⟨q, us, rfl, hq, rs⟩ := tup_of r
    rcases hq with hq | ⟨o, its, n, hk, hc, _⟩
    · exact .base (.tup hq)
    · exact .kTuple hk hc
  | fro ws =>
    cases h
    obtain ⟨q, us, rfl, hq, rs⟩ := fro_of r
    rcases hq with ⟨o, hq⟩ | ⟨o, its, n, hk, hc, _⟩
    · exact .base (.frz hq)
    · exact .kList hk hc
  | loc n =>
    unfold tyN at h
    simp only at h
    split at h
    · rename_i ws hk
      cases h
      obtain ⟨q, us, _, rfl, hu, rs⟩ := loc_lst s r hk
      exact .base (.lst hu)
    · cases h
def isiW (l : List W) (st : Store) : Res W := match l with
  | [a, .gl (.ty n)] => match tyN st a with
    | some t => match kitB t n with
      | some b => .ok (.bl b) st
      | none => .stuck
    | none => .stuck
  | _ => .stuck
theorem isi_ok : CallOk X (rIsi X.K) isiW := fun Wx ρ H st σ l vs Q s r q => by
  unfold isiW at q
  split at q
  · rename_i a0 n0
    obtain ⟨x, y, rfl, ra, rb⟩ := vrs2 r
    have rb' : y = .ty n0 := by simpa only [VR] using rb
    subst rb'
    split at q
    · rename_i t ht
      split at q
      · rename_i b hb
        exact ⟨x, _, .type t, .type _, b, rfl, .ty _, tyN_of s ra ht, kit_ty hb, post_bl s q⟩
      · exact q.elim
    · exact q.elim
  · exact q.elim
theorem ie_ty {T : String} {nm : Str} (hg : Gl X nm) (hm : X.mg nm = none) (hv : bootBuiltins nm = some (.type T)) (hn : nm ≠ "__name__" := by decide) (hd : (nm == ("__debug__" : Str)) = false := by decide) : IE X ex Wx (.Name nm pos) (dC (.gl (.ty T))) :=
  ie_c (pe_bltn (v := .ty T) hg hm hv rfl hn hd) fun _ _ => by simp [VR]
theorem ie_isi {m : D (List W)} (hg : Gl X "isinstance") (hm : X.mg "isinstance" = none) (ha : IA X ex Wx (e :: es) m) (he : starEach (e :: es) X.env = (false, eval e X.env) :: starEach es X.env := by rfl) (hpl : (backTo pos (starEach es X.env)).any (·.1) = false := by rfl) :
    IE X ex Wx (.Call (.Name "isinstance" p) (e :: es) [] pos) (dApp isiW m) := ie_callB call_isi isi_ok hg hm (by decide +kernel) ha (by decide) (by decide) he hpl
/-- isinstance(e, (A, B)), two built-in types -/
def isi2W (A B : String) (a : W) (st : Store) : Res W := match tyN st a with
  | some t => match kitB t A, kitB t B with
    | some x, some y => .ok (.bl (x || y)) st
    | _, _ => .stuck
  | none => .stuck
theorem ie_isi2 {m : D W} {A B : String} {na nb : Str} {q1 q2 q3 : Pos} {j : Nat} (hg : Gl X "isinstance") (hm : X.mg "isinstance" = none) (ha : IE X ex Wx e m) (hga : Gl X na) (hma : X.mg na = none) (hva : bootBuiltins na = some (.type A)) (hgb : Gl X nb) (hmb : X.mg nb = none) (hvb : bootBuiltins nb = some (.type B))
    (hna : na ≠ "__name__" := by decide) (hda : (na == ("__debug__" : Str)) = false := by decide) (hnb : nb ≠ "__name__" := by decide) (hdb : (nb == ("__debug__" : Str)) = false := by decide)
    (he : starEach [e, .Tuple [.Name na q1, .Name nb q2] j q3] X.env = (false, eval e X.env) :: starEach [.Tuple [.Name na q1, .Name nb q2] j q3] X.env := by rfl) (hpl : (backTo pos (starEach [.Tuple [.Name na q1, .Name nb q2] j q3] X.env)).any (·.1) = false := by rfl) :
    IE X ex Wx (.Call (.Name "isinstance" p) [e, .Tuple [.Name na q1, .Name nb q2] j q3] [] pos) (dUn (isi2W A B) m) := by
  refine PE.of (pe_callB call_isiT hg hm (by decide +kernel) (pa_cons (es := [.Tuple [.Name na q1, .Name nb q2] j q3]) ha (pa_cons (pe_tup (pa_cons (pe_bltn (v := .ty A) hga hma hva rfl hna hda) (pa_cons (pe_bltn (v := .ty B) hgb hmb hvb rfl hnb hdb) pa_nil))) pa_nil) he) (by decide) (by decide) he hpl) fun σ H Q ⟨ρ, env, st, s, e, q⟩ => RG.bind s e q fun ρ1 H1 st1 a x g1 s1 e1 ra q1 => ?_
  refine ⟨by show 2 ≤ sizeLine; decide, fun t nt => ?_⟩
  have q2 := Post.mono q1 (grow_imm (u := .tup [.ty A, .ty B]) nt)
  have s2 := s1.grow_imm (u := .tup [.ty A, .ty B]) nt
  have r2 := VR.grow s1.apart (grow_imm (u := .tup [.ty A, .ty B]) nt) a x ra
  unfold isi2W at q2
  split at q2
  · rename_i ty hty
    split at q2
    · rename_i x1 y1 hx hy
      refine ⟨x, t, [.ty A, .ty B], .type ty, [.type A, .type B], (x1 || y1), rfl, upd_same, .cons (.ty A) (.cons (.ty B) .nil), tyN_of s2 r2 hty, ?_, post_bl s2 q2⟩
      refine kitAny_cons (kit_ty hx) (fun h => ?_) (fun h => by rw [h]; rfl)
      refine kitAny_cons (kit_ty hy) (fun h2 => ?_) (fun h2 => by rw [h2]; simp)
      rw [h, h2]; exact kitAny_nil
    · exact q2.elim
  · exact q2.elim
/-! ### methods of texts, append -/
def tyS (a : W) (_ : Store) : Bool := match a with
  | .str _ => true
  | _ => false
theorem tyS_ok : TyOk X "str" tyS := fun ρ H st a x s r h => by
  cases a with
  | str z => rw [str_of r]; exact rfl
  | _ => cases h
def tyL (a : W) (st : Store) : Bool := match a with
  | .loc n => (st[n]?).isSome
  | _ => false
theorem tyL_ok : TyOk X "list" tyL := fun ρ H st a x s r h => by
  cases a with
  | loc n =>
    unfold tyL at h
    simp only at h
    cases hk : st[n]? with
    | none => rw [hk] at h; cases h
    | some o =>
      cases o with
      | lst ws =>
        obtain ⟨q, us, _, rfl, hu, rs⟩ := loc_lst s r hk
        exact .inl ⟨rfl, us, .of hu⟩
  | _ => cases h
def strsW (st : Store) (a : W) : Option (List Str) := (seqW st a).bind fun ws => allO (ws.map stOf)
def joinW (a : W) (l : List W) (st : Store) : Res W := match a, l with
  | .str z, [b] => match strsW st b with
    | some ys => if (ys.map (·.length)).sum + ys.length * z.length ≤ 16777216 then .ok (.str (Txt.join z ys)) st else .stuck
    | none => .stuck
  | _, _ => .stuck
theorem join_ok : MtOk X (fun x xs H Q => ∃ a p, ∃ ys : List Str, x = .str a ∧ xs = [.ref p] ∧ (SqL X.K H p (ys.map V.str) ∨ SqT X.K H p (ys.map V.str)) ∧ (ys.map (·.length)).sum + ys.length * a.length ≤ 16777216 ∧ Q (.str (Txt.join a ys)) H) joinW := fun Wx ρ H st σ a l x vs Q s ra rl q => by
  unfold joinW at q
  split at q
  · obtain ⟨y, rfl, rb⟩ := vrs1 rl
    split at q
    · rename_i ys hy
      split at q
      · rename_i hz
        unfold strsW at hy
        cases hs : seqW st _ with
        | none => rw [hs] at hy; cases hy
        | some ws =>
          rw [hs] at hy
          obtain ⟨a1, us, rfl, hq, rs⟩ := seqW_of s rb hs
          have e1 := VRs.maps stOf_of rs (show allO (ws.map stOf) = some ys from hy)
          subst e1
          exact ⟨_, a1, ys, str_of ra, rfl, hq, hz, post_str s q⟩
      · exact q.elim
    · exact q.elim
  · exact q.elim
def stripW (a : W) (l : List W) (st : Store) : Res W := match a, l with
  | .str z, [.str b] => if z.length ≤ sizeLine then .ok (.str (Txt.stripChars z b)) st else .stuck
  | _, _ => .stuck
theorem strip_ok : MtOk X (fun x xs H Q => ∃ a b, x = .str a ∧ xs = [.str b] ∧ a.length ≤ sizeLine ∧ Q (.str (Txt.stripChars a b)) H) stripW := fun Wx ρ H st σ a l x vs Q s ra rl q => by
  unfold stripW at q
  split at q
  · obtain ⟨y, rfl, rb⟩ := vrs1 rl
    rw [str_of ra, str_of rb]
    split at q
    · rename_i hz; exact ⟨_, _, rfl, rfl, hz, post_str s q⟩
    · exact q.elim
  · exact q.elim
def endswithW (a : W) (l : List W) (st : Store) : Res W := match a, l with
  | .str z, [.str b] => .ok (.bl (Txt.endswith z b)) st
  | _, _ => .stuck
theorem endswith_ok : MtOk X (fun x xs H Q => ∃ a b, x = .str a ∧ xs = [.str b] ∧ Q (.bl (Txt.endswith a b)) H) endswithW := fun Wx ρ H st σ a l x vs Q s ra rl q => by
  unfold endswithW at q
  split at q
  · obtain ⟨y, rfl, rb⟩ := vrs1 rl
    rw [str_of ra, str_of rb]
    exact ⟨_, _, rfl, rfl, post_bl s q⟩
  · exact q.elim
def splitW (a : W) (l : List W) (st : Store) : Res W := match a, l with
  | .str z, [.str b] => if (b.length == 0) = false ∧ z.length + 2 ≤ sizeLine then .ok (.loc st.length) (st ++ [.lst ((Txt.split z b).map W.str)]) else .stuck
  | _, _ => .stuck
theorem VRs.ofStrs {K : PySem.W.Frag} {ρ : List Addr} {H : Hp} : ∀ (l : List Str), VRs K ρ H (l.map W.str) (l.map V.str)
  | [] => by simp [VRs]
  | x :: l => .cons' (by simp [VR]) (VRs.ofStrs l)
theorem split_ok : MtOk X (fun x xs H Q => ∃ a b, x = .str a ∧ xs = [.str b] ∧ (b.length == 0) = false ∧ a.length + 2 ≤ sizeLine ∧ rNewStrs (Txt.split a b) H Q) splitW := fun Wx ρ H st σ a l x vs Q s ra rl q => by
  unfold splitW at q
  split at q
  · obtain ⟨y, rfl, rb⟩ := vrs1 rl
    rw [str_of ra, str_of rb]
    split at q
    · rename_i hz
      exact ⟨_, _, rfl, rfl, hz.1, hz.2, post_lst s (VRs.ofStrs _) q⟩
    · exact q.elim
  · exact q.elim
def appendW (a : W) (l : List W) (st : Store) : Res W := match a, l with
  | .loc n, [w] => match st[n]? with
    | some (.lst ws) => if ws.length < sizeLine then .ok .non (st.set n (.lst (ws ++ [w]))) else .stuck
    | none => .stuck
  | _, _ => .stuck
theorem append_ok : MtOk X rAppend appendW := fun Wx ρ H st σ a l x vs Q s ra rl q => by
  unfold appendW at q
  split at q
  · rename_i n w
    obtain ⟨y, rfl, rb⟩ := vrs1 rl
    split at q
    · rename_i ws hk
      split at q
      · rename_i hz
        obtain ⟨a1, us, hn, rfl, hu, rs⟩ := loc_lst s ra hk
        have hm : a1 ∈ ρ := List.mem_of_getElem? hn
        have g : Grow ρ H ρ (upd H a1 (.lst (us ++ [y]))) := grow_write hm
        refine ⟨a1, us, y, rfl, rfl, hu, by rw [← VRs.length rs]; exact hz, ?_⟩
        exact q ρ _ _ g (s.write hn ⟨_, upd_same, (VRs.grow s.apart g ws us rs).append (.one (VR.grow s.apart g w y rb))⟩) (by simp [VR])
      · exact q.elim
    · exact q.elim
  · exact q.elim
/-! ### o[i] = v -/
def setW (o i v : W) (st : Store) : Option Store := match o, i with
  | .loc n, .int k => match st[n]? with
    | some (.lst ws) => match ixN ws.length k with
      | some j => some (st.set n (.lst (ws.set j v)))
      | none => none
    | none => none
  | _, _ => none
def tSub (mo mi : D W) : DT := fun v env st => match mo env st with
  | .ok o st1 => match mi env st1 with
    | .ok i st2 => (setW o i v st2).map fun st3 => (env, st3)
    | _ => none
  | _ => none
theorem ig_sub {vl : List Nat} {o i : Expr} {mo mi : D W} (ho : IE X ex W0 o mo) (hi : IE X ex W0 i mi)
    (ha : ∀ v, assign (.Subscript o i pos) X.env v = (do
      let ov ← holding [v] (eval o X.env)
      let iv ← holding [v, ov] (eval i X.env)
      standAt pos
      holding [v, ov, iv] (setItem ov iv v)
      release [v, ov, iv] []) := by intro _; rfl) : IG X ex vl (.Subscript o i pos) (tSub mo mi) :=
  PG.of (pg_sub ho hi set_list ha) fun v σ H Q ⟨ρ, env, st, w, s, e, rw, env', st', q, pp⟩ => by
    unfold tSub at q
    refine ⟨ρ, env, st, s, e, ?_⟩
    generalize hmo : mo env st = ro at q
    cases ro with
    | stuck => cases q
    | err c w1 st1 => cases q
    | ok ov st1 =>
      intro ρ1 H1 x g1 s1 r1
      refine ⟨ρ1, env, st1, s1, e.grow s.apart g1, ?_⟩
      simp only at q
      generalize hmi : mi env st1 = ri at q
      cases ri with
      | stuck => cases q
      | err c w1 st1 => cases q
      | ok iv st2 =>
        intro ρ2 H2 y g2 s2 r2
        simp only at q
        have r1' := VR.grow s1.apart g2 ov x r1
        have rw' := VR.grow s1.apart g2 w v (VR.grow s.apart g1 w v rw)
        unfold setW at q
        split at q
        · rename_i n k
          split at q
          · rename_i ws hk
            split at q
            · rename_i j hj
              simp only [Option.map_some, Option.some.injEq, Prod.mk.injEq] at q
              obtain ⟨rfl, rfl⟩ := q
              obtain ⟨a1, us, hn, rfl, hu, rs⟩ := loc_lst s2 r1' hk
              rw [int_of r2]
              have hm : a1 ∈ ρ2 := List.mem_of_getElem? hn
              have g3 : Grow ρ2 H2 ρ2 (upd H2 a1 (.lst (us.set j v))) := grow_write hm
              refine ⟨a1, us, k, j, rfl, rfl, hu, by rw [← VRs.length rs]; exact hj, ?_⟩
              exact pp ρ2 _ σ (g1.trans (g2.trans g3)) (s2.write hn ⟨_, upd_same, (VRs.grow s2.apart g3 ws us rs).set (VR.grow s2.apart g3 w v rw') j⟩) (((e.grow s.apart g1).grow s1.apart g2).grow s2.apart g3) rfl
            · cases q
          · cases q
        · cases q
/-! ### calls with keywords alone -/
theorem pe_callKS {sp : Sp} {E : L2.St → XK} {CX : CXT} {kws : List Keyword} {tk : TA} {ks : List Str} (F : FnOk X.prog X.w X.K X.mg X.base CX k f fd ps sp) (hr : Room k X.A) (hg : Gl X x) (hm : X.mg x = some (.ref f)) (hk : PySem.W.keepIn X.K (.ref f) = true)
    (hb : ∀ (s : Shared) (ws : List Value), X.K.In s.heap → ws.length = ps.length → BindsTo s fd ⟨[], ks.zip ws⟩ (ps.zip ws)) (hx : ∀ σ, PassesAt CX X σ (E σ)) (hkw : PK X kws tk)
    (hall : (backToKw pos (keywordEach kws X.env)).all (·.1.isSome) = true := by rfl) (hks : (backToKw pos (keywordEach kws X.env)).filterMap (·.1) = ks := by rfl) (hdb : (x == ("__debug__" : Str)) = false := by decide)
    (hpl : ((backTo pos (starEach [] X.env)).any (·.1) || (backToKw pos (keywordEach kws X.env)).any (·.1.isNone)) = false := by rfl) :
    PE X (.Call (.Name x p) [] kws pos) (tCallS sp E tk) := by
  refine ⟨fun pins s σ H Q I h => ?_⟩
  refine wpAny_Call_Name_kw (ld_glob I hg hm ?_ hdb)
  refine PySem.W.callWith_KW0 (h₀ := X.base) I.ok.mod.kin hk hall (thn (hkw.run pos pins s σ H _ I h) fun ws s1 ⟨zs, H1, I1, rz, q⟩ => ⟨I1.kIn, ?_⟩) hpl
  rw [hks]
  have hl : ws.length = ps.length := by rw [← rz.length]; exact F.len _ _ _ _ q
  refine wpAny_call (codeAny_mono (F.run X.A X.stack s1 H1 ⟨[], ks.zip ws⟩ ws zs Q (E σ) hr I1.env0 (hb s1 ws I1.kIn hl) rz q) fun r s' hq => ?_)
  cases r with
  | error e => exact hx σ pins H1 s1 e s' I1 hq
  | ok fl =>
    cases fl with
    | ret u => exact I1.after hq
    | next => exact False.elim hq
    | brk => exact False.elim hq
    | cont => exact False.elim hq
abbrev IK (X : Cx) (ex : Option Exn) (Wx : WX) (kws : List Keyword) (m : D (List W)) : Prop := PK X kws (RG X ex Wx (relVs X.K) m)
theorem PK.of {kws : List Keyword} {t t' : TA} (h : PK X kws t) (w : ∀ σ H Q, t' σ H Q → t σ H Q) : PK X kws t' := ⟨fun pos pins s σ H Q I q => h.run pos pins s σ H Q I (w _ _ _ q)⟩
theorem ik_nil : IK X ex Wx [] dNil := PK.of pk_nil fun σ H Q ⟨ρ, env, st, s, e, p⟩ => p.ok_ s (by simp [VRs])
theorem ik_cons {nm : Option Str} {kpos : Pos} {kws : List Keyword} {m : D W} {r : D (List W)} (he : IE X ex Wx e m) (hr : IK X ex Wx kws r) : IK X ex Wx (⟨nm, e, kpos⟩ :: kws) (dCons m r) :=
  PK.of (pk_cons he hr) fun σ H Q ⟨ρ, env, st, s, e, p⟩ => RG.bind s e p fun ρ1 H1 st1 a x g1 s1 e1 ra p1 => RG.bind s1 e1 p1 fun ρ2 H2 st2 l xs g2 s2 e2 rb p2 =>
    p2.ok_ s2 (VRs.cons' (VR.grow s1.apart g2 a x ra) rb)
theorem ie_callK {m : D (List W)} {kws : List Keyword} {ks : List Str} (F : FnOk X.prog X.w X.K X.mg X.base (L2.CX X.prog X.w) k f fd ps (SpM X.K X.mg n den)) (hr : Room k X.A) (hg : Gl X x) (hm : X.mg x = some (.ref f)) (hk : PySem.W.keepIn X.K (.ref f) = true)
    (hb : ∀ (s : Shared) (ws : List Value), X.K.In s.heap → ws.length = ps.length → BindsTo s fd ⟨[], ks.zip ws⟩ (ps.zip ws)) (tk : Takes X Wx) (hkw : IK X ex Wx kws m)
    (hall : (backToKw pos (keywordEach kws X.env)).all (·.1.isSome) = true := by rfl) (hks : (backToKw pos (keywordEach kws X.env)).filterMap (·.1) = ks := by rfl) (hdb : (x == ("__debug__" : Str)) = false := by decide)
    (hpl : ((backTo pos (starEach [] X.env)).any (·.1) || (backToKw pos (keywordEach kws X.env)).any (·.1.isNone)) = false := by rfl) :
    IE X ex Wx (.Call (.Name x p) [] kws pos) (dCall n den m) :=
  PE.of (pe_callKS F hr hg hm hk hb (fun σ => passAt tk σ) hkw hall hks hdb hpl) fun σ H Q ⟨ρ, env, st, s, e, p⟩ => RG.bind s e p fun ρ1 H1 st1 l vs g s1 e1 r p1 => by
    split at p1
    · rename_i hl; exact sp_of s1 r hl p1
    · exact p1.elim
end
end
end MP
namespace MP
open PySem PySem.Spec PyProof.Rows L2
open Classical
noncomputable section
/-! ### the text's defs, as a generated text names them -/
structure DefF (K : PySem.W.Frag) (mg : Str → Option Value) (x qual : Str) (st : Stmt) (ps : List Str) where
  f : Addr
  fd : FuncData
  F : Fun K x qual st f fd
  m : mg x = some (.ref f)
  b : Binds K fd ps []
structure FnF (P : Program) (w : World) (K : PySem.W.Frag) (mg : Str → Option Value) (base : Heap) (x : Str) (ps : List Str) (k n : Nat) (den : List W → Store → Res W) where
  f : Addr
  fd : FuncData
  ok : FnOk P w K mg base (L2.CX P w) k f fd ps (SpM K mg n den)
  m : mg x = some (.ref f)
  kp : PySem.W.keepIn K (.ref f) = true
  b : Binds K fd ps []
/-- an error class of the text -/
structure ErF (P : Program) (w : World) (K : PySem.W.Frag) (mg : Str → Option Value) (base : Heap) (x : Str) where
  C : Addr
  f : Addr
  fd : FuncData
  T : ErrC K mg x C f
  ok : FnOk P w K mg base (L2.CX P w) 1 f fd ["self", "value"] (spExc K)
  b : Binds K fd ["self", "value"] []
theorem fn_stuck {P : Program} {w : World} {K : PySem.W.Frag} {mg : Str → Option Value} {base : Heap} {k n : Nat} {f : Addr} {fd : FuncData} {ps : List Str} : FnOk P w K mg base (L2.CX P w) k f fd ps (SpM K mg n fun _ _ => .stuck) :=
  ⟨fun vs H Q E ⟨_, _, _, _, _, _, z⟩ => z.elim, fun A outer s H args us vs Q E hr he hb hv ⟨_, _, _, _, _, _, z⟩ => z.elim⟩
section
variable {X : Cx} {ex : Option Exn} {Wx : WX} {pos p p' pos2 : Pos} {x : Str} {e : Expr} {es : List Expr} {ps : List Str} {k j n : Nat} {den : List W → Store → Res W}
theorem ie_int {i : Int} {q : Nat} : IE X ex Wx (.Constant (.int i) q pos) (dC (.int i)) := ie_c pe_int fun _ _ => by simp [VR]
theorem ie_str {i : Str} {q : Nat} : IE X ex Wx (.Constant (.str i) q pos) (dC (.str i)) := ie_c pe_str fun _ _ => by simp [VR]
theorem ie_bl {i : Bool} {q : Nat} : IE X ex Wx (.Constant (.bool i) q pos) (dC (.bl i)) := ie_c pe_bl fun _ _ => by simp [VR]
theorem ie_non {q : Nat} : IE X ex Wx (.Constant .none q pos) (dC .non) := ie_c pe_non fun _ _ => by simp [VR]
theorem ie_gint {i : Int} {t : Tok} (hm : X.mg x = some (.int i t)) (hg : Gl X x := by rfl) (hd : (x == ("__debug__" : Str)) = false := by decide) : IE X ex Wx (.Name x pos) (dC (.int i)) := ie_c (pe_glob (v := .int i) hg hm ⟨t, rfl⟩ hd) fun _ _ => by simp [VR]
theorem ie_gstr {i : Str} {t : Tok} (hm : X.mg x = some (.str i t)) (hg : Gl X x := by rfl) (hd : (x == ("__debug__" : Str)) = false := by decide) : IE X ex Wx (.Name x pos) (dC (.str i)) := ie_c (pe_glob (v := .str i) hg hm ⟨t, rfl⟩ hd) fun _ _ => by simp [VR]
theorem ie_callF {m : D (List W)} (G : FnF X.prog X.w X.K X.mg X.base x ps j n den) (hr : Room j X.A) (tk : Takes X Wx) (ha : IA X ex Wx (e :: es) m) (hg : Gl X x := by rfl) (hdb : (x == ("__debug__" : Str)) = false := by decide)
    (he : starEach (e :: es) X.env = (false, eval e X.env) :: starEach es X.env := by rfl) (hpl : (backTo pos (starEach es X.env)).any (·.1) = false := by rfl) : IE X ex Wx (.Call (.Name x p) (e :: es) [] pos) (dCall n den m) :=
  ie_call G.ok hr hg G.m G.kp G.b tk ha hdb he hpl
theorem ie_callF0 (G : FnF X.prog X.w X.K X.mg X.base x ps j n den) (hr : Room j X.A) (tk : Takes X Wx) (hg : Gl X x := by rfl) (hdb : (x == ("__debug__" : Str)) = false := by decide) : IE X ex Wx (.Call (.Name x p) [] [] pos) (dCall n den dNil) :=
  ie_call0 G.ok hr hg G.m G.kp G.b tk hdb
theorem ie_callFK {m : D (List W)} {kws : List Keyword} {ks : List Str} (G : FnF X.prog X.w X.K X.mg X.base x ps j n den) (hr : Room j X.A) (tk : Takes X Wx)
    (hb : ∀ (s : Shared) (ws : List Value), X.K.In s.heap → ws.length = ps.length → BindsTo s G.fd ⟨[], ks.zip ws⟩ (ps.zip ws)) (hkw : IK X ex Wx kws m) (hg : Gl X x := by rfl)
    (hall : (backToKw pos (keywordEach kws X.env)).all (·.1.isSome) = true := by rfl) (hks : (backToKw pos (keywordEach kws X.env)).filterMap (·.1) = ks := by rfl) (hdb : (x == ("__debug__" : Str)) = false := by decide)
    (hpl : ((backTo pos (starEach [] X.env)).any (·.1) || (backToKw pos (keywordEach kws X.env)).any (·.1.isNone)) = false := by rfl) : IE X ex Wx (.Call (.Name x p) [] kws pos) (dCall n den m) :=
  ie_callK G.ok hr hg G.m G.kp hb tk hkw hall hks hdb hpl
theorem is_raiseF {m : D (List W)} (G : ErF X.prog X.w X.K X.mg X.base x) (hr : Room 2 X.A) (tk : Takes X Wx) (ha : IA X ex Wx [e] m) (hc : X.calm = true := by rfl) (hg : Gl X x := by rfl) (hdb : (x == ("__debug__" : Str)) = false := by decide)
    (he : starEach [e] X.env = (false, eval e X.env) :: starEach [] X.env := by rfl) (hpl : (backTo pos (starEach [] X.env)).any (·.1) = false := by rfl) : IS X ex Wx (.Raise (some (.Call (.Name x p) [e] [] pos)) none pos2) (sRaise x m) :=
  is_raise hc tk G.T G.ok hr G.b hg ha hdb he hpl
/-! methods, by their names -/
theorem ie_join {o : Expr} {apos cpos : Pos} {mo : D W} {m : D (List W)} (ho : IE X ex Wx o mo) (ha : IA X ex Wx [e] m) (hbase : attributeBase o "join" X.env (eval o X.env) = eval o X.env := by rfl)
    (hfew : ((backTo cpos (starEach [e] X.env)).all (fun x => !x.1) && (backToKw cpos (keywordEach [] X.env)).all (fun x => x.1.isSome) && decide ([e].length + ([] : List Keyword).length + (if ([] : List Keyword).isEmpty then 0 else 1) < 30)) = true := by rfl)
    (hline : (apos.endLine == cpos.line) = true := by rfl) (hs : starEach [e] X.env = (false, eval e X.env) :: starEach [] X.env := by rfl) (hp : (backTo cpos (starEach [] X.env)).any (·.1) = false := by rfl) :
    IE X ex Wx (.Call (.Attribute o "join" apos) [e] [] cpos) (dBm tyS joinW mo m) := ie_bm PySem.F.plainAttrs_str PySem.F.slot_str_join PySem.F.type_str_join mt_join join_ok tyS_ok ho ha hbase hfew hline hs hp
theorem ie_strip {o : Expr} {apos cpos : Pos} {mo : D W} {m : D (List W)} (ho : IE X ex Wx o mo) (ha : IA X ex Wx [e] m) (hbase : attributeBase o "strip" X.env (eval o X.env) = eval o X.env := by rfl)
    (hfew : ((backTo cpos (starEach [e] X.env)).all (fun x => !x.1) && (backToKw cpos (keywordEach [] X.env)).all (fun x => x.1.isSome) && decide ([e].length + ([] : List Keyword).length + (if ([] : List Keyword).isEmpty then 0 else 1) < 30)) = true := by rfl)
    (hline : (apos.endLine == cpos.line) = true := by rfl) (hs : starEach [e] X.env = (false, eval e X.env) :: starEach [] X.env := by rfl) (hp : (backTo cpos (starEach [] X.env)).any (·.1) = false := by rfl) :
    IE X ex Wx (.Call (.Attribute o "strip" apos) [e] [] cpos) (dBm tyS stripW mo m) := ie_bm PySem.F.plainAttrs_str PySem.F.slot_str_strip PySem.F.type_str_strip mt_stripChars strip_ok tyS_ok ho ha hbase hfew hline hs hp
theorem ie_endswith {o : Expr} {apos cpos : Pos} {mo : D W} {m : D (List W)} (ho : IE X ex Wx o mo) (ha : IA X ex Wx [e] m) (hbase : attributeBase o "endswith" X.env (eval o X.env) = eval o X.env := by rfl)
    (hfew : ((backTo cpos (starEach [e] X.env)).all (fun x => !x.1) && (backToKw cpos (keywordEach [] X.env)).all (fun x => x.1.isSome) && decide ([e].length + ([] : List Keyword).length + (if ([] : List Keyword).isEmpty then 0 else 1) < 30)) = true := by rfl)
    (hline : (apos.endLine == cpos.line) = true := by rfl) (hs : starEach [e] X.env = (false, eval e X.env) :: starEach [] X.env := by rfl) (hp : (backTo cpos (starEach [] X.env)).any (·.1) = false := by rfl) :
    IE X ex Wx (.Call (.Attribute o "endswith" apos) [e] [] cpos) (dBm tyS endswithW mo m) := ie_bm PySem.F.plainAttrs_str PySem.F.slot_str_endswith PySem.F.type_str_endswith mt_endswith endswith_ok tyS_ok ho ha hbase hfew hline hs hp
theorem ie_split {o : Expr} {apos cpos : Pos} {mo : D W} {m : D (List W)} (ho : IE X ex Wx o mo) (ha : IA X ex Wx [e] m) (hbase : attributeBase o "split" X.env (eval o X.env) = eval o X.env := by rfl)
    (hfew : ((backTo cpos (starEach [e] X.env)).all (fun x => !x.1) && (backToKw cpos (keywordEach [] X.env)).all (fun x => x.1.isSome) && decide ([e].length + ([] : List Keyword).length + (if ([] : List Keyword).isEmpty then 0 else 1) < 30)) = true := by rfl)
    (hline : (apos.endLine == cpos.line) = true := by rfl) (hs : starEach [e] X.env = (false, eval e X.env) :: starEach [] X.env := by rfl) (hp : (backTo cpos (starEach [] X.env)).any (·.1) = false := by rfl) :
    IE X ex Wx (.Call (.Attribute o "split" apos) [e] [] cpos) (dBm tyS splitW mo m) := ie_bm PySem.F.plainAttrs_str PySem.F.slot_str_split PySem.F.type_str_split mt_split split_ok tyS_ok ho ha hbase hfew hline hs hp
theorem ie_append {o : Expr} {apos cpos : Pos} {mo : D W} {m : D (List W)} (ho : IE X ex Wx o mo) (ha : IA X ex Wx [e] m) (hbase : attributeBase o "append" X.env (eval o X.env) = eval o X.env := by rfl)
    (hfew : ((backTo cpos (starEach [e] X.env)).all (fun x => !x.1) && (backToKw cpos (keywordEach [] X.env)).all (fun x => x.1.isSome) && decide ([e].length + ([] : List Keyword).length + (if ([] : List Keyword).isEmpty then 0 else 1) < 30)) = true := by rfl)
    (hline : (apos.endLine == cpos.line) = true := by rfl) (hs : starEach [e] X.env = (false, eval e X.env) :: starEach [] X.env := by rfl) (hp : (backTo cpos (starEach [] X.env)).any (·.1) = false := by rfl) :
    IE X ex Wx (.Call (.Attribute o "append" apos) [e] [] cpos) (dBm tyL appendW mo m) := ie_bm PySem.F.plainAttrs_list PySem.F.slot_list_append PySem.F.type_list_append mt_append append_ok tyL_ok ho ha hbase hfew hline hs hp
/-! xs[::-1] of a list -/
def revW (a : W) (st : Store) : Res W := match lstW st a with
  | some ws => .ok (.loc st.length) (st ++ [.lst ws.reverse])
  | none => .stuck
theorem ie_rev {m : D W} {kk : Nat} {p1 p2 p3 : Pos} (he : IE X ex Wx e m) : IE X ex Wx (.Subscript e (.Slice none none (some (.UnaryOp .USub (.Constant (.int 1) kk p1) p2)) p3) pos) (dUn revW m) :=
  PE.of (pe_revL he) fun σ H Q ⟨ρ, env, st, s, e, q⟩ => RG.bind s e q fun ρ1 H1 st1 a x g1 s1 e1 ra q1 => by
    unfold revW at q1
    split at q1
    · rename_i ws hs
      obtain ⟨q2, us, rfl, hq, rs⟩ := lstW_of s1 ra hs
      exact ⟨q2, us, rfl, hq, post_lst s1 rs.reverse q1⟩
    · exact q1.elim
/-! isinstance of the error that a suite holds -/
/-- what is asked of an error's class for that -/
structure ExcI (K : PySem.W.Frag) (C : Addr) : Prop where
  hc : (PySem.W.clsIn K C).isSome = true
  ha : PySem.W.findIn K (.ref C) "__class__" = some (some (.builtin "object.__class__"))
  hn : PySem.W.specialIn K (.builtin "object.__class__") "__get__" = some (some (.builtin "getset_descriptor.__get__"))
  ht : PySem.W.takesIn K (.builtin "object.__class__") = some true
  hm : PySem.W.mroIn K C (.type "object") = some true
theorem call_isExc {X : Cx} {a C dd : Addr} {oe : Obj} {pn : List (Addr × Obj)} {cv : Value} {b : Bool} (T : ExcI X.K C) (xf : XfC X.K C) (hz : Zc (.ref C) (some dd) oe) (hf : ∃ vs, oe.data = .fields vs) (hk : PySem.W.kitOne X.K (.ref C) cv = some b) :
    CallR (X.suite a ((a, oe) :: pn)) (.builtin "isinstance") (fun xs H Q => ∃ (c : V) (o : List (Str × V)), xs = [.ref a, c] ∧ (∀ u, RelV c u → u = cv) ∧ H dd = some (.xd o) ∧ Q (.bl b) H) := by
  intro pins s σ H xs us Q I r h
  obtain ⟨c, o, rfl, hcv, hdd, q⟩ := h
  obtain ⟨u1, u2, rfl, rx, rt⟩ := vals2 r
  cases rx
  have ec := hcv _ rt
  subst ec
  obtain ⟨hget, _⟩ := I.pin (a, oe) (List.mem_append.mpr (.inl List.mem_cons_self))
  obtain ⟨vs, hv⟩ := hf
  obtain ⟨mA, ⟨od, es, ep, hod, _⟩, _⟩ := I.hok dd _ hdd
  have J : PySem.W.InstAt s.heap a oe C (some od) := by
    obtain ⟨oc, odd, oda, osl⟩ := oe
    obtain ⟨h1, h2⟩ := hz
    dsimp only at h1 h2 hv
    subst h1 h2 hv
    exact ⟨hget, rfl, rfl, hod⟩
  exact PySem.W.kia_one (PySem.W.kitx_exc T.hc xf.ga xf.gg xf.exC T.ha T.hn T.ht T.hm) I.kIn J hk (fun z => nomatch z) fun tk => ⟨.bl b, H, I.kept (t' := tk) fun _ _ z => z, rfl, q⟩
def dIsExc (l : List (Str × Bool)) (c : Str) : D W := fun _ st => match l.lookup c with
  | some b => .ok (.bl b) st
  | none => .stuck
theorem lookup_ok {cv : Value} : ∀ {l : List (Str × Bool)}, (∀ q ∈ l, ∃ C, X.mg q.1 = some (.ref C) ∧ ExcI X.K C ∧ PySem.W.kitOne X.K (.ref C) cv = some q.2) → ∀ {c : Str} {b : Bool} {C : Addr}, l.lookup c = some b → X.mg c = some (.ref C) → ExcI X.K C ∧ PySem.W.kitOne X.K (.ref C) cv = some b
  | [], _, c, b, C, h, _ => by simp at h
  | (x, v) :: l, hl, c, b, C, h, hC => by
    rw [List.lookup_cons] at h
    split at h
    · rename_i hc
      cases h
      have : c = x := by simpa using hc
      subst this
      obtain ⟨C', m, e⟩ := hl _ List.mem_cons_self
      have m' : X.mg c = some (.ref C') := m
      rw [hC] at m'; cases m'
      exact e
    · exact lookup_ok (fun q m => hl q (List.mem_cons_of_mem _ m)) h hC
theorem ie_isExc {l : List (Str × Bool)} {a C dd : Addr} {y : V} {w : W} {i : Nat} {oe : Obj} {pn : List (Addr × Obj)} {n cn cN : Str} {q1 q2 : Pos} {cv : Value} {v : V} {sub : Str → Option Bool} (hg : Gl X "isinstance") (hm : X.mg "isinstance" = none) (xf : XfC X.K C)
    (hl : ∀ q ∈ l, ∃ C, X.mg q.1 = some (.ref C) ∧ ExcI X.K C ∧ PySem.W.kitOne X.K (.ref C) cv = some q.2) (hmN : X.mg cN = some (.ref C)) (hsN : sub cN = some true) (hz : Zc (.ref C) (some dd) oe) (hf : ∃ vs, oe.data = .fields vs)
    (hN : X.N[i]? = some n) (hv : Vis X.env.scope n) (ht : PE (X.suite a ((a, oe) :: pn)) (.Name cn q2) (tC v)) (hcv : ∀ u, RelV v u → u = cv) (hd : (n == ("__debug__" : Str)) = false := by decide) (hcd : (n == ("__classdict__" : Str)) = false := by decide)
    (he : starEach [.Name n q1, .Name cn q2] X.env = (false, eval (.Name n q1) X.env) :: starEach [.Name cn q2] X.env := by rfl) (he2 : starEach [.Name cn q2] X.env = (false, eval (.Name cn q2) X.env) :: starEach [] X.env := by rfl) (hpl : (backTo pos (starEach [.Name cn q2] X.env)).any (·.1) = false := by rfl) :
    IE (X.suite a ((a, oe) :: pn)) (some ⟨i, a, dd, y, w⟩) Wx (.Call (.Name "isinstance" p) [.Name n q1, .Name cn q2] [] pos) (dIsExc l cN) := by
  cases hlk : l.lookup cN with
  | none =>
    refine ⟨fun pins s σ H Q I h => ?_⟩
    obtain ⟨ρ, env, st, s1, e, q⟩ := h
    unfold dIsExc at q
    rw [hlk] at q
    exact q.elim
  | some b =>
    obtain ⟨T, hk⟩ := lookup_ok hl hlk hmN
    refine PE.of (pe_callB (call_isExc T xf hz hf hk) hg hm (by decide +kernel) (pa_cons (es := [.Name cn q2]) (pe_var (i := i) hN hv hd hcd) (pa_cons ht pa_nil he2) he) (by decide) (by decide) he hpl) fun σ H Q ⟨ρ, env, st, s, e, q⟩ => ?_
    obtain ⟨h1, h2, h3, h4⟩ := e.exc _ rfl
    unfold dIsExc at q
    rw [hlk] at q
    exact ⟨.ref a, h1, v, _, rfl, hcv, h2, post_bl (X := X) s q⟩
/-! which errors a clause takes, by a list -/
def subL (l : List (Str × Bool)) : Str → Option Bool := fun c => l.lookup c
theorem subL_ok {cv : Value} : ∀ {l : List (Str × Bool)}, (∀ q ∈ l, ∃ C, X.mg q.1 = some (.ref C) ∧ PySem.W.exmOne X.K (.ref C) cv = some q.2 ∧ XfC X.K C ∧ PySem.W.findIn X.K (.ref C) ("value" : Str) = some none) → SubOk X cv (subL l)
  | [], _, c, b, h => by simp [subL] at h
  | (x, v) :: l, hl, c, b, h => by
    unfold subL at h
    rw [List.lookup_cons] at h
    split at h
    · rename_i hc
      cases h
      intro C hC
      have : c = x := by simpa using hc
      subst this
      obtain ⟨C', m, e, xf, nv⟩ := hl _ List.mem_cons_self
      have m' : X.mg c = some (.ref C') := m
      rw [hC] at m'; cases m'
      exact ⟨e, fun _ => ⟨xf, nv⟩⟩
    · exact subL_ok (fun q m => hl q (List.mem_cons_of_mem _ m)) c b h
/-! name op= e -/
def sAug (i : Nat) (f : W → W → Store → Res W) (m : D W) : DS := fun env st => match env[i]? with
  | some (some a) => (m env st).then env fun b st1 => (f a b st1).then env fun c st2 => .go .nx (env.set i (some c)) st2
  | _ => .stuck
def addI (a b : W) (st : Store) : Res W := match a, b with
  | .int i, .int j => .ok (.int (i + j)) st
  | _, _ => .stuck
theorem is_augAdd {i : Nat} {e : Expr} {m : D W} (hN : X.N.Nodup) (hi : X.N[i]? = some x) (hx : Loc X.env.scope x) (he : IE X none Wx e m) (hf : X.fn x = true ∨ X.env.scope.names.lookup x = some .local := by first | exact .inl rfl | exact .inr rfl | assumption) :
    IS X none Wx (.AugAssign (.Name x p') .Add e pos) (sAug i addI m) :=
  PS.of (ps_aug hN hi hx he ip_add hf) fun De σ H ⟨ρ, env, st, s, en, q⟩ => by
    unfold sAug at q
    split at q
    · rename_i a ha
      obtain ⟨v, h1, h2⟩ := en.at_ i a ha
      refine ⟨v, h1, RS.step (rel := relV X.K) s en q fun ρ1 H1 st1 b y g s1 e1 r q1 => ?_⟩
      have h3 := VR.grow s.apart g a v h2
      unfold addI at q1
      split at q1
      · rw [int_of h3, int_of r]
        exact ⟨_, _, rfl, rfl, PostS.go_ (f := .nx) q1 s1 (e1.set .none (by simp [VR]))⟩
      · exact q1.elim
    · exact q.elim
end
/-! ### classes, from what the head finds -/
theorem cls_some {K : PySem.W.Frag} {C : Addr} (h : PySem.W.hasDictIn K C = true) : (PySem.W.clsIn K C).isSome = true := by
  obtain ⟨cd, hc, _⟩ := PySem.W.any_some h
  rw [hc]; rfl
theorem kit_ref {K : PySem.W.Frag} {C D : Addr} {b : Bool} (hd : PySem.W.hasDictIn K C = true) (ht : PySem.W.typeIn K (.ref C) = some (.type "type")) (hs : PySem.W.subIn K (.ref C) (.ref C) = some true) (h : PySem.W.subIn K (.ref D) (.ref C) = some b) : PySem.W.kitOne K (.ref D) (.ref C) = some b := by
  have e2 : ((PySem.W.clsIn K C).isSome && PySem.W.typeIn K (.ref C) == some (.type "type")) = true := by rw [cls_some hd, ht]; rfl
  show (if (Value.ref D == Value.ref C) = true then some true else if ((PySem.W.clsIn K C).isSome && PySem.W.typeIn K (.ref C) == some (.type "type")) = true then PySem.W.subIn K (.ref D) (.ref C) else none) = some b
  rw [if_pos e2]
  by_cases e : (Value.ref D == Value.ref C) = true
  · rw [if_pos e]
    have e' : D = C := Value.ref.inj (beq_iff_eq.mp e)
    subst e'
    rw [hs] at h
    exact h
  · rw [if_neg e]; exact h
theorem kit_type {K : PySem.W.Frag} {D : Addr} {T : String} {b : Bool} (hm : PySem.W.kitMeta T = true) (h : PySem.W.subIn K (.ref D) (.type T) = some b) : PySem.W.kitOne K (.ref D) (.type T) = some b := by
  show (if (Value.ref D == Value.type T) = true then some true else if PySem.W.kitMeta T = true then PySem.W.subIn K (.ref D) (.type T) else none) = some b
  rw [if_neg (by intro z; cases z), if_pos hm]
  exact h
/-! ### what holds of each entry of a written list -/
def allP {α : Type} (p : α → Prop) : List α → Prop
  | [] => True
  | a :: l => p a ∧ allP p l
theorem mem_all {α : Type} {p : α → Prop} : ∀ {l : List α}, allP p l → ∀ q ∈ l, p q
  | [], _, _, h => nomatch h
  | a :: l, h, q, m => by
    rcases List.mem_cons.mp m with rfl | m
    · exact h.1
    · exact mem_all h.2 q m
/-! ### the law's own end -/
/-- what the law promises at the head -/
def spLaw (K : PySem.W.Frag) : Sp := fun vs H Q _ => ∃ (a : Addr) (ns : List Int), vs = [.ref a] ∧ Only H ∧ SqL K H a (ns.map V.int) ∧ ns.length ≤ 63 ∧ (∀ z ∈ ns, Builtin.Int.intBits z ≤ 1048576) ∧ ∀ H', Q (.bl true) H'
theorem VRs.ofInts {K : PySem.W.Frag} {ρ : List Addr} {H : Hp} : ∀ (l : List Int), VRs K ρ H (l.map W.int) (l.map V.int)
  | [] => by simp [VRs]
  | x :: l => .cons' (by simp [VR]) (VRs.ofInts l)
theorem law_end {P : Program} {w : World} {K : PySem.W.Frag} {mg : Str → Option Value} {base : Heap} {k : Nat} {x s : Str} {den : List W → Store → Res W} (G : FnF P w K mg base x [s] k 1 den)
    (h : ∀ ns : List Int, ns.length ≤ 63 → (∀ z ∈ ns, Builtin.Int.intBits z ≤ 1048576) → den [.fro (ns.map W.int)] [] = .ok (.bl true) []) :
    FnOk P w K mg base (L2.CX P w) k G.f G.fd [s] (spLaw K) := by
  refine ⟨fun vs H Q E hs => ?_, fun A outer st H args us vs Q E hr e0 hb r hs => ?_⟩
  · obtain ⟨a, ns, rfl, _⟩ := hs; rfl
  · obtain ⟨a, ns, rfl, hO, hS, hl, hbits, q⟩ := hs
    refine G.ok.run A outer st H args us [.ref a] Q E hr e0 hb r ?_
    have hf : SqF K H a (ns.map V.int) := by
      rcases hS with (hS | ⟨o, hS⟩) | hS
      · rcases hO a with z | ⟨o, xs, z⟩
        · rw [z] at hS; cases hS
        · rw [z] at hS; cases hS
      · exact .inl ⟨o, hS⟩
      · exact .inr hS
    refine ⟨[], [.fro (ns.map W.int)], [], ⟨rfl, List.nodup_nil, fun n o e => by simp at e⟩, ?_, rfl, ?_⟩
    · refine .one ?_
      simp only [VR]
      exact ⟨a, _, rfl, hf, VRs.ofInts ns⟩
    · rw [h ns hl hbits]
      intro ρ' H' v g s' rv
      have : v = .bl true := by simpa only [relV, VR] using rv
      subst this
      exact q H'
end
end MP
namespace MP
open PySem PySem.Spec PyProof.Rows L2
/-! ### try with several clauses 'except X as n' -/
/-- a clause: its class, its name's slot, its suite -/
structure Cl where
  c : Value
  i : Nat
  ts : Addr → Value → Option Addr → TS
def wEach (K : PySem.W.Frag) (Wout : WX) (De : Ends) (l : List Cl) : WX := l.foldr (fun h r => wAs K h.c h.i h.ts r De) Wout
/-- the clauses as they stand in the text -/
inductive ClsOk (X : Cx) : List ExceptHandler → List Cl → Prop
  | nil : ClsOk X [] []
  | as_ {x n : Str} {h : Cl} {b₀ : Stmt} {suite : List Stmt} {np hp : Pos} {hds : List ExceptHandler} {l : List Cl} (hi : X.N[h.i]? = some n) (hln : X.env.kindOf n = some .local) (hc : Names X x h.c)
      (hsu : ∀ (a : Addr) (oe : Obj) (cls : Value) (d : Option Addr) (pn : List (Addr × Obj)), Zc cls d oe → (∃ vs, oe.data = .fields vs) → PSs (X.suite a ((a, oe) :: pn)) (b₀ :: suite) (h.ts a cls d)) (r : ClsOk X hds l) :
      ClsOk X (.ExceptHandler (some (.Name x np)) (some n) (b₀ :: suite) hp :: hds) (h :: l)
section
variable {X : Cx} {body : List Stmt} {h₀ : ExceptHandler} {hds : List ExceptHandler} {l : List Cl} {pos : Pos} {tb : WX → TS} {Wout : WX}
theorem ps_try_each (hs : X.stack = X.env :: X.outer) (hf : X.env.frame = some X.env.locals) (hN : X.N.Nodup) (tk : Takes X Wout)
    (hb : ∀ (V : WX) (pn : List (Addr × Obj)) (xe : Value → Shared → Prop), Takes (X.tr pn xe) V → PassesOwn (model X.prog X.w) X.A X.env xe → PSs (X.tr pn xe) body (tb V))
    (hh : ClsOk X (h₀ :: hds) l) : PS X (.Try body (h₀ :: hds) [] [] pos) (fun De σ H => tb (wEach X.K Wout De l) De σ H) := by
  refine ⟨fun pins s σ H De I h => ?_⟩
  have ok := I.ok
  refine wpAny_Try_except (wpAny_mono ((hb (wEach X.K Wout De l) (X.pn ++ pins) _ (fun u s' xx => ?_) PassesOwn.looking).run [] s σ H De (I.toTry _) h) (fun f s1 q => ?_) (fun e s1 he => he))
  · obtain ⟨a, B, sI, pins', σ', H', cls, d, rfl, J', nb, up, sky, na, os, ag, w⟩ := xx
    have J : Inv X pins σ' H' sI := J'.ofTry ok
    refine Sky.land Zc.steady (by rw [ok.frames, hs]) hf (by rw [← hs]; exact sky) fun h3 fl3 up3 => ?_
    have J3 : Inv X pins σ' H' { s' with heap := h3 } := J.landed nb fl3.1 (up.trans up3) os ag
    obtain ⟨oe3, vs3, he3, hz3, hd3⟩ := fl3.there
    have apart : a ∉ frs (X.env :: X.outer) := fun m => by
      obtain ⟨_, o', e', hnf⟩ := fl3.2.2.1.mem m
      rw [he3] at e'; cases e'
      exact hnf _ hd3
    have nL : a ≠ X.env.locals := fun z => apart (List.mem_filterMap.mpr ⟨X.env, List.mem_cons_self, by rw [hf, z]⟩)
    have nF : a ∉ X.fs := fun m => by
      obtain ⟨e, he, q⟩ := List.mem_filterMap.mp m
      exact apart (List.mem_filterMap.mpr ⟨e, List.mem_cons_of_mem _ he, q⟩)
    have S3 := J3.suite he3 hd3 na nL nF
    suffices go : ∀ (hds' : List ExceptHandler) (l' : List Cl), ClsOk X hds' l' → wEach X.K Wout De l' cls d σ' H' →
        wpAny (model X.prog X.w) X.A (handleBy (.ref a) X.env hds') (SP X pins De) X.xe { s' with heap := h3 } from go _ _ hh w
    intro hds' l' hk
    induction hk with
    | nil =>
      intro w
      obtain ⟨_, _, _, oe, vs, T, oT, ts', he, hz, hd, h1, hr⟩ := id fl3
      refine wpAny_handleBy_nil ?_
      unfold PySem.passOn
      refine wpAny_bind (wpAny_field he hd h1 ?_)
      have nn : ¬ ((Value.ref T == Value.none) = true) := by simp
      rw [if_neg nn]
      have out : wpAny (model X.prog X.w) X.A (setFlight (.ref a) X.env.frame) (fun _ s4 => wpAny (model X.prog X.w) X.A (throw (.ref a) : Sem Flow) (SP X pins De) X.xe s4) X.xe { s' with heap := h3 } := by
        rw [hf]
        exact HandSPX.setFlight_upZ fl3 fun h4 hh4 up4 => wpAny_throw (tk _ _ ⟨a, B, sI, pins, σ', H', cls, d, rfl, J, nb, (up.trans up3).trans up4, .inr (.inr (by rw [hs]; exact hh4)), na, os, ag, w⟩)
      first
        | exact wpAny_bind (wpAny_pure (wpAny_bind out))
        | exact wpAny_bind out
    | @as_ x n c1 b₀ suite np hp hds2 l2 hi hln hc hsu r ih =>
      intro w
      obtain ⟨b, hb1, hyes, hno⟩ := w
      refine wpAny_handleBy_cons (codeAny_handlers_test ?_) (by intro q; cases q)
      have LT : PySem.W.Looks (model X.prog X.w) h3 (typeOf (.ref a)) cls := fun A Q E s k q => wpAny_typeOf_ref (k _ _ he3) (by rw [hz3.1]; exact q)
      have LM := PySem.W.exm_one (M := model X.prog X.w) (J3.kIn) LT hb1
      have named : ∀ {Q E : Value → Shared → Prop}, Q c1.c { s' with heap := h3 } → wpAny (model X.prog X.w) (X.A.mark (some (.ref a))) (eval (.Name x np) X.env) Q E { s' with heap := h3 } := fun {Q E} q => by
        obtain ⟨hg, hdbg, hm | ⟨hm, hv, hnn⟩⟩ := hc
        · exact ld_glob (X := X.suite a ((a, oe3) :: (X.pn ++ pins))) S3 hg hm q hdbg
        · exact ld_blt (X := X.suite a ((a, oe3) :: (X.pn ++ pins))) S3 hg hm hv q hnn hdbg
      refine named (LM.here ?_)
      cases b with
      | false => exact ih (hno rfl)
      | true =>
        refine codeAny_handlers_suite_as (HandSPX.lands_againZ fl3 fun h4 fl4 up4 => ?_)
        have J4 : Inv X pins σ' H' { s' with heap := h4 } := J.landed nb fl4.1 ((up.trans up3).trans up4) os ag
        obtain ⟨oe4, vs4, he4, hz4, hd4⟩ := fl4.there
        have S4 := J4.suite he4 hd4 na nL nF
        refine store_ok (X := X.suite a ((a, oe4) :: (X.pn ++ pins))) (v := .ref a) S4 hN hi (.inl hln) rfl (fun s5 S5 => ?_) (.inr hln)
        refine wpAny_mono ((hsu a oe4 cls d (X.pn ++ pins) hz4 ⟨_, hd4⟩).run [] s5 _ H' _ S5 (hyes rfl a na)) (fun f s6 q => ?_) (fun _ _ z => False.elim z)
        have over : ∀ {σ6 : L2.St} {H6 : Hp} {Q : Shared → Prop}, Inv (X.suite a ((a, oe4) :: (X.pn ++ pins))) [] σ6 H6 s6 → (∀ s7, Inv X pins (σ6.set c1.i none) H6 s7 → Q s7) →
            wpAny (model X.prog X.w) X.A (do bindName X.env n .none; unbindBehindTheSuite X.env n hp) (fun _ s7 => Q s7) X.xe s6 := fun {σ6 H6 Q} S6 hq => gone_ok (S6.unsuite ok) hN hi hln hq
        cases f with
        | next => obtain ⟨σ6, H6, S6, q6⟩ := q; exact over S6 fun s7 J7 => ⟨_, _, J7, q6⟩
        | brk => obtain ⟨σ6, H6, S6, q6⟩ := q; exact over S6 fun s7 J7 => ⟨_, _, J7, q6⟩
        | cont => obtain ⟨σ6, H6, S6, q6⟩ := q; exact over S6 fun s7 J7 => ⟨_, _, J7, q6⟩
        | ret u => obtain ⟨v6, σ6, H6, S6, r6, q6⟩ := q; exact over S6 fun s7 J7 => ⟨_, _, _, J7, r6, q6⟩
  · cases f with
    | next => obtain ⟨σ', H', J', q⟩ := q; exact wpAny_execs_nil ⟨σ', H', J'.ofTry ok, q⟩
    | brk => obtain ⟨σ', H', J', q⟩ := q; exact ⟨σ', H', J'.ofTry ok, q⟩
    | cont => obtain ⟨σ', H', J', q⟩ := q; exact ⟨σ', H', J'.ofTry ok, q⟩
    | ret u => obtain ⟨v, σ', H', J', r, q⟩ := q; exact ⟨v, σ', H', J'.ofTry ok, r, q⟩
end
section
variable {X : Cx} {Wx : WX}
/-- a clause of a denotation: its name's slot, which errors it takes, its suite -/
abbrev ClD := Nat × (Str → Option Bool) × (Str → W → DS)
def eachC : List ClD → Str → W → DS
  | [], c, w, env, st => .err c w env st
  | (i, sub, su) :: r, c, w, env, st => match sub c with
    | some true => if i < env.length then unAt i (su c w (env.set i none) st) else .stuck
    | some false => eachC r c w env st
    | none => .stuck
def kEach (l : List ClD) : RsS → RsS
  | .err c w env st => eachC l c w env st
  | r => r
def sTryEach (b : DS) (l : List ClD) : DS := fun env st => kEach l (b env st)
inductive CDs (X : Cx) : List ExceptHandler → List ClD → Prop
  | nil : CDs X [] []
  | as_ {x n : Str} {c : Value} {i : Nat} {sub : Str → Option Bool} {su : Str → W → DS} {b₀ : Stmt} {suite : List Stmt} {np hp : Pos} {hds : List ExceptHandler} {l : List ClD} (hi : X.N[i]? = some n) (hln : X.env.kindOf n = some .local) (hc : Names X x c)
      (hsub : SubOk X c sub) (hsu : SuOk X i (b₀ :: suite) sub su) (r : CDs X hds l) : CDs X (.ExceptHandler (some (.Name x np)) (some n) (b₀ :: suite) hp :: hds) ((i, sub, su) :: l)
theorem unset_env {ex : Option Exn} {ρ : List Addr} {H : Hp} {env : EnvW} {σ : L2.St} {i : Nat} {v : Option V} (e : EnvR X.K ex ρ H env σ) (hx : ∀ x, ex = some x → False) : EnvR X.K none ρ H (env.set i none) (σ.set i v) :=
  ⟨by simp [e.len], fun j w' h => by
    by_cases hj : i = j
    · subst hj
      rw [List.getElem?_set] at h
      split at h
      · first | cases h | (split at h <;> cases h)
      · rename_i z; exact absurd rfl z
    · rw [List.getElem?_set_ne hj] at h
      obtain ⟨u, h1, h2⟩ := e.at_ j w' h
      exact ⟨u, by rw [List.getElem?_set_ne hj]; exact h1, h2⟩, fun _ h => nomatch h⟩
theorem each_post {hds : List ExceptHandler} {l : List ClD} (hk : CDs X hds l) : ∃ l', ClsOk X hds l' ∧ ∀ (De : Ends) (ρ : List Addr) (H : Hp) (c1 : Str) (w : W) (env1 : EnvW) (st1 : Store) (ρ' : List Addr) (H' : Hp) (σ' : L2.St) (cls : Value) (d : Option Addr),
    PostS X.K none X.mg Wx De ρ H (eachC l c1 w env1 st1) → Grow ρ H ρ' H' → StR X.K ρ' H' st1 → EnvR X.K none ρ' H' env1 σ' → ErR X.K X.mg ρ' H' c1 w cls d → wEach X.K Wx De l' cls d σ' H' := by
  induction hk with
  | nil => exact ⟨[], .nil, fun De ρ H c1 w env1 st1 ρ' H' σ' cls d q g s e er => q ρ' H' σ' cls d g s e er⟩
  | @as_ x n c i sub su b₀ suite np hp hds l hi hln hc hsub hsu r ih =>
    obtain ⟨l', ok, run⟩ := ih
    refine ⟨⟨c, i, fun a cls d De σ H => ∃ (c1 : Str) (C dd : Addr) (y : V) (w : MP.W), (sub c1 = some true ∧ X.mg c1 = some (.ref C) ∧ cls = .ref C ∧ d = some dd ∧ XfC X.K C ∧ PySem.W.findIn X.K (.ref C) ("value" : Str) = some none) ∧ RS X (some ⟨i, a, dd, y, w⟩) W0 (su c1 w) De σ H⟩ :: l', .as_ hi hln hc ?_ ok, ?_⟩
    · intro a oe cls d pn hz hfv
      refine pss_ex fun c1 => pss_ex fun C => pss_ex fun dd => pss_ex fun y => pss_ex fun w => pss_and fun h => ?_
      obtain ⟨hs1, hm1, rfl, rfl, xf, nv⟩ := h
      exact hsu c1 C dd a y w oe pn hs1 hm1 xf nv hz hfv
    · intro De ρ H c1 w env1 st1 ρ' H' σ' cls d q g s' e' er
      obtain ⟨C, dd, y, hm, rfl, rfl, hx, ndd, rw⟩ := id er
      unfold eachC at q
      cases hsb : sub c1 with
      | none => rw [hsb] at q; exact q.elim
      | some bb =>
        rw [hsb] at q
        obtain ⟨hb1, hb2⟩ := hsub c1 bb hsb C hm
        refine ⟨bb, hb1, fun hbt a na => ?_, fun hbf => ?_⟩
        · subst hbt
          simp only at q
          obtain ⟨xf, nv⟩ := hb2 rfl
          by_cases hil0 : i < env1.length
          case neg => rw [if_neg hil0] at q; exact q.elim
          rw [if_pos hil0] at q
          have e2 := unset_env (X := X) (i := i) (v := some (V.ref a)) e' (fun _ z => nomatch z)
          refine ⟨c1, C, dd, y, w, ⟨hsb, hm, rfl, rfl, xf, nv⟩, ρ', env1.set i none, st1, s', ⟨e2.len, e2.at_, fun x h => ?_⟩, ?_⟩
          · cases h
            refine ⟨?_, hx, ndd, rw⟩
            have hil : i < σ'.length := by rw [e'.len]; exact hil0
            show (σ'.set i (some (V.ref a)))[i]? = _
            rw [List.getElem?_set_self hil]
          · generalize su c1 w (env1.set i none) st1 = r2 at q
            have q := PostS.mono q g
            cases r2 with
            | stuck => exact q
            | err c2 w2 env2 st2 => exact q.elim
            | go f env2 st2 =>
              intro ρ2 H2 σ2 g2 s2 e3
              have e4 : EnvR X.K none ρ2 H2 (env2.set i none) (σ2.set i none) := ⟨by simp [e3.len], fun j w' h => by
                by_cases hj : i = j
                · subst hj
                  rw [List.getElem?_set] at h
                  split at h
                  · first | cases h | (split at h <;> cases h)
                  · rename_i z; exact absurd rfl z
                · rw [List.getElem?_set_ne hj] at h
                  obtain ⟨v, h1, h2⟩ := e3.at_ j w' h
                  exact ⟨v, by rw [List.getElem?_set_ne hj]; exact h1, h2⟩, fun _ h => nomatch h⟩
              have z := q ρ2 H2 (σ2.set i none) g2 s2 e4
              cases f with
              | nx => exact z
              | bk => exact z
              | ct => exact z
              | rt v => exact z
        · subst hbf
          simp only at q
          exact run De ρ H c1 w env1 st1 ρ' H' σ' _ _ q g s' e' er
theorem is_try_each {h₀ : ExceptHandler} {hds : List ExceptHandler} {l : List ClD} {body : List Stmt} {pos : Pos} {b : DS} (hs : X.stack = X.env :: X.outer) (hf : X.env.frame = some X.env.locals) (hN : X.N.Nodup) (tk : Takes X Wx)
    (hb : ∀ (V : WX) (pn : List (Addr × Obj)) (xe : Value → Shared → Prop), Takes (X.tr pn xe) V → PassesOwn (model X.prog X.w) X.A X.env xe → ISs (X.tr pn xe) none V body b) (hk : CDs X (h₀ :: hds) l) :
    IS X none Wx (.Try body (h₀ :: hds) [] [] pos) (sTryEach b l) := by
  obtain ⟨l', ok, run⟩ := each_post (Wx := Wx) hk
  refine PS.of (ps_try_each (tb := fun V => RS X none V b) hs hf hN tk hb ok) ?_
  intro De σ H ⟨ρ, env, st, s, e, q⟩
  refine ⟨ρ, env, st, s, e, ?_⟩
  unfold sTryEach at q
  generalize b env st = res at q
  cases res with
  | stuck => exact q
  | go f env1 st1 => exact q
  | err c1 w env1 st1 => exact fun ρ' H' σ' cls d g s' e' er => run De ρ H c1 w env1 st1 ρ' H' σ' cls d q g s' e' er
end
end MP
namespace MP
open PySem PySem.Spec PyProof.Rows L2
open Classical
noncomputable section
section
variable {X : Cx} {ex : Option Exn} {Wx : WX} {e : Expr} {es : List Expr} {p pos : Pos}
/-! a range that a name is to hold -/
def rngW (l : List W) (st : Store) : Res W := match l with
  | [.int i, .int j] => .ok (.rng i j) st
  | _ => .stuck
theorem rng_ok : CallOk X (fun vs H Q => ∃ i j, vs = [V.int i, V.int j] ∧ ∀ p, H p = none → Q (.ref p) (upd H p (.rng i j))) rngW := fun Wx ρ H st σ l vs Q s r q => by
  unfold rngW at q
  split at q
  · obtain ⟨x, y, rfl, ra, rb⟩ := vrs2 r
    rw [int_of ra, int_of rb]
    refine ⟨_, _, rfl, fun d hd => ?_⟩
    exact q ρ _ (.ref d) (grow_imm hd) (s.grow_imm hd) (by simp only [VR]; exact ⟨d, rfl, upd_same⟩)
  · exact q.elim
theorem ie_rng {m : D (List W)} (hg : Gl X "range") (hm : X.mg "range" = none) (ha : IA X ex Wx (e :: es) m) (he : starEach (e :: es) X.env = (false, eval e X.env) :: starEach es X.env := by rfl) (hpl : (backTo pos (starEach es X.env)).any (·.1) = false := by rfl) :
    IE X ex Wx (.Call (.Name "range" p) (e :: es) [] pos) (dApp rngW m) := ie_callTy cr_range2 rng_ok hg hm (by decide +kernel) ha (by decide) (by decide) he hpl
/-! the place of a text in a text -/
def sIndexW (a : W) (l : List W) (st : Store) : Res W := match a, l with
  | .str z, [.str b] => match Builtin.Str.occurrences z b 0 z.length 1 with
    | i :: _ => .ok (.int (i : Nat)) st
    | [] => .stuck
  | _, _ => .stuck
theorem sIndex_ok : MtOk X (fun x xs H Q => ∃ a b i rest, x = .str a ∧ xs = [.str b] ∧ Builtin.Str.occurrences a b 0 a.length 1 = i :: rest ∧ Q (.int (i : Nat)) H) sIndexW := fun Wx ρ H st σ a l x vs Q s ra r q => by
  unfold sIndexW at q
  split at q
  · obtain ⟨y, rfl, rb⟩ := vrs1 r
    split at q
    · rename_i i rest ho
      exact ⟨_, _, i, rest, str_of ra, by rw [str_of rb], ho, post_int s q⟩
    · exact q.elim
  · exact q.elim
theorem ie_sindex {o : Expr} {apos cpos : Pos} {mo : D W} {m : D (List W)} (ho : IE X ex Wx o mo) (ha : IA X ex Wx [e] m) (hbase : attributeBase o "index" X.env (eval o X.env) = eval o X.env := by rfl)
    (hfew : ((backTo cpos (starEach [e] X.env)).all (fun x => !x.1) && (backToKw cpos (keywordEach [] X.env)).all (fun x => x.1.isSome) && decide ([e].length + ([] : List Keyword).length + (if ([] : List Keyword).isEmpty then 0 else 1) < 30)) = true := by rfl)
    (hline : (apos.endLine == cpos.line) = true := by rfl) (hs : starEach [e] X.env = (false, eval e X.env) :: starEach [] X.env := by rfl) (hp : (backTo cpos (starEach [] X.env)).any (·.1) = false := by rfl) :
    IE X ex Wx (.Call (.Attribute o "index" apos) [e] [] cpos) (dBm tyS sIndexW mo m) := ie_bm PySem.F.plainAttrs_str PySem.F.slot_str_index PySem.F.type_str_index mt_sindex sIndex_ok tyS_ok ho ha hbase hfew hline hs hp
end
end
end MP
namespace MP
open PySem PySem.Spec PyProof.Rows L2
open Classical
noncomputable section
/-! ### <= of tuples whose items are whole numbers and texts -/
theorem rc_le_str {A : Around} {s : Shared} (a b : Str) (t u : Tok) : Ob.RcOp .LtE A s (.str a t) (.str b u) (!decide (b.cps.toList < a.cps.toList)) := fun _ _ _ _ h => PySem.P.le_str h
/-- two items at one place: whether they are equal, whether the first is not behind the second -/
def pairV : V → V → Option (Bool × Bool)
  | .int i, .int k => some (i == k, decide (i ≤ k))
  | .str x, .str y => some (x == y, !decide (y.cps.toList < x.cps.toList))
  | _, _ => none
def rLeM (K : PySem.W.Frag) : R2 := fun x y H Q => ∃ (a b : Addr) (xs ys : List V) (e r : Nat → Bool), x = .ref a ∧ y = .ref b ∧ SqT K H a xs ∧ SqT K H b ys ∧ (∀ j v w, xs[j]? = some v → ys[j]? = some w → pairV v w = some (e j, r j)) ∧
  Q (.bl (Ob.lexAt e r (decide (xs.length ≤ ys.length)) 0 (min xs.length ys.length))) H
theorem vals_at : ∀ {xs : List V} {its : List Value}, Vals xs its → ∀ (j : Nat) (u : Value), its[j]? = some u → ∃ v, xs[j]? = some v ∧ RelV v u
  | _, _, .nil, j, u, h => by simp at h
  | _, _, .cons r rs, 0, u, h => by simp at h; subst h; exact ⟨_, rfl, r⟩
  | _, _, .cons r rs, j + 1, u, h => by
    obtain ⟨v, hv, hr⟩ := vals_at rs j u (by simpa using h)
    exact ⟨v, by simpa using hv, hr⟩
theorem op_leM {X : Cx} (hu : X.A.units < cLine) : OpR X (compareOp .LtE) (rLeM X.K) := by
  intro pins s σ H x y v u Q I rx ry h
  obtain ⟨a, b, xs, ys, e, r, rfl, rfl, ha, hb, hp, q⟩ := h
  cases rx
  cases ry
  obtain ⟨its, r1, p1, _⟩ := I.tuple ha
  obtain ⟨its2, r2, p2, _⟩ := I.tuple hb
  have n1 : its.toArray.size = xs.length := by rw [List.size_toArray]; exact r1.length.symm
  have n2 : its2.toArray.size = ys.length := by rw [List.size_toArray]; exact r2.length.symm
  have both : ∀ j (h1 : j < its.toArray.size) (h2 : j < its2.toArray.size), (∃ i k t t', its.toArray[j] = .int i t ∧ its2.toArray[j] = .int k t' ∧ e j = (i == k) ∧ r j = decide (i ≤ k)) ∨ (∃ i k t t', its.toArray[j] = .str i t ∧ its2.toArray[j] = .str k t' ∧ e j = (i == k) ∧ r j = !decide (k.cps.toList < i.cps.toList)) := fun j h1 h2 => by
    have g1 : its[j]? = some its.toArray[j] := by simp at h1; simp [h1]
    have g2 : its2[j]? = some its2.toArray[j] := by simp at h2; simp [h2]
    obtain ⟨v, hv, rv⟩ := vals_at r1 j _ g1
    obtain ⟨w, hw, rw'⟩ := vals_at r2 j _ g2
    have pv := hp j v w hv hw
    unfold pairV at pv
    split at pv
    · injection pv with pv
      obtain ⟨t, et⟩ := rv
      obtain ⟨t', et'⟩ := rw'
      exact .inl ⟨_, _, t, t', et, et', (congrArg Prod.fst pv).symm, (congrArg Prod.snd pv).symm⟩
    · injection pv with pv
      obtain ⟨t, et⟩ := rv
      obtain ⟨t', et'⟩ := rw'
      exact .inr ⟨_, _, t, t', et, et', (congrArg Prod.fst pv).symm, (congrArg Prod.snd pv).symm⟩
    · cases pv
  have R := Ob.RcOp.tuples_le (A := X.A) (s := s) (e := e) (r := r) p1 p2 hu (fun j h1 h2 => by
    rcases both j h1 h2 with ⟨i, k, t, t', e1, e2, e3, _⟩ | ⟨i, k, t, t', e1, e2, e3, _⟩
    · rw [e1, e2, e3]; exact SeqAt.EqAt.int_int _ _ _ _
    · rw [e1, e2, e3]; exact SeqAt.EqAt.str_str _ _ _ _) (fun j h1 h2 _ => by
    rcases both j h1 h2 with ⟨i, k, t, t', e1, e2, _, e4⟩ | ⟨i, k, t, t', e1, e2, _, e4⟩
    · rw [e1, e2, e4]; exact Ob.RcOp.le_int _ _ _ _
    · rw [e1, e2, e4]; exact rc_le_str _ _ _ _)
  rw [n1, n2] at R
  exact R X.prog X.w X.xe (EP X pins σ Q) ⟨.bl _, H, I, rfl, q⟩
/-- the same of values -/
def pairW : W → W → Option (Bool × Bool)
  | .int i, .int k => some (i == k, decide (i ≤ k))
  | .str x, .str y => some (x == y, !decide (y.cps.toList < x.cps.toList))
  | _, _ => none
def pairsW : List W → List W → Option (List (Bool × Bool))
  | w :: ws, v :: vs => match pairW w v, pairsW ws vs with
    | some p, some ps => some (p :: ps)
    | _, _ => none
  | _, _ => some []
def leTW (a b : W) (st : Store) : Res W := match a, b with
  | .tup ws, .tup vs => match pairsW ws vs with
    | some ps => .ok (.bl (Ob.lexAt (fun j => (ps.getD j (false, false)).1) (fun j => (ps.getD j (false, false)).2) (decide (ws.length ≤ vs.length)) 0 (min ws.length vs.length))) st
    | none => .stuck
  | _, _ => .stuck
section
variable {X : Cx} {ex : Option Exn} {Wx : WX} {a b : Expr} {ma mb : D W} {pos : Pos}
theorem pairs_at {ρ : List Addr} {H : Hp} : ∀ {ws vs : List W} {xs ys : List V} {ps : List (Bool × Bool)}, VRs X.K ρ H ws xs → VRs X.K ρ H vs ys → pairsW ws vs = some ps → ∀ (j : Nat) (v w : V), xs[j]? = some v → ys[j]? = some w → pairV v w = some (ps.getD j (false, false))
  | [], _, xs, _, _, h1, _, _, j, v, w, hv, _ => by simp only [VRs] at h1; subst h1; simp at hv
  | _ :: _, [], _, ys, _, _, h2, _, j, v, w, _, hw => by simp only [VRs] at h2; subst h2; simp at hw
  | w :: ws, v :: vs, xs, ys, ps, h1, h2, hp, j, x, y, hx, hy => by
    simp only [VRs] at h1 h2
    obtain ⟨u, us, rfl, r, rs⟩ := h1
    obtain ⟨u', us', rfl, r', rs'⟩ := h2
    unfold pairsW at hp
    split at hp
    · rename_i p ps' hp1 hp2
      cases hp
      cases j with
      | zero =>
        simp at hx hy
        subst hx; subst hy
        unfold pairW at hp1
        split at hp1
        · rw [int_of r, int_of r']; simpa [pairV] using hp1
        · rw [str_of r, str_of r']; simpa [pairV] using hp1
        · cases hp1
      | succ j => simpa using pairs_at rs rs' hp2 j x y (by simpa using hx) (by simpa using hy)
    · cases hp
theorem leT_ok : OpOk X (rLeM X.K) leTW := fun Wx ρ H st σ a b x y Q s ra rb p => by
  unfold leTW at p
  split at p
  · rename_i ws vs
    split at p
    · rename_i ps hps
      obtain ⟨d1, xs, rfl, ht, rs⟩ := tup_of ra
      obtain ⟨d2, ys, rfl, ht', rs'⟩ := tup_of rb
      rw [VRs.length rs, VRs.length rs'] at p
      exact ⟨d1, d2, xs, ys, _, _, rfl, rfl, ht.sq, ht'.sq, fun j v w hv hw => pairs_at rs rs' hps j v w hv hw, post_bl s p⟩
    · exact p.elim
  · exact p.elim
theorem ie_leT (hu : X.A.units + 64 < cLine) (ha : IE X ex Wx a ma) (hb : IE X ex Wx b mb) : IE X ex Wx (.Compare a [.LtE] [b] pos) (dOp leTW ma mb) := ie_cmp (op_leM (Nat.lt_of_le_of_lt (Nat.le_add_right _ _) hu)) leT_ok ha hb (nomark _)
theorem it_leT (hu : X.A.units + 64 < cLine) (ha : IE X ex Wx a ma) (hb : IE X ex Wx b mb) : IT X ex Wx (.Compare a [.LtE] [b] pos) (dBool (dOp leTW ma mb)) := it_cmp (op_leM (Nat.lt_of_le_of_lt (Nat.le_add_right _ _) hu)) leT_ok ha hb (nomark _)
end
end
end MP
namespace MP
open PySem PySem.Spec PyProof.Rows L2
open Classical
noncomputable section
/-! ### list(x), x a text or a sequence -/
def sgnV (x : Str) : List V := x.cps.toList.map fun c => .str ⟨#[c]⟩
theorem cr_listS {X : Cx} (hcalm : X.calm = true) : CallR X (.type "list") (fun xs H Q => ∃ x, xs = [V.str x] ∧ x.length ≤ sizeLine ∧ ∀ q, H q = none → Q (.ref q) (upd H q (.lst (sgnV x)))) := by
  intro pins s σ H xs us Q I r h
  obtain ⟨x, rfl, hz, q⟩ := h
  obtain ⟨u, rfl, ru⟩ := vals1 r
  obtain ⟨t, rfl⟩ := ru
  refine PySem.call_list_str (I.ok.hd hcalm) x t (fun h' tk acc c' hk e hi => ?_) (hn := hz)
  refine ⟨.ref s.heap.objs.size, upd H s.heap.objs.size (.lst (sgnV x)), I.laid hk (Nat.le_refl _) ⟨by simp [sgnV]; exact hz, acc.toList, c', ?_, by rw [Array.toArray_toList]; exact e⟩, rfl, q _ (I.hok.fresh (Nat.le_refl _))⟩
  refine vals_of_idx _ _ (by rw [Array.length_toList, hi.1]; simp [sgnV]) fun j u hj => ?_
  obtain ⟨c, t', hc, rfl⟩ := hi.2 j u (by rw [← Array.getElem?_toList]; exact hj)
  exact ⟨.str ⟨#[c]⟩, by simp [sgnV, hc], ⟨_, rfl⟩⟩
def listAW (l : List W) (st : Store) : Res W := match l with
  | [.str z] => if z.length ≤ sizeLine then .ok (.loc st.length) (st ++ [.lst (signs z)]) else .stuck
  | l => listW l st
theorem vrs_signs {K : PySem.W.Frag} {ρ : List Addr} {H : Hp} : ∀ (l : List Nat), VRs K ρ H (l.map fun c => W.str ⟨#[c]⟩) (l.map fun c => V.str ⟨#[c]⟩)
  | [] => by simp [VRs]
  | c :: l => .cons' (by simp [VR]) (vrs_signs l)
theorem listA_ok {X : Cx} : CallOk X (fun xs H Q => (∃ x, xs = [V.str x] ∧ x.length ≤ sizeLine ∧ ∀ q, H q = none → Q (.ref q) (upd H q (.lst (sgnV x)))) ∨ ∃ p ys, xs = [.ref p] ∧ (SqL X.K H p ys ∨ SqT X.K H p ys) ∧ ∀ l, H l = none → Q (.ref l) (upd H l (.lst ys))) listAW := fun Wx ρ H st σ l vs Q s r q => by
  unfold listAW at q
  split at q
  · rename_i z
    obtain ⟨x, rfl, ra⟩ := vrs1 r
    split at q
    · rename_i hz
      rw [str_of ra]
      exact .inl ⟨z, rfl, hz, post_lst s (vrs_signs _) q⟩
    · exact q.elim
  · exact .inr (list_ok Wx ρ H st σ _ vs Q s r q)
section
variable {X : Cx} {ex : Option Exn} {Wx : WX} {e : Expr} {es : List Expr} {p pos : Pos}
theorem ie_listA {m : D (List W)} (hc : X.calm = true) (hg : Gl X "list") (hm : X.mg "list" = none) (ha : IA X ex Wx (e :: es) m) (he : starEach (e :: es) X.env = (false, eval e X.env) :: starEach es X.env := by rfl) (hpl : (backTo pos (starEach es X.env)).any (·.1) = false := by rfl) :
    IE X ex Wx (.Call (.Name "list" p) (e :: es) [] pos) (dApp listAW m) := ie_callTy ((cr_listS hc).or call_list_of) listA_ok hg hm (by decide +kernel) ha (by decide) (by decide) he hpl
end
end
end MP
namespace MP
open PySem PySem.Spec PyProof.Rows L2
open Classical
noncomputable section
/-! ### repr of whole numbers, truths, None -/
def reprW (l : List W) (st : Store) : Res W := match l with
  | [.int i] => if i.natAbs.log2 < 1920 then .ok (.str (Str.ofString (toString i))) st else .stuck
  | [.bl b] => .ok (.str (if b then "True" else "False")) st
  | [.non] => .ok (.str "None") st
  | _ => .stuck
section
variable {X : Cx}
def rRepr : List V → Hp → VK → Prop := fun xs H Q => ∃ x, xs = [x] ∧ ((∃ i, x = .int i ∧ i.natAbs.log2 < 1920 ∧ Q (.str (Str.ofString (toString i))) H) ∨ ((∃ b, x = .bl b ∧ Q (.str (if b then "True" else "False")) H) ∨ (x = .non ∧ Q (.str "None") H)))
theorem cr_repr : CallR X (.builtin "repr") rRepr := by
  intro pins s σ H xs us Q I r h
  obtain ⟨x, rfl, h⟩ := h
  obtain ⟨u, rfl, ru⟩ := vals1 r
  rcases h with ⟨i, rfl, hz, q⟩ | ⟨b, rfl, q⟩ | ⟨rfl, q⟩
  · obtain ⟨t, rfl⟩ := ru
    exact PySem.P.repr_of_int hz ⟨.str _, H, I.tok _, ⟨_, rfl⟩, q⟩
  · cases (show u = Value.bool b from ru)
    exact PySem.P.repr_of_bool ⟨.str _, H, I.tok _, ⟨_, rfl⟩, q⟩
  · cases (show u = Value.none from ru)
    exact PySem.P.repr_of_none ⟨.str _, H, I.tok _, ⟨_, rfl⟩, q⟩
theorem repr_ok : CallOk X rRepr reprW := fun Wx ρ H st σ l vs Q s r q => by
  unfold reprW at q
  split at q
  · obtain ⟨x, rfl, ra⟩ := vrs1 r
    split at q
    · rename_i hz
      rw [int_of ra]; exact ⟨_, rfl, .inl ⟨_, rfl, hz, post_str s q⟩⟩
    · exact q.elim
  · obtain ⟨x, rfl, ra⟩ := vrs1 r
    rw [bl_of ra]; exact ⟨_, rfl, .inr (.inl ⟨_, rfl, post_str s q⟩)⟩
  · obtain ⟨x, rfl, ra⟩ := vrs1 r
    rw [non_of ra]; exact ⟨_, rfl, .inr (.inr ⟨rfl, post_str s q⟩)⟩
  · exact q.elim
/-! ### is, is not, of truths -/
def isBW (neg : Bool) (a b : W) (st : Store) : Res W := match b with
  | .bl c => match a with
    | .bl d => .ok (.bl (if neg then !decide (d = c) else decide (d = c))) st
    | _ => .stuck
  | _ => .stuck
theorem isB_ok : OpOk X (fun x y H Q => ∃ a b, x = .bl a ∧ y = .bl b ∧ Q (.bl (decide (a = b))) H) (isBW false) := fun Wx ρ H st σ a b x y Q s ra rb p => by
  unfold isBW at p
  split at p
  · split at p
    · exact ⟨_, _, bl_of ra, bl_of rb, post_bl s p⟩
    · exact p.elim
  · exact p.elim
theorem isNotB_ok : OpOk X (fun x y H Q => ∃ a b, x = .bl a ∧ y = .bl b ∧ Q (.bl (!decide (a = b))) H) (isBW true) := fun Wx ρ H st σ a b x y Q s ra rb p => by
  unfold isBW at p
  split at p
  · split at p
    · exact ⟨_, _, bl_of ra, bl_of rb, post_bl s p⟩
    · exact p.elim
  · exact p.elim
end
section
variable {X : Cx} {ex : Option Exn} {Wx : WX} {e : Expr} {es : List Expr} {p pos : Pos}
theorem ie_repr {m : D (List W)} (hg : Gl X "repr") (hm : X.mg "repr" = none) (ha : IA X ex Wx (e :: es) m) (he : starEach (e :: es) X.env = (false, eval e X.env) :: starEach es X.env := by rfl) (hpl : (backTo pos (starEach es X.env)).any (·.1) = false := by rfl) :
    IE X ex Wx (.Call (.Name "repr" p) (e :: es) [] pos) (dApp reprW m) := ie_callB cr_repr repr_ok hg hm (by decide +kernel) ha (by decide) (by decide) he hpl
theorem ie_isB {a b : Expr} {ma mb : D W} (ha : IE X ex Wx a ma) (hb : IE X ex Wx b mb) : IE X ex Wx (.Compare a [.Is] [b] pos) (dOp (isBW false) ma mb) := ie_cmp op_is_bl isB_ok ha hb (nomark _)
theorem ie_isNotB {a b : Expr} {ma mb : D W} (ha : IE X ex Wx a ma) (hb : IE X ex Wx b mb) : IE X ex Wx (.Compare a [.IsNot] [b] pos) (dOp (isBW true) ma mb) := ie_cmp op_isnot_bl isNotB_ok ha hb (nomark _)
theorem it_isB {a b : Expr} {ma mb : D W} (ha : IE X ex Wx a ma) (hb : IE X ex Wx b mb) : IT X ex Wx (.Compare a [.Is] [b] pos) (dBool (dOp (isBW false) ma mb)) := it_cmp op_is_bl isB_ok ha hb (nomark _)
theorem it_isNotB {a b : Expr} {ma mb : D W} (ha : IE X ex Wx a ma) (hb : IE X ex Wx b mb) : IT X ex Wx (.Compare a [.IsNot] [b] pos) (dBool (dOp (isBW true) ma mb)) := it_cmp op_isnot_bl isNotB_ok ha hb (nomark _)
/-! ### keywords in any order -/
def permL {α : Type} (ix : List Nat) (l : List α) : List α := ix.filterMap fun i => l[i]?
theorem perm_vals : ∀ {ix : List Nat} {zs : List V} {ws : List Value}, Vals zs ws → Vals (permL ix zs) (permL ix ws)
  | [], _, _, _ => .nil
  | i :: ix, zs, ws, r => by
    have ih := perm_vals (ix := ix) r
    unfold permL at ih ⊢
    have hl := r.length
    by_cases h : i < zs.length
    · have h' : i < ws.length := by rw [← hl]; exact h
      simp only [List.filterMap_cons, List.getElem?_eq_getElem h, List.getElem?_eq_getElem h']
      refine .cons ?_ ih
      obtain ⟨v, e, rv⟩ := vals_at r i ws[i] (List.getElem?_eq_getElem h')
      rw [List.getElem?_eq_getElem h] at e
      rw [Option.some.inj e]; exact rv
    · have h' : ¬ i < ws.length := by rw [← hl]; exact h
      simp only [List.filterMap_cons, List.getElem?_eq_none (Nat.le_of_not_lt h), List.getElem?_eq_none (Nat.le_of_not_lt h')]
      exact ih
theorem perm_vrs {K : PySem.W.Frag} {ρ : List Addr} {H : Hp} : ∀ {ix : List Nat} {ws : List W} {vs : List V}, VRs K ρ H ws vs → VRs K ρ H (permL ix ws) (permL ix vs)
  | [], _, _, _ => by simp [permL, VRs]
  | i :: ix, ws, vs, r => by
    have ih := perm_vrs (ix := ix) r
    unfold permL at ih ⊢
    have hl := VRs.length r
    by_cases h : i < ws.length
    · have h' : i < vs.length := by rw [← hl]; exact h
      simp only [List.filterMap_cons, List.getElem?_eq_getElem h, List.getElem?_eq_getElem h']
      obtain ⟨v, e, rv⟩ := r.get (List.getElem?_eq_getElem h)
      rw [List.getElem?_eq_getElem h'] at e
      rw [Option.some.inj e]; exact .cons' rv ih
    · have h' : ¬ i < vs.length := by rw [← hl]; exact h
      simp only [List.filterMap_cons, List.getElem?_eq_none (Nat.le_of_not_lt h), List.getElem?_eq_none (Nat.le_of_not_lt h')]
      exact ih
def tCallP (ix : List Nat) (n : Nat) (sp : Sp) (E : L2.St → XK) (tk : TA) : TE := fun σ H Q => tk σ H fun vs H1 => vs.length = n ∧ sp (permL ix vs) H1 Q (E σ)
theorem pe_callKP {k n : Nat} {f : Addr} {fd : FuncData} {ps : List Str} {x : Str} {ix : List Nat} {sp : Sp} {E : L2.St → XK} {CX : CXT} {kws : List Keyword} {tk : TA} {ks : List Str} (F : FnOk X.prog X.w X.K X.mg X.base CX k f fd ps sp) (hn : n = ps.length) (hr : Room k X.A) (hg : Gl X x) (hm : X.mg x = some (.ref f)) (hk : PySem.W.keepIn X.K (.ref f) = true)
    (hb : ∀ (s : Shared) (ws : List Value), X.K.In s.heap → ws.length = ps.length → BindsTo s fd ⟨[], ks.zip ws⟩ (ps.zip (permL ix ws))) (hx : ∀ σ, PassesAt CX X σ (E σ)) (hkw : PK X kws tk)
    (hall : (backToKw pos (keywordEach kws X.env)).all (·.1.isSome) = true := by rfl) (hks : (backToKw pos (keywordEach kws X.env)).filterMap (·.1) = ks := by rfl) (hdb : (x == ("__debug__" : Str)) = false := by decide)
    (hpl : ((backTo pos (starEach [] X.env)).any (·.1) || (backToKw pos (keywordEach kws X.env)).any (·.1.isNone)) = false := by rfl) :
    PE X (.Call (.Name x p) [] kws pos) (tCallP ix n sp E tk) := by
  refine ⟨fun pins s σ H Q I h => ?_⟩
  refine wpAny_Call_Name_kw (ld_glob I hg hm ?_ hdb)
  refine PySem.W.callWith_KW0 (h₀ := X.base) I.ok.mod.kin hk hall (thn (hkw.run pos pins s σ H _ I h) fun ws s1 ⟨zs, H1, I1, rz, hl0, q⟩ => ⟨I1.kIn, ?_⟩) hpl
  rw [hks]
  have hl : ws.length = ps.length := by rw [← rz.length, ← hn]; exact hl0
  refine wpAny_call (codeAny_mono (F.run X.A X.stack s1 H1 ⟨[], ks.zip ws⟩ (permL ix ws) (permL ix zs) Q (E σ) hr I1.env0 (hb s1 ws I1.kIn hl) (perm_vals rz) q) fun r s' hq => ?_)
  cases r with
  | error e => exact hx σ pins H1 s1 e s' I1 hq
  | ok fl =>
    cases fl with
    | ret u => exact I1.after hq
    | next => exact False.elim hq
    | brk => exact False.elim hq
    | cont => exact False.elim hq
def dCallP (n : Nat) (ix : List Nat) (den : List W → Store → Res W) (m : D (List W)) : D W := fun env st => (m env st).bind fun l st1 => if l.length = n ∧ (permL ix l).length = n then den (permL ix l) st1 else .stuck
theorem ie_callFKP {ps : List Str} {j n : Nat} {x : Str} {den : List W → Store → Res W} {ix : List Nat} {m : D (List W)} {kws : List Keyword} {ks : List Str} (G : FnF X.prog X.w X.K X.mg X.base x ps j n den) (hr : Room j X.A) (tk : Takes X Wx)
    (hb : ∀ (s : Shared) (ws : List Value), X.K.In s.heap → ws.length = ps.length → BindsTo s G.fd ⟨[], ks.zip ws⟩ (ps.zip (permL ix ws))) (hkw : IK X ex Wx kws m) (hn : n = ps.length := by rfl) (hg : Gl X x := by rfl)
    (hall : (backToKw pos (keywordEach kws X.env)).all (·.1.isSome) = true := by rfl) (hks : (backToKw pos (keywordEach kws X.env)).filterMap (·.1) = ks := by rfl) (hdb : (x == ("__debug__" : Str)) = false := by decide)
    (hpl : ((backTo pos (starEach [] X.env)).any (·.1) || (backToKw pos (keywordEach kws X.env)).any (·.1.isNone)) = false := by rfl) : IE X ex Wx (.Call (.Name x p) [] kws pos) (dCallP n ix den m) :=
  PE.of (pe_callKP (n := n) G.ok hn hr hg G.m G.kp hb (fun σ => passAt tk σ) hkw hall hks hdb hpl) fun σ H Q ⟨ρ, env, st, s, e, q⟩ => RG.bind s e q fun ρ1 H1 st1 l vs g s1 e1 r p1 => by
    split at p1
    · rename_i hl
      exact ⟨by rw [← VRs.length r]; exact hl.1, sp_of s1 (perm_vrs r) hl.2 p1⟩
    · exact p1.elim
end
/-! ### zip of two lists, in a for -/
structure ItG where
  items : List W
  chk : Store → Prop
section
variable {X : Cx} {ex : Option Exn} {Wx : WX} {pos : Pos}
def relG (X : Cx) : List Addr → Hp → ItG → It → Prop := fun ρ0 H0 it J =>
  ∀ ρ H st, Grow ρ0 H0 ρ H → StR X.K ρ H st → it.chk st → ∀ i, (∀ w, it.items[i]? = some w → J.go i H ∧ ∀ x H', J.yld i H x H' → Grow ρ H ρ H' ∧ StR X.K ρ H' st ∧ VR X.K ρ H' w x) ∧ (it.items.length ≤ i → J.stop i H)
abbrev IIG (X : Cx) (ex : Option Exn) (Wx : WX) (tg e : Expr) (m : D ItG) : Prop := PI X tg e (RG X ex Wx (relG X) m)
def sForG (m : D ItG) (t : DT) (b : DS) : DS := fun env st => (m env st).then env fun it st1 => forW it.chk t b it.items env st1
theorem is_forG {vs : List Nat} {tg iter : Expr} {body : List Stmt} {m : D ItG} {t : DT} {b : DS} (hp : PassesOwn (model X.prog X.w) X.A X.env X.xe) (hc : X.calm = true) (hi : IIG X ex Wx tg iter m) (hg : IG X ex vs tg t) (hb : ISs X ex Wx body b) (hs : ∀ x, foldedSetIterable iter X.env x = pure x := by intro _; rfl) : IS X ex Wx (.For tg iter body [] pos) (sForG m t b) :=
  PS.of (ps_for hp hc hi hg hb hs) fun De σ H ⟨ρ, env, st, s, e, p⟩ => RS.step (rel := relG X) s e p fun ρ1 H1 st1 it J g s1 e1 r q => by
    refine ⟨fun i m σ H => m = it.items.length - i ∧ i ≤ it.items.length ∧ ∃ ρ env st, Grow ρ1 H1 ρ H ∧ StR X.K ρ H st ∧ EnvR X.K ex ρ H env σ ∧ PostS X.K ex X.mg Wx De ρ H (forW it.chk t b (it.items.drop i) env st),
      ⟨_, rfl, Nat.zero_le _, ρ1, env, st1, .refl, s1, e1, q⟩, ?_⟩
    rintro i m σ' H' ⟨rfl, hi, ρ', env', st', g', s', e', q'⟩
    by_cases hlt : i < it.items.length
    · rw [List.drop_eq_getElem_cons hlt] at q'
      unfold forW at q'
      split at q'
      · rename_i ck
        obtain ⟨go, stop⟩ := r ρ' H' st' g' s' ck i
        obtain ⟨hgo, hy⟩ := go _ (List.getElem?_eq_getElem hlt)
        refine .inr ⟨hgo, fun σ2 H2 => ∃ ρ env st, Grow ρ1 H1 ρ H2 ∧ StR X.K ρ H2 st ∧ EnvR X.K ex ρ H2 env σ2 ∧ PostS X.K ex X.mg Wx De ρ H2 (forW it.chk t b (it.items.drop (i + 1)) env st), fun σ2 H2 n => ⟨_, by omega, rfl, hlt, n⟩, fun x H2 y => ?_⟩
        obtain ⟨g2, s2, rv⟩ := hy x H2 y
        have e2 := e'.grow s'.apart g2
        cases ht : t it.items[i] env' st' with
        | none => rw [ht] at q'; exact q'.elim
        | some pr =>
          obtain ⟨env3, st3⟩ := pr
          rw [ht] at q'
          refine ⟨ρ', env', st', _, s2, e2, rv, env3, st3, ht, fun ρ3 H3 σ3 g3 s3 e3 _ => ⟨ρ3, env3, st3, s3, e3, ?_⟩⟩
          simp only at q'
          have gg := g'.trans (g2.trans g3)
          have q3 := PostS.mono q' (g2.trans g3)
          generalize hbr : b env3 st3 = br at q3
          cases br with
          | stuck => exact q3
          | err c fs env4 st4 => exact q3
          | go f env4 st4 =>
            cases f with
            | nx => exact fun ρ4 H4 σ4 g4 s4 e4 => ⟨ρ4, env4, st4, gg.trans g4, s4, e4, PostS.mono q3 g4⟩
            | ct => exact fun ρ4 H4 σ4 g4 s4 e4 => ⟨ρ4, env4, st4, gg.trans g4, s4, e4, PostS.mono q3 g4⟩
            | bk => exact q3
            | rt v => exact q3
      · exact q'.elim
    · have : i = it.items.length := by omega
      subst this
      rw [List.drop_length] at q'
      unfold forW at q'
      split at q'
      · rename_i ck
        exact .inl ⟨(r ρ' H' st' g' s' ck _).2 (Nat.le_refl _), PostS.go_ (f := .nx) q' s' e'⟩
      · exact q'.elim
def zipW (xs ys : List W) : List W := List.zipWith (fun x y => W.tup [x, y]) xs ys
def zipOf (l : List W) (st : Store) : Res ItG := match l with
  | [.loc m, .loc n] => match lst2 st m n with
    | some (xs, ys) => .ok ⟨zipW xs ys, fun st => st[m]? = some (.lst xs) ∧ st[n]? = some (.lst ys)⟩ st
    | none => .stuck
  | _ => .stuck
def dZip (m : D (List W)) : D ItG := fun env st => (m env st).bind zipOf
theorem ob_at {ρ ρ' : List Addr} {H H' : Hp} {st : Store} {n : Nat} {a : Addr} {ws : List W} (g : Grow ρ H ρ' H') (s : StR X.K ρ' H' st) (hn : ρ[n]? = some a) (h : st[n]? = some (.lst ws)) : ∃ us, H' a = some (.lst us) ∧ VRs X.K ρ' H' ws us := by
  obtain ⟨m, e, _⟩ := g.pre
  subst e
  obtain ⟨b, hb, us, hu, r⟩ := s.ob n (.lst ws) h
  have : b = a := by
    rw [List.getElem?_append_left (List.getElem?_eq_some_iff.mp hn).1, hn] at hb
    exact (Option.some.inj hb).symm
  subst this
  exact ⟨us, hu, r⟩
theorem relG_zip {ρ : List Addr} {H : Hp} {xs ys : List W} {m n : Nat} {a b : Addr} (hm : ρ[m]? = some a) (hn : ρ[n]? = some b) : relG X ρ H ⟨zipW xs ys, fun st => st[m]? = some (.lst xs) ∧ st[n]? = some (.lst ys)⟩ (Itz X.K a b) := by
  intro ρ' H' st' g s' ck i
  obtain ⟨us, hu, ru⟩ := ob_at g s' hm ck.1
  obtain ⟨vs, hv, rv⟩ := ob_at g s' hn ck.2
  have su : SqL X.K H' a us := .inl (.inl hu)
  have sv : SqL X.K H' b vs := .inl (.inl hv)
  refine ⟨fun w e => ?_, fun h => ⟨us, vs, su, sv, ?_⟩⟩
  · have e : (zipW xs ys)[i]? = some w := e
    unfold zipW at e
    rw [List.getElem?_zipWith] at e
    cases hx : xs[i]? with
    | none => rw [hx] at e; simp at e
    | some x =>
      cases hy : ys[i]? with
      | none => rw [hx, hy] at e; simp at e
      | some y =>
        rw [hx, hy] at e
        simp only [Option.some.injEq] at e
        subst e
        obtain ⟨u, e1, r1⟩ := ru.get hx
        obtain ⟨v, e2, r2⟩ := rv.get hy
        refine ⟨⟨us, vs, u, v, su, sv, e1, e2⟩, fun z H2 ⟨T, x', y', ez, hT, eH, fx, fy⟩ => ?_⟩
        have h1 := fx us su
        rw [e1] at h1; cases h1
        have h2 := fy vs sv
        rw [e2] at h2; cases h2
        subst ez; subst eH
        exact ⟨grow_imm hT, s'.grow_imm hT, tup_new s' (.cons' r1 (.one r2)) hT⟩
  · have h : (zipW xs ys).length ≤ i := h
    unfold zipW at h
    rw [List.length_zipWith, VRs.length ru, VRs.length rv] at h
    omega
theorem iig_zip {e e2 : Expr} {m : D (List W)} {p tpos : Pos} {elts : List Expr} {kk : Nat} (hg : Gl X "zip") (hm : X.mg "zip" = none) (ha : IA X ex Wx [e, e2] m)
    (hs : starEach [e, e2] X.env = (false, eval e X.env) :: starEach [e2] X.env := by rfl) (hpl : (backTo pos (starEach [e2] X.env)).any (·.1) = false := by rfl) :
    IIG X ex Wx (.Tuple elts kk tpos) (.Call (.Name "zip" p) [e, e2] [] pos) (dZip m) :=
  ⟨fun pins s σ H R I h => (pi_zip hg hm ha hs hpl).run pins s σ H R I (by
    obtain ⟨ρ, env, st, s, e, q⟩ := h
    refine RG.bind s e q fun ρ1 H1 st1 l vs g s1 e1 r p1 => ?_
    unfold zipOf at p1
    split at p1
    · split at p1
      · rename_i xs ys h2
        obtain ⟨x, y, rfl, ra, rb⟩ := vrs2 r
        obtain ⟨hx, hy⟩ := lst2_of h2
        obtain ⟨a1, us, hm1, rfl, hu, _⟩ := loc_lst s1 ra hx
        obtain ⟨b1, vs, hn1, rfl, hv, _⟩ := loc_lst s1 rb hy
        exact ⟨a1, b1, us, vs, rfl, .inl (.inl hu), .inl (.inl hv), p1 ρ1 H1 _ .refl s1 (relG_zip hm1 hn1)⟩
      · exact p1.elim
    · exact p1.elim)⟩
end
end
end MP
namespace MP
open PySem PySem.Spec PyProof.Rows L2
open Classical
noncomputable section
/-! ### how a denotation is worked out: each step by its own row, what comes later stays folded -/
def kOp1 (f : W → W → Store → Res W) (mb : D W) (env : EnvW) (a : W) (st : Store) : Res W := (mb env st).bind (f a)
def kIf (ma mb : D W) (env : EnvW) (b : Bool) (st : Store) : Res W := if b = true then ma env st else mb env st
def kCons1 (r : D (List W)) (env : EnvW) (a : W) (st : Store) : Res (List W) := (r env st).bind fun l st2 => .ok (a :: l) st2
def kTup (l : List W) (st : Store) : Res W := if l.length ≤ sizeLine then .ok (.tup l) st else .stuck
def kLst (l : List W) (st : Store) : Res W := if l.length ≤ sizeLine then .ok (.loc st.length) (st ++ [.lst l]) else .stuck
def kBool (a : W) (st : Store) : Res Bool := match a with
  | .bl b => .ok b st
  | _ => .stuck
def kAnd (b : D Bool) (env : EnvW) (c : Bool) (st : Store) : Res Bool := if c = true then b env st else .ok false st
def kOr (b : D Bool) (env : EnvW) (c : Bool) (st : Store) : Res Bool := if c = true then .ok true st else b env st
def kNot (c : Bool) (st : Store) : Res Bool := .ok (!c) st
def kAndV (b : D W) (env : EnvW) (x : W) (st : Store) : Res W := match x with
  | .bl c => if c = true then b env st else .ok (.bl false) st
  | _ => .stuck
def kOrV (b : D W) (env : EnvW) (x : W) (st : Store) : Res W := match x with
  | .bl c => if c = true then .ok (.bl true) st else b env st
  | _ => .stuck
def kNotV (x : W) (st : Store) : Res W := match x with
  | .bl c => .ok (.bl (!c)) st
  | _ => .stuck
def kCh1 (f g : W → W → Store → Res W) (mb mc : D W) (env : EnvW) (a : W) (st : Store) : Res W := (mb env st).bind fun b st2 => (f a b st2).bind fun x st3 => match x with
  | .bl true => (mc env st3).bind fun c st4 => g b c st4
  | .bl false => .ok (.bl false) st3
  | _ => .stuck
def kCall (n : Nat) (den : List W → Store → Res W) (l : List W) (st : Store) : Res W := if l.length = n then den l st else .stuck
def kBm (ty : W → Store → Bool) (g : W → List W → Store → Res W) (m : D (List W)) (env : EnvW) (a : W) (st : Store) : Res W := if ty a st = true then (m env st).bind (g a) else .stuck
def kSl1 (lo hi : D (Option Int)) (env : EnvW) (a : W) (st : Store) : Res W := (lo env st).bind fun l st2 => (hi env st2).bind fun h st3 => slW a l h st3
def kPart (a : W) (st : Store) : Res (Option Int) := match a with
  | .int i => .ok (some i) st
  | _ => .stuck
def kLc (env : EnvW) (t : DT) (c : D Bool) (e : D W) (it : ItW) (st : Store) : Res W := match lcW it.Chk env t c e it.items [] st with
  | some (acc, st2) => .ok (.loc st2.length) (st2 ++ [.lst acc])
  | none => .stuck
def kR1 (l : List W) (st : Store) : Res ItW := match l with
  | [.int j] => rangeW 0 j st
  | _ => .stuck
def kR2 (l : List W) (st : Store) : Res ItW := match l with
  | [.int i, .int j] => rangeW i j st
  | _ => .stuck
section
variable {α β : Type} {f g : W → W → Store → Res W} {ma mb mc : D W} {r : D (List W)} {env : EnvW} {st st1 : Store} {a b : W}
@[simp] theorem dC_ap (w : W) : dC w env st = .ok w st := rfl
@[simp] theorem dExc_ap (w : W) : dExc w env st = .ok w st := rfl
@[simp] theorem dVar_ap (i : Nat) : dVar i env st = (match env[i]? with | some (some w) => .ok w st | _ => .stuck) := rfl
@[simp] theorem dOp_ap : dOp f ma mb env st = (ma env st).bind (kOp1 f mb env) := rfl
@[simp] theorem kOp1_ap : kOp1 f mb env a st = (mb env st).bind (f a) := rfl
@[simp] theorem dUn_ap (u : W → Store → Res W) : dUn u ma env st = (ma env st).bind u := rfl
@[simp] theorem dIf_ap (c : D Bool) : dIf c ma mb env st = (c env st).bind (kIf ma mb env) := rfl
@[simp] theorem kIf_t : kIf ma mb env true st = ma env st := rfl
@[simp] theorem kIf_f : kIf ma mb env false st = mb env st := rfl
@[simp] theorem dNil_ap : dNil env st = .ok [] st := rfl
@[simp] theorem dCons_ap : dCons ma r env st = (ma env st).bind (kCons1 r env) := rfl
def kCons2 (a : W) (l : List W) (st : Store) : Res (List W) := .ok (a :: l) st
@[simp] theorem kCons1_ap : kCons1 r env a st = (r env st).bind (kCons2 a) := rfl
@[simp] theorem kCons2_ap (l : List W) : kCons2 a l st = .ok (a :: l) st := rfl
@[simp] theorem dTup_ap : dTup r env st = (r env st).bind kTup := rfl
@[simp] theorem dLst_ap : dLst r env st = (r env st).bind kLst := rfl
theorem kTup_ok {l : List W} (h : l.length ≤ sizeLine) : kTup l st = .ok (.tup l) st := if_pos h
theorem kLst_ok {l : List W} (h : l.length ≤ sizeLine) : kLst l st = .ok (.loc st.length) (st ++ [.lst l]) := if_pos h
@[simp] theorem dApp_ap (m : List W → Store → Res W) : dApp m r env st = (r env st).bind m := rfl
@[simp] theorem dBool_ap : dBool ma env st = (ma env st).bind kBool := rfl
@[simp] theorem kBool_ap (c : Bool) : kBool (.bl c) st = .ok c st := rfl
@[simp] theorem dAnd_ap (x y : D Bool) : dAnd x y env st = (x env st).bind (kAnd y env) := rfl
@[simp] theorem kAnd_t (y : D Bool) : kAnd y env true st = y env st := rfl
@[simp] theorem kAnd_f (y : D Bool) : kAnd y env false st = .ok false st := rfl
@[simp] theorem dOr_ap (x y : D Bool) : dOr x y env st = (x env st).bind (kOr y env) := rfl
@[simp] theorem kOr_t (y : D Bool) : kOr y env true st = .ok true st := rfl
@[simp] theorem kOr_f (y : D Bool) : kOr y env false st = y env st := rfl
@[simp] theorem dNot_ap (x : D Bool) : dNot x env st = (x env st).bind kNot := rfl
@[simp] theorem kNot_ap (c : Bool) : kNot c st = .ok (!c) st := rfl
@[simp] theorem dAndV_ap : dAndV ma mb env st = (ma env st).bind (kAndV mb env) := rfl
@[simp] theorem kAndV_t : kAndV mb env (.bl true) st = mb env st := rfl
@[simp] theorem kAndV_f : kAndV mb env (.bl false) st = .ok (.bl false) st := rfl
@[simp] theorem dOrV_ap : dOrV ma mb env st = (ma env st).bind (kOrV mb env) := rfl
@[simp] theorem kOrV_t : kOrV mb env (.bl true) st = .ok (.bl true) st := rfl
@[simp] theorem kOrV_f : kOrV mb env (.bl false) st = mb env st := rfl
@[simp] theorem dNotV_ap : dNotV ma env st = (ma env st).bind kNotV := rfl
@[simp] theorem kNotV_ap (c : Bool) : kNotV (.bl c) st = .ok (.bl (!c)) st := rfl
@[simp] theorem dChain_ap : dChain f g ma mb mc env st = (ma env st).bind (kCh1 f g mb mc env) := rfl
def kCh2 (f g : W → W → Store → Res W) (mc : D W) (env : EnvW) (a b : W) (st : Store) : Res W := (f a b st).bind fun x st3 => match x with
  | .bl true => (mc env st3).bind fun c st4 => g b c st4
  | .bl false => .ok (.bl false) st3
  | _ => .stuck
def kCh3 (g : W → W → Store → Res W) (mc : D W) (env : EnvW) (b x : W) (st3 : Store) : Res W := match x with
  | .bl true => (mc env st3).bind fun c st4 => g b c st4
  | .bl false => .ok (.bl false) st3
  | _ => .stuck
@[simp] theorem kCh1_ap : kCh1 f g mb mc env a st = (mb env st).bind (kCh2 f g mc env a) := rfl
@[simp] theorem kCh2_ap : kCh2 f g mc env a b st = (f a b st).bind (kCh3 g mc env b) := rfl
@[simp] theorem kCh3_t : kCh3 g mc env b (.bl true) st = (mc env st).bind (g b) := rfl
@[simp] theorem kCh3_f : kCh3 g mc env b (.bl false) st = .ok (.bl false) st := rfl
@[simp] theorem dCall_ap (n : Nat) (den : List W → Store → Res W) : dCall n den r env st = (r env st).bind (kCall n den) := rfl
@[simp] theorem kCall_1 (den : List W → Store → Res W) : kCall 1 den [a] st = den [a] st := rfl
@[simp] theorem kCall_2 (den : List W → Store → Res W) : kCall 2 den [a, b] st = den [a, b] st := rfl
@[simp] theorem dBm_ap (ty : W → Store → Bool) (m : W → List W → Store → Res W) : dBm ty m ma r env st = (ma env st).bind (kBm ty m r env) := rfl
@[simp] theorem kBm_s (m : W → List W → Store → Res W) (x : Str) : kBm tyS m r env (.str x) st = (r env st).bind (m (.str x)) := rfl
theorem kBm_l (m : W → List W → Store → Res W) {n : Nat} {ws : List W} (h : st[n]? = some (.lst ws)) : kBm tyL m r env (.loc n) st = (r env st).bind (m (.loc n)) := by
  unfold kBm tyL; simp only [h, Option.isSome_some, if_true]
@[simp] theorem dSl_ap (lo hi : D (Option Int)) : dSl ma lo hi env st = (ma env st).bind (kSl1 lo hi env) := rfl
def kSl2 (hi : D (Option Int)) (env : EnvW) (a : W) (l : Option Int) (st : Store) : Res W := (hi env st).bind fun h st3 => slW a l h st3
@[simp] theorem kSl1_ap (lo hi : D (Option Int)) : kSl1 lo hi env a st = (lo env st).bind (kSl2 hi env a) := rfl
@[simp] theorem kSl2_ap (hi : D (Option Int)) (l : Option Int) : kSl2 hi env a l st = (hi env st).bind (slW a l) := rfl
@[simp] theorem dNoPart_ap : dNoPart env st = .ok none st := rfl
@[simp] theorem dPart_ap : dPart ma env st = (ma env st).bind kPart := rfl
@[simp] theorem kPart_ap (i : Int) : kPart (.int i) st = .ok (some i) st := rfl
@[simp] theorem dIt_ap : dIt ma env st = (ma env st).bind itOf := rfl
@[simp] theorem dLc_ap (m : D ItW) (vs : List Nat) (t : DT) (c : D Bool) (e : D W) : dLc m vs t c e env st = (m env st).bind (kLc (wipeW env vs) t c e) := rfl
@[simp] theorem dRange1_ap : dRange1 r env st = (r env st).bind kR1 := by
  unfold dRange1 dRange
  dsimp only
  cases h : r env st with
  | ok l st1 =>
    simp only [Res.bind_ok]
    unfold kR1
    split
    · rfl
    · rename_i hx
      simp only [Res.bind_stuck]
      try (split; · exact (hx _ rfl).elim; · rfl)
  | err => rfl
  | stuck => rfl
@[simp] theorem dRange2_ap : dRange2 r env st = (r env st).bind kR2 := by
  unfold dRange2 dRange
  dsimp only
  cases h : r env st with
  | ok l st1 =>
    simp only [Res.bind_ok]
    unfold kR2
    split
    · rfl
    · rename_i hx
      simp only [Res.bind_stuck]
      try (split; · exact (hx _ _ rfl).elim; · rfl)
  | err => rfl
  | stuck => rfl
theorem kR1_ok {j : Int} (h : -(2 ^ 62) ≤ j) (h' : j < 2 ^ 62) : kR1 [.int j] st = .ok ⟨intsW 0 j.toNat, none⟩ st := by
  show rangeW 0 j st = _
  unfold rangeW
  rw [if_pos ⟨by decide, by decide, h, h'⟩, Int.sub_zero]
theorem kR2_ok {i j : Int} (h0 : 0 ≤ i) (h1 : i < 2 ^ 62) (h : 0 ≤ j) (h' : j < 2 ^ 62) : kR2 [.int i, .int j] st = .ok ⟨intsW i (j - i).toNat, none⟩ st := by
  show rangeW i j st = _
  unfold rangeW
  rw [if_pos ⟨by omega, h1, by omega, h'⟩]
@[simp] theorem itOf_tup (ws : List W) : itOf (.tup ws) st = .ok ⟨ws, none⟩ st := rfl
@[simp] theorem itOf_fro (ws : List W) : itOf (.fro ws) st = .ok ⟨ws, none⟩ st := rfl
@[simp] theorem itOf_str (x : Str) : itOf (.str x) st = .ok ⟨signs x, none⟩ st := rfl
theorem itOf_loc {n : Nat} {ws : List W} (h : st[n]? = some (.lst ws)) : itOf (.loc n) st = .ok ⟨ws, some n⟩ st := by
  unfold itOf; simp only [h]
end
/-! statements -/
def kExpr (env : EnvW) (_ : W) (st : Store) : RsS := .go .nx env st
def kRet (env : EnvW) (a : W) (st : Store) : RsS := .go (.rt a) env st
def kSIf (a b : DS) (env : EnvW) (k : Bool) (st : Store) : RsS := if k = true then a env st else b env st
def kAsg (t : DT) (env : EnvW) (a : W) (st : Store) : RsS := match t a env st with
  | some (env', st2) => .go .nx env' st2
  | none => .stuck
def kFor (t : DT) (b : DS) (env : EnvW) (it : ItW) (st : Store) : RsS := forW it.Chk t b it.items env st
def kRaise (x : Str) (env : EnvW) (l : List W) (st : Store) : RsS := match l with
  | [w] => .err x w env st
  | _ => .stuck
def kTry (i : Nat) (sub : Str → Option Bool) (su : Str → W → DS) : RsS → RsS
  | .err c w env1 st1 => match sub c with
    | some true => if i < env1.length then unAt i (su c w (env1.set i none) st1) else .stuck
    | some false => .err c w env1 st1
    | none => .stuck
  | r => r
section
variable {env : EnvW} {st st1 : Store} {m : D W} {a b : DS}
@[simp] theorem sSeq_ap : sSeq a b env st = (a env st).next b := rfl
@[simp] theorem RsS.next_er (c : Str) (w : W) (k) : (RsS.err c w env st).next k = .err c w env st := rfl
@[simp] theorem sNil_ap : sNil env st = .go .nx env st := rfl
@[simp] theorem sExpr_ap : sExpr m env st = (m env st).then env (kExpr env) := rfl
@[simp] theorem kExpr_ap (w : W) : kExpr env w st = .go .nx env st := rfl
@[simp] theorem sRet_ap : sRet m env st = (m env st).then env (kRet env) := rfl
@[simp] theorem kRet_ap (w : W) : kRet env w st = .go (.rt w) env st := rfl
@[simp] theorem sIf_ap (c : D Bool) : sIf c a b env st = (c env st).then env (kSIf a b env) := rfl
@[simp] theorem kSIf_t : kSIf a b env true st = a env st := rfl
@[simp] theorem kSIf_f : kSIf a b env false st = b env st := rfl
@[simp] theorem sAsg_ap (t : DT) : sAsg m t env st = (m env st).then env (kAsg t env) := rfl
@[simp] theorem kAsg_n (i : Nat) (w : W) : kAsg (tName i) env w st = .go .nx (env.set i (some w)) st := rfl
@[simp] theorem tName_ap (i : Nat) (w : W) : tName i w env st = some (env.set i (some w), st) := rfl
@[simp] theorem sFor_ap (m : D ItW) (t : DT) : sFor m t b env st = (m env st).then env (kFor t b env) := rfl
@[simp] theorem sRaise_ap (x : Str) (m : D (List W)) : sRaise x m env st = (m env st).then env (kRaise x env) := rfl
@[simp] theorem kRaise_ap (x : Str) (w : W) : kRaise x env [w] st = .err x w env st := rfl
@[simp] theorem sTryAs_ap (i : Nat) (sub : Str → Option Bool) (su : Str → W → DS) : sTryAs i b sub su env st = kTry i sub su (b env st) := by
  unfold sTryAs kTry
  cases b env st <;> rfl
@[simp] theorem kTry_go (i : Nat) (sub : Str → Option Bool) (su : Str → W → DS) (f : Fl) : kTry i sub su (.go f env st) = .go f env st := rfl
theorem kTry_err {i : Nat} {sub : Str → Option Bool} {su : Str → W → DS} {c : Str} {w : W} (h : sub c = some true) (hi : i < env.length) : kTry i sub su (.err c w env st) = unAt i (su c w (env.set i none) st) := by
  unfold kTry; simp only [h, if_pos hi]
@[simp] theorem unAt_go (i : Nat) (f : Fl) : unAt i (.go f env st) = .go f (env.set i none) st := rfl
/-! a def's end -/
def fnR (st0 : Store) : RsS → Res W
  | .go (.rt v) _ st' => gc st0 v st'
  | .go .nx _ st' => gc st0 .non st'
  | .err c w _ st' => .err c w st'
  | _ => .stuck
theorem fnDen_ap (k : Nat) (ws : List W) : fnDen k b ws st = fnR st (b (ws.map some ++ List.replicate (k - ws.length) none) st) := by
  unfold fnDen fnR
  split <;> rename_i h <;> simp only [h]
@[simp] theorem fnR_rt (v : W) : fnR st1 (.go (.rt v) env st) = gc st1 v st := rfl
@[simp] theorem fnR_nx : fnR st1 (.go .nx env st) = gc st1 .non st := rfl
@[simp] theorem fnR_err (c : Str) (w : W) : fnR st1 (.err c w env st) = .err c w st := rfl
end
/-! stores -/
/-- later, but for the list at p: what was there is there -/
structure Ext (p : Nat) (st st' : Store) : Prop where
  le : st.length ≤ st'.length
  keep : ∀ i, i < st.length → i ≠ p → st'[i]? = st[i]?
/-- the same, and nothing new -/
structure Kp (p : Nat) (st st' : Store) : Prop where
  len : st'.length = st.length
  keep : ∀ i, i ≠ p → st'[i]? = st[i]?
theorem Kp.ext {p : Nat} {st st' : Store} (h : Kp p st st') : Ext p st st' := ⟨by rw [h.len]; exact Nat.le_refl _, fun i _ hp => h.keep i hp⟩
theorem Ext.refl {p : Nat} {st : Store} : Ext p st st := ⟨Nat.le_refl _, fun _ _ _ => rfl⟩
theorem Kp.refl {p : Nat} {st : Store} : Kp p st st := ⟨rfl, fun _ _ => rfl⟩
theorem Ext.trans {p : Nat} {a b c : Store} (h : Ext p a b) (h' : Ext p b c) : Ext p a c :=
  ⟨Nat.le_trans h.le h'.le, fun i hi hp => (h'.keep i (Nat.lt_of_lt_of_le hi h.le) hp).trans (h.keep i hi hp)⟩
theorem Kp.trans {p : Nat} {a b c : Store} (h : Kp p a b) (h' : Kp p b c) : Kp p a c :=
  ⟨h'.len.trans h.len, fun i hp => (h'.keep i hp).trans (h.keep i hp)⟩
theorem Ext.app {p : Nat} {st : Store} (g : Store) : Ext p st (st ++ g) := ⟨by simp, fun i hi _ => List.getElem?_append_left hi⟩
theorem Ext.get {p i : Nat} {o : Ob} {st st' : Store} (h : Ext p st st') (e : st[i]? = some o) (hp : i ≠ p) : st'[i]? = some o := by
  rw [h.keep i (List.getElem?_eq_some_iff.mp e).1 hp, e]
theorem get_app {i : Nat} {o : Ob} {st : Store} (g : Store) (e : st[i]? = some o) : (st ++ g)[i]? = some o := by
  rw [List.getElem?_append_left (List.getElem?_eq_some_iff.mp e).1, e]
@[simp] theorem get_here (st : Store) (o : Ob) (g : Store) : (st ++ o :: g)[st.length]? = some o := by simp
@[simp] theorem get_here1 (st : Store) (o o1 : Ob) (g : Store) : (st ++ o :: o1 :: g)[st.length + 1]? = some o1 := by simp
@[simp] theorem get_here2 (st : Store) (o o1 o2 : Ob) (g : Store) : (st ++ o :: o1 :: o2 :: g)[st.length + 2]? = some o2 := by simp
/-- a list whose items need no store -/
def flatO : Ob → Prop | .lst ws => ∀ n, clBs n ws = true
theorem flatO.cl {o : Ob} (h : flatO o) (n : Nat) : clO n o = true := by
  cases o with
  | lst ws => exact h n
theorem gcx_ok {p : Nat} {st st' : Store} {v : W} (h : Ext p st st') (hp : ∀ o, p < st.length → st'[p]? = some o → flatO o) (hv : clB st.length v = true) : gc st v st' = .ok v (st'.take st.length) := by
  have g : GcOk st st' := fun i hi => by
    by_cases e : i = p
    · subst e
      have hl : i < st'.length := Nat.lt_of_lt_of_le hi h.le
      exact .inr ⟨st'[i], List.getElem?_eq_getElem hl, (hp _ hi (List.getElem?_eq_getElem hl)).cl _⟩
    · exact .inl (h.keep i hi e)
  unfold gc; rw [if_pos g, if_pos hv]
theorem Ext.take {p : Nat} {st st' : Store} (h : Ext p st st') : Kp p st (st'.take st.length) :=
  ⟨by simp [h.le], fun i hp => by
    rw [List.getElem?_take]
    split
    · rename_i hi; exact h.keep i hi hp
    · rename_i hi; rw [List.getElem?_eq_none (Nat.le_of_not_lt hi)]⟩
theorem gc_app {st g : Store} {v : W} (hv : clB st.length v = true) : gc st v (st ++ g) = .ok v st := by
  have e : GcOk st (st ++ g) := fun i hi => .inl (List.getElem?_append_left hi)
  unfold gc; rw [if_pos e, if_pos hv, List.take_left]
theorem gc_same {st : Store} {v : W} (hv : clB st.length v = true) : gc st v st = .ok v st := by
  have := gc_app (g := []) hv; rwa [List.append_nil] at this
theorem gc_new {p m : Nat} {st st' : Store} {ws : List W} (h : Ext p st st') (hp : ∀ o, p < st.length → st'[p]? = some o → flatO o) (hm : st.length ≤ m) (e : st'[m]? = some (.lst ws)) (hw : clBs st.length ws = true) : gc st (.loc m) st' = .ok (.loc st.length) (st'.take st.length ++ [.lst ws]) := by
  have g : GcOk st st' := fun i hi => by
    by_cases e : i = p
    · subst e
      have hl : i < st'.length := Nat.lt_of_lt_of_le hi h.le
      exact .inr ⟨st'[i], List.getElem?_eq_getElem hl, (hp _ hi (List.getElem?_eq_getElem hl)).cl _⟩
    · exact .inl (h.keep i hi e)
  have hv : ¬ clB st.length (.loc m) = true := by simp [clB]; omega
  unfold gc; rw [if_pos g, if_neg hv]
  simp only [e, if_pos hw]
theorem gc_newA {m : Nat} {st g : Store} {ws : List W} (hm : st.length ≤ m) (e : (st ++ g)[m]? = some (.lst ws)) (hw : clBs st.length ws = true) : gc st (.loc m) (st ++ g) = .ok (.loc st.length) (st ++ [.lst ws]) := by
  have := gc_new (p := st.length) (Ext.app g) (fun o h _ => absurd h (Nat.lt_irrefl _)) hm e hw
  rwa [List.take_left] at this
/-! loops -/
theorem forW_ok {chk : Store → Prop} {t : DT} {b : DS} (I : Nat → EnvW → Store → Prop) (hc : ∀ i env st, I i env st → chk st) : ∀ (ws : List W) (k : Nat) (env : EnvW) (st : Store),
    (∀ i w env st, ws[i]? = some w → I (k + i) env st → ∃ env1 st1 env2 st2, t w env st = some (env1, st1) ∧ b env1 st1 = .go .nx env2 st2 ∧ I (k + i + 1) env2 st2) → I k env st →
    ∃ env' st', forW chk t b ws env st = .go .nx env' st' ∧ I (k + ws.length) env' st'
  | [], k, env, st, _, h => ⟨env, st, by unfold forW; rw [if_pos (hc _ _ _ h)], h⟩
  | w :: ws, k, env, st, hs, h => by
    obtain ⟨env1, st1, env2, st2, e1, e2, h2⟩ := hs 0 w env st rfl h
    obtain ⟨env', st', e3, h3⟩ := forW_ok I hc ws (k + 1) env2 st2 (fun i w env st hw hI => by
      have := hs (i + 1) w env st (by simpa using hw) (by rwa [show k + (i + 1) = k + 1 + i by omega])
      rwa [show k + (i + 1) + 1 = k + 1 + i + 1 by omega] at this) h2
    refine ⟨env', st', ?_, ?_⟩
    · unfold forW
      rw [if_pos (hc _ _ _ h), e1]
      dsimp only
      rw [e2]; exact e3
    · rw [List.length_cons, show k + (ws.length + 1) = k + 1 + ws.length by omega]; exact h3
theorem lcW_ok {chk : Store → Prop} {env : EnvW} {t : DT} {e : D W} (J : Nat → List W → Store → Prop) (hc : ∀ i acc st, J i acc st → chk st) : ∀ (ws acc : List W) (st : Store),
    (∀ i w acc st, ws[i]? = some w → acc.length + ws.length ≤ acc.length + ws.length → J i acc st → ∃ env1 st1 y st3, t w env st = some (env1, st1) ∧ e env1 st1 = .ok y st3 ∧ J (i + 1) (acc ++ [y]) st3) → acc.length + ws.length ≤ sizeLine → J 0 acc st →
    ∃ l st', lcW chk env t dYes e ws acc st = some (acc ++ l, st') ∧ l.length = ws.length ∧ J ws.length (acc ++ l) st'
  | [], acc, st, _, _, h => ⟨[], st, by unfold lcW; rw [if_pos (hc _ _ _ h), List.append_nil], rfl, by simpa using h⟩
  | w :: ws, acc, st, hs, hl, h => by
    obtain ⟨env1, st1, y, st3, e1, e2, h2⟩ := hs 0 w acc st rfl (Nat.le_refl _) h
    simp only [List.length_cons] at hl
    obtain ⟨l, st', e3, hn, h3⟩ := lcW_ok (fun i => J (i + 1)) (fun i => hc (i + 1)) ws (acc ++ [y]) st3 (fun i w acc st hw _ hI => hs (i + 1) w acc st (by simpa using hw) (Nat.le_refl _) hI) (by simp; omega) h2
    refine ⟨y :: l, st', ?_, by simp [hn], ?_⟩
    · unfold lcW
      rw [if_pos (hc _ _ _ h), e1]
      dsimp only [dYes]
      rw [e2]
      dsimp only
      rw [if_pos (by omega), e3]; simp
    · simpa using h3
/-- each item by itself: the store stays -/
theorem lcW_map {chk : Store → Prop} {env : EnvW} {i : Nat} {e : D W} {st : Store} (f : W → W) (hc : chk st) {ws : List W} (hs : ∀ w ∈ ws, e (env.set i (some w)) st = .ok (f w) st) (hl : ws.length ≤ sizeLine) :
    lcW chk env (tName i) dYes e ws [] st = some (ws.map f, st) := by
  have key : ∀ (ws acc : List W), (∀ w ∈ ws, e (env.set i (some w)) st = .ok (f w) st) → acc.length + ws.length ≤ sizeLine → lcW chk env (tName i) dYes e ws acc st = some (acc ++ ws.map f, st) := by
    intro ws
    induction ws with
    | nil => intro acc _ _; unfold lcW; rw [if_pos hc]; simp
    | cons w ws ih =>
      intro acc hs hl
      simp only [List.length_cons] at hl
      unfold lcW
      rw [if_pos hc]
      dsimp only [tName, dYes]
      rw [hs w List.mem_cons_self]
      dsimp only
      rw [if_pos (by omega), ih (acc ++ [f w]) (fun w m => hs w (List.mem_cons_of_mem _ m)) (by simp; omega)]
      simp
  have := key ws [] hs (by simpa using hl)
  simpa using this
theorem kLc_map {env : EnvW} {i : Nat} {e : D W} {st : Store} {it : ItW} (f : W → W) (hc : it.Chk st) (hs : ∀ w ∈ it.items, e (env.set i (some w)) st = .ok (f w) st) (hl : it.items.length ≤ sizeLine) :
    kLc env (tName i) dYes e it st = .ok (.loc st.length) (st ++ [.lst (it.items.map f)]) := by
  unfold kLc; rw [lcW_map f hc hs hl]
theorem kLc_ok {env : EnvW} {i : Nat} {e : D W} {st : Store} {ws : List W} (J : Nat → List W → Store → Prop)
    (hs : ∀ k w acc st, ws[k]? = some w → J k acc st → ∃ y st3, e (env.set i (some w)) st = .ok y st3 ∧ J (k + 1) (acc ++ [y]) st3) (hl : ws.length ≤ sizeLine) (h : J 0 [] st) :
    ∃ l st', kLc env (tName i) dYes e ⟨ws, none⟩ st = .ok (.loc st'.length) (st' ++ [.lst l]) ∧ l.length = ws.length ∧ J ws.length l st' := by
  obtain ⟨l, st', e1, hn, h1⟩ := lcW_ok (chk := (ItW.mk ws none).Chk) (env := env) (t := tName i) (e := e) J (fun _ _ _ _ => by simp) ws [] st (fun k w acc st hw _ hJ => by
    obtain ⟨y, st3, e2, h2⟩ := hs k w acc st hw hJ
    exact ⟨_, _, y, st3, rfl, e2, h2⟩) (by simpa using hl) h
  refine ⟨l, st', ?_, hn, by simpa using h1⟩
  unfold kLc
  simp only [List.nil_append] at e1
  rw [e1]
theorem allO_of {α β : Type} (f : α → Option β) (g : α → β) : ∀ (l : List α), (∀ a ∈ l, f a = some (g a)) → allO (l.map f) = some (l.map g)
  | [], _ => rfl
  | a :: l, h => by
    show allO (f a :: l.map f) = _
    rw [h a List.mem_cons_self]
    show (allO (l.map f)).map _ = _
    rw [allO_of f g l (fun a m => h a (List.mem_cons_of_mem _ m))]; rfl
theorem allW_ok {st : Store} {n : Nat} {bs : List Bool} (h : st[n]? = some (.lst (bs.map W.bl))) : allW [.loc n] st = .ok (.bl (bs.all id)) st := by
  unfold allW bls lstW
  simp only [h, Option.bind_some, List.map_map]
  have e : allO (bs.map (blOf ∘ W.bl)) = some (bs.map id) := allO_of _ id _ fun _ _ => rfl
  rw [e]
  simp
end
end MP
namespace MP
open PySem PySem.Spec PyProof.Rows L2
open Classical
noncomputable section
/-! ### values without a store -/
def okS (x : Str) : Bool := decide (x.length ≤ 8192) && x.cps.toList.all (fun c => decide (c < 128))
theorem okS_iff {x : Str} : okS x = true ↔ x.length ≤ 8192 ∧ ∀ c ∈ x.cps.toList, c < 128 := by
  unfold okS; rw [Bool.and_eq_true, decide_eq_true_iff, List.all_eq_true]; simp only [decide_eq_true_eq]
theorem okS.ok {x : Str} (h : okS x = true) : PyData.strOk x = true := by
  obtain ⟨_, h⟩ := okS_iff.mp h
  unfold PyData.strOk
  rw [Array.all_eq_true]
  intro i hi
  have := h x.cps[i] (by simp)
  simp; omega
theorem okS.len {x : Str} (h : okS x = true) : x.length ≤ 8192 := (okS_iff.mp h).1
theorem okS.line {x : Str} (h : okS x = true) : x.length ≤ sizeLine := Nat.le_trans (okS_iff.mp h).1 (by decide)
def puB : Nat → W → Bool
  | 0, _ => false
  | n + 1, w => match w with
    | .non => true
    | .bl _ => true
    | .int _ => true
    | .str x => okS x
    | .tup ws => decide (ws.length ≤ 8192) && ws.all (puB n)
    | _ => false
def dat : Nat → W → PyData
  | 0, _ => .none
  | n + 1, w => match w with
    | .non => .none
    | .bl b => .bool b
    | .int i => .int i
    | .str x => .str x
    | .tup ws => .tuple (ws.map (dat n))
    | _ => .none
theorem datF_pu : ∀ (n : Nat) (w : W), puB n w = true → ∀ (m : Nat) (st : Store), n ≤ m → datF st m w = some (dat n w)
  | 0, _, h, _, _, _ => by simp [puB] at h
  | n + 1, w, h, 0, st, hm => by omega
  | n + 1, w, h, m + 1, st, hm => by
    cases w with
    | non => rfl
    | bl => rfl
    | int => rfl
    | str => rfl
    | tup ws =>
      simp only [puB, Bool.and_eq_true, List.all_eq_true] at h
      simp only [datF, dat]
      rw [allO_of _ (dat n) ws fun a ha => datF_pu n a (h.2 a ha) m st (by omega)]; rfl
    | fro ws => simp [puB] at h
    | loc k => simp [puB] at h
    | gl v => simp [puB] at h
    | rng i j => simp [puB] at h
theorem canAll {f : W → PyData} : ∀ {ws : List W}, (∀ w ∈ ws, (f w).canLay0 = true) → PyData.canLayAll0 (ws.map f) = true
  | [], _ => rfl
  | w :: ws, h => by
    rw [List.map_cons, PyData.canLayAll0.eq_2, h w List.mem_cons_self, canAll fun w m => h w (List.mem_cons_of_mem _ m)]; rfl
theorem depAll {f : W → PyData} {n : Nat} : ∀ {ws : List W}, (∀ w ∈ ws, (f w).depth ≤ n) → PyData.depthAll (ws.map f) ≤ n
  | [], _ => Nat.zero_le _
  | w :: ws, h => by
    rw [List.map_cons, PyData.depthAll.eq_2]
    exact Nat.max_le.mpr ⟨h w List.mem_cons_self, depAll fun w m => h w (List.mem_cons_of_mem _ m)⟩
theorem eqvAll_refl {f : W → PyData} : ∀ {ws : List W}, (∀ w ∈ ws, (f w).eqv (f w) = true) → PyData.eqvAll (ws.map f) (ws.map f) = true
  | [], _ => rfl
  | w :: ws, h => by
    rw [List.map_cons, PyData.eqvAll.eq_2, h w List.mem_cons_self, eqvAll_refl fun w m => h w (List.mem_cons_of_mem _ m)]; rfl
theorem can_pu : ∀ (n : Nat) (w : W), puB n w = true → (dat n w).canLay0 = true
  | 0, _, h => by simp [puB] at h
  | n + 1, w, h => by
    cases w with
    | str x => exact okS.ok h
    | tup ws =>
      simp only [puB, Bool.and_eq_true, List.all_eq_true] at h
      exact canAll fun a ha => can_pu n a (h.2 a ha)
    | _ => rfl
theorem dep_pu : ∀ (n : Nat) (w : W), puB n w = true → (dat n w).depth ≤ n
  | 0, _, h => by simp [puB] at h
  | n + 1, w, h => by
    cases w with
    | tup ws =>
      simp only [puB, Bool.and_eq_true, List.all_eq_true] at h
      simp only [dat]
      rw [PyData.depth.eq_2]
      exact Nat.succ_le_succ (depAll fun a ha => dep_pu n a (h.2 a ha))
    | _ => exact Nat.zero_le _
theorem eqv_pu : ∀ (n : Nat) (w : W), puB n w = true → (dat n w).eqv (dat n w) = true
  | 0, _, h => by simp [puB] at h
  | n + 1, w, h => by
    cases w with
    | tup ws =>
      simp only [puB, Bool.and_eq_true, List.all_eq_true] at h
      simp only [dat]
      rw [PyData.eqv.eq_8]
      exact eqvAll_refl fun a ha => eqv_pu n a (h.2 a ha)
    | bl b => simp only [dat]; rw [PyData.eqv.eq_2]; simp
    | int b => simp only [dat]; rw [PyData.eqv.eq_5]; simp
    | str b => simp only [dat]; rw [PyData.eqv.eq_6]; simp
    | non => rfl
    | _ => simp [puB] at h
mutual
theorem cl_pu (k : Nat) : ∀ (n : Nat) (w : W), puB n w = true → clB k w = true
  | 0, _, h => by simp [puB] at h
  | n + 1, w, h => by
    cases w with
    | tup ws =>
      simp only [puB, Bool.and_eq_true, List.all_eq_true] at h
      simp only [clB]
      exact cls_pu k n ws h.2
    | _ => first | rfl | simp [puB] at h
theorem cls_pu (k : Nat) : ∀ (n : Nat) (ws : List W), (∀ w ∈ ws, puB n w = true) → clBs k ws = true
  | n, [], _ => rfl
  | n, w :: ws, h => by
    simp only [clBs, Bool.and_eq_true]
    exact ⟨cl_pu k n w (h w List.mem_cons_self), cls_pu k n ws fun w m => h w (List.mem_cons_of_mem _ m)⟩
end
/-- depth enough for what the laws draw -/
abbrev pu (w : W) : Prop := puB 5 w = true
abbrev d5 (w : W) : PyData := dat 5 w
/-- u: the value w as it stands in the store -/
inductive Pic (st : Store) : W → W → Prop
  | pu (w : W) (h : pu w) : Pic st w w
  | ls (k : Nat) (ws : List W) (h : st[k]? = some (.lst ws)) (hl : ws.length ≤ 8192) (hw : ∀ w ∈ ws, pu w) : Pic st (.loc k) (.fro ws)
def dU : W → PyData
  | .fro ws => .list (ws.map d5)
  | w => d5 w
theorem dU_pu {w : W} (h : pu w) : dU w = d5 w := by cases w <;> first | rfl | exact nomatch (show false = true from h)
theorem Pic.dat {st : Store} {w u : W} (h : Pic st w u) (m : Nat) (hm : 6 ≤ m) : datF st m w = some (dU u) := by
  cases h with
  | pu _ h => rw [dU_pu h]; exact datF_pu 5 w h m st (by omega)
  | ls k ws h hl hw =>
    obtain ⟨m, rfl⟩ : ∃ m', m = m' + 1 := ⟨m - 1, by omega⟩
    simp only [datF, h, dU]
    rw [allO_of _ d5 ws fun a ha => datF_pu 5 a (hw a ha) m st (by omega)]; rfl
theorem Pic.shp {st : Store} {w u : W} (h : Pic st w u) : (dU u).canLay0 = true ∧ (dU u).depth ≤ 6 := by
  cases h with
  | pu _ h => rw [dU_pu h]; exact ⟨can_pu 5 w h, Nat.le_trans (dep_pu 5 w h) (by decide)⟩
  | ls k ws h hl hw =>
    simp only [dU]
    exact ⟨canAll fun a ha => can_pu 5 a (hw a ha), by rw [PyData.depth.eq_1]; exact Nat.succ_le_succ (depAll fun a ha => dep_pu 5 a (hw a ha))⟩
theorem Pic.refl {st : Store} {w u : W} (h : Pic st w u) : (dU u).eqv (dU u) = true := by
  cases h with
  | pu _ h => rw [dU_pu h]; exact eqv_pu 5 w h
  | ls k ws h hl hw =>
    simp only [dU]; rw [PyData.eqv.eq_7]
    exact eqvAll_refl fun a ha => eqv_pu 5 a (hw a ha)
theorem shaped_of {d : PyData} (h : d.canLay0 = true ∧ d.depth ≤ 64) : SeqAt.shaped d = true := by
  rw [SeqAt.shaped.eq_1, h.1]; simp [h.2]
theorem eqW_of {st : Store} {a b : W} {d e : PyData} (h : datF st 66 a = some d) (h' : datF st 66 b = some e) (s : SeqAt.shaped d = true) (s' : SeqAt.shaped e = true) : eqW a b st = .ok (.bl (d.eqv e)) st := by
  unfold eqW; simp only [h, h', if_pos (And.intro s s')]
theorem neW_of {st : Store} {a b : W} {d e : PyData} (h : datF st 66 a = some d) (h' : datF st 66 b = some e) (s : SeqAt.shaped d = true) (s' : SeqAt.shaped e = true) : neW a b st = .ok (.bl (!d.eqv e)) st := by
  unfold neW; simp only [h, h', if_pos (And.intro s s')]
theorem pic_eq {st : Store} {a b u v : W} (h : Pic st a u) (h' : Pic st b v) : eqW a b st = .ok (.bl ((dU u).eqv (dU v))) st :=
  eqW_of (h.dat 66 (by decide)) (h'.dat 66 (by decide)) (shaped_of ⟨h.shp.1, by have := h.shp.2; omega⟩) (shaped_of ⟨h'.shp.1, by have := h'.shp.2; omega⟩)
theorem pic_ne {st : Store} {a b u v : W} (h : Pic st a u) (h' : Pic st b v) : neW a b st = .ok (.bl (!(dU u).eqv (dU v))) st :=
  neW_of (h.dat 66 (by decide)) (h'.dat 66 (by decide)) (shaped_of ⟨h.shp.1, by have := h.shp.2; omega⟩) (shaped_of ⟨h'.shp.1, by have := h'.shp.2; omega⟩)
theorem pu_str {x : Str} (h : okS x = true) : pu (.str x) := h
theorem eqW_str {st : Store} {x y : Str} (h : okS x = true) (h' : okS y = true) : eqW (.str x) (.str y) st = .ok (.bl (x == y)) st := by
  rw [pic_eq (.pu _ (pu_str h)) (.pu _ (pu_str h'))]
  simp only [dU, d5, dat, PyData.eqv.eq_6]
theorem neW_str {st : Store} {x y : Str} (h : okS x = true) (h' : okS y = true) : neW (.str x) (.str y) st = .ok (.bl (!(x == y))) st := by
  rw [pic_ne (.pu _ (pu_str h)) (.pu _ (pu_str h'))]
  simp only [dU, d5, dat, PyData.eqv.eq_6]
@[simp] theorem eqW_int {st : Store} {x y : Int} : eqW (.int x) (.int y) st = .ok (.bl (x == y)) st := by
  rw [pic_eq (.pu _ rfl) (.pu _ rfl)]
  simp only [dU, d5, dat, PyData.eqv.eq_5]
@[simp] theorem eqW_bl {st : Store} {x y : Bool} : eqW (.bl x) (.bl y) st = .ok (.bl (x == y)) st := by
  rw [pic_eq (.pu _ rfl) (.pu _ rfl)]
  simp only [dU, d5, dat, PyData.eqv.eq_2]
@[simp] theorem neW_bl {st : Store} {x y : Bool} : neW (.bl x) (.bl y) st = .ok (.bl (!(x == y))) st := by
  rw [pic_ne (.pu _ rfl) (.pu _ rfl)]
  simp only [dU, d5, dat, PyData.eqv.eq_2]
/-! what is asked of a value -/
def tyU : W → String
  | .non => "NoneType"
  | .bl _ => "bool"
  | .int _ => "int"
  | .str _ => "str"
  | .tup _ => "tuple"
  | .rng _ _ => "NoneType"
  | _ => "list"
theorem Pic.ty {st : Store} {w u : W} (h : Pic st w u) : tyN st w = some (tyU u) := by
  cases h with
  | pu _ h => cases w <;> first | rfl | exact nomatch (show false = true from h)
  | ls k ws h hl hw => simp only [tyN, h, tyU]
theorem isi_of {st : Store} {w : W} {t n : String} {b : Bool} (h : tyN st w = some t) (hk : kitB t n = some b) : isiW [w, .gl (.ty n)] st = .ok (.bl b) st := by
  unfold isiW; simp only [h, hk]
theorem isi2_of {st : Store} {w : W} {t A B : String} {x y : Bool} (h : tyN st w = some t) (hA : kitB t A = some x) (hB : kitB t B = some y) : isi2W A B w st = .ok (.bl (x || y)) st := by
  unfold isi2W; simp only [h, hA, hB]
theorem kB_str (u : W) : kitB (tyU u) "str" = some (match u with | .str _ => true | _ => false) := by cases u <;> rfl
theorem kB_tup (u : W) : kitB (tyU u) "tuple" = some (match u with | .tup _ => true | _ => false) := by cases u <;> rfl
theorem kB_list (u : W) : kitB (tyU u) "list" = some (match u with | .fro _ => true | .loc _ => true | .gl _ => true | _ => false) := by cases u <;> rfl
theorem kB_bool (u : W) : kitB (tyU u) "bool" = some (match u with | .bl _ => true | _ => false) := by cases u <;> rfl
theorem kB_int (u : W) : kitB (tyU u) "int" = some (match u with | .bl _ => true | .int _ => true | _ => false) := by cases u <;> rfl
def isS : W → Bool | .str _ => true | _ => false
def isT : W → Bool | .tup _ => true | _ => false
def isL : W → Bool | .fro _ => true | .loc _ => true | .gl _ => true | _ => false
theorem pic_isS {st : Store} {w u : W} (h : Pic st w u) : isiW [w, .gl (.ty "str")] st = .ok (.bl (isS u)) st := isi_of h.ty (by rw [kB_str]; cases u <;> rfl)
theorem pic_isT {st : Store} {w u : W} (h : Pic st w u) : isiW [w, .gl (.ty "tuple")] st = .ok (.bl (isT u)) st := isi_of h.ty (by rw [kB_tup]; cases u <;> rfl)
theorem pic_isL {st : Store} {w u : W} (h : Pic st w u) : isiW [w, .gl (.ty "list")] st = .ok (.bl (isL u)) st := isi_of h.ty (by rw [kB_list]; cases u <;> rfl)
theorem pic_is2 {st : Store} {w u : W} (h : Pic st w u) : isi2W "tuple" "list" w st = .ok (.bl (isT u || isL u)) st := isi2_of h.ty (by rw [kB_tup]; cases u <;> rfl) (by rw [kB_list]; cases u <;> rfl)
/-! places -/
theorem atI_nat {α : Type} {l : List α} {i : Nat} (h : i < l.length) : atI l (i : Int) = l[i]? := by
  unfold atI ixN
  rw [if_pos (by omega), if_pos (by omega)]
  simp
theorem atI_int {α : Type} {l : List α} {i : Int} (h0 : 0 ≤ i) (h : i < l.length) : atI l i = l[i.toNat]? := by
  have := atI_nat (l := l) (i := i.toNat) (by omega)
  rwa [Int.toNat_of_nonneg h0] at this
theorem atI_last {α : Type} {l : List α} (h : 0 < l.length) : atI l (-1) = l[l.length - 1]? := by
  unfold atI ixN
  rw [if_neg (by omega), if_pos (by omega)]
  have : ((-1 : Int) + (l.length : Int)).toNat = l.length - 1 := by omega
  simp [this]
theorem ix_mem {st : Store} {a : W} {ws : List W} {i : Int} (h : seqW st a = some ws) (h0 : 0 ≤ i) (hi : i < ws.length) : ∃ w, w ∈ ws ∧ ws[i.toNat]? = some w ∧ ixW a (.int i) st = .ok w st := by
  have hl : i.toNat < ws.length := by omega
  refine ⟨ws[i.toNat], List.getElem_mem hl, List.getElem?_eq_getElem hl, ?_⟩
  unfold ixW
  cases a with
  | str z => simp [seqW] at h
  | _ => simp only [h, atI_int h0 hi, List.getElem?_eq_getElem hl]
theorem ix_str {x : Str} {i : Int} (hx : x.length ≤ sizeLine) (h0 : 0 ≤ i) (hi : i < x.length) : ∃ c, x.cps.toList[i.toNat]? = some c ∧ c ∈ x.cps.toList ∧ ∀ st, ixW (.str x) (.int i) st = .ok (.str ⟨#[c]⟩) st := by
  have hl : i.toNat < x.cps.toList.length := by simp [Str.length] at hi; simp; omega
  refine ⟨x.cps.toList[i.toNat], List.getElem?_eq_getElem hl, List.getElem_mem hl, fun st => ?_⟩
  have hi' : i < x.cps.toList.length := by omega
  unfold ixW
  simp only [if_pos hx, atI_int h0 hi', List.getElem?_eq_getElem hl]
theorem ix_strL {x : Str} (hx : x.length ≤ sizeLine) (h : 0 < x.length) : ∃ c, x.cps.toList[x.length - 1]? = some c ∧ c ∈ x.cps.toList ∧ ∀ st, ixW (.str x) (.int (-1)) st = .ok (.str ⟨#[c]⟩) st := by
  have e : x.cps.toList.length = x.length := by simp [Str.length]
  have hl : x.cps.toList.length - 1 < x.cps.toList.length := by omega
  refine ⟨x.cps.toList[x.cps.toList.length - 1], by rw [← e]; exact List.getElem?_eq_getElem hl, List.getElem_mem hl, fun st => ?_⟩
  unfold ixW
  simp only [if_pos hx, atI_last (l := x.cps.toList) (by omega), List.getElem?_eq_getElem hl]
theorem in_sign {st : Store} {c : Nat} {z : Str} : inW false (.str ⟨#[c]⟩) (.str z) st = .ok (.bl (decide (c ∈ z.cps.toList))) st := rfl
theorem len_str {st : Store} {x : Str} (h : x.length ≤ sizeLine) : lenW [.str x] st = .ok (.int x.length) st := by unfold lenW; simp only [if_pos h]
theorem len_seq {st : Store} {a : W} {ws : List W} (h : seqW st a = some ws) : lenW [a] st = .ok (.int ws.length) st := by
  unfold lenW
  cases a with
  | str z => simp [seqW] at h
  | _ => simp only [h]
theorem cut_to {ws : List W} {k : Nat} : cutW ws none (some (k : Int)) = ws.take k := by
  unfold cutW HT.sIx
  simp only [List.drop_zero, Nat.sub_zero]
  rw [if_neg (by omega)]
  simp only [Int.toNat_natCast]
  rw [← List.take_take, List.take_length]
theorem cut_from {ws : List W} {k : Nat} : cutW ws (some (k : Int)) none = ws.drop k := by
  unfold cutW HT.sIx
  simp only
  rw [if_neg (by omega)]
  simp only [Int.toNat_natCast]
  by_cases h : k ≤ ws.length
  · rw [Nat.min_eq_left h, List.take_of_length_le (by simp)]
  · rw [Nat.min_eq_right (by omega), List.drop_of_length_le (Nat.le_refl _), List.drop_of_length_le (by omega)]; simp
theorem lcW_mapB {β : Type} {chk : Store → Prop} {env : EnvW} {i : Nat} {e : D W} {st : Store} (k g : β → W) (hc : chk st) : ∀ (l : List β) (acc : List W), (∀ b ∈ l, e (env.set i (some (k b))) st = .ok (g b) st) → acc.length + l.length ≤ sizeLine →
    lcW chk env (tName i) dYes e (l.map k) acc st = some (acc ++ l.map g, st)
  | [], acc, _, _ => by unfold lcW; simp only [List.map_nil]; rw [if_pos hc]; simp
  | b :: l, acc, hs, hl => by
    simp only [List.length_cons] at hl
    simp only [List.map_cons]
    unfold lcW
    rw [if_pos hc]
    dsimp only [tName, dYes]
    rw [hs b List.mem_cons_self]
    dsimp only
    rw [if_pos (by omega), lcW_mapB k g hc l (acc ++ [g b]) (fun w m => hs w (List.mem_cons_of_mem _ m)) (by simp; omega)]
    simp
theorem kLc_mapB {β : Type} {env : EnvW} {i : Nat} {e : D W} {st : Store} {src : Option Nat} (k g : β → W) (l : List β) (hc : (ItW.mk (l.map k) src).Chk st) (hs : ∀ b ∈ l, e (env.set i (some (k b))) st = .ok (g b) st) (hl : l.length ≤ sizeLine) :
    kLc env (tName i) dYes e ⟨l.map k, src⟩ st = .ok (.loc st.length) (st ++ [.lst (l.map g)]) := by
  unfold kLc
  simp only
  rw [lcW_mapB k g hc l [] hs (by simpa using hl)]
  simp
theorem all_here {β : Type} {st : Store} {l : List β} {g : β → Bool} : allW [.loc st.length] (st ++ [.lst (l.map fun b => W.bl (g b))]) = .ok (.bl (l.all g)) (st ++ [.lst (l.map fun b => W.bl (g b))]) := by
  have : (st ++ [.lst (l.map fun b => W.bl (g b))])[st.length]? = some (.lst ((l.map g).map W.bl)) := by simp
  rw [allW_ok this]; simp [List.all_map]
theorem puB_mono : ∀ {n m : Nat} {w : W}, puB n w = true → n ≤ m → puB m w = true
  | 0, _, _, h, _ => by simp [puB] at h
  | n + 1, 0, _, _, hm => by omega
  | n + 1, m + 1, w, h, hm => by
    cases w with
    | tup ws =>
      simp only [puB, Bool.and_eq_true, List.all_eq_true] at h ⊢
      exact ⟨h.1, fun a ha => puB_mono (h.2 a ha) (by omega)⟩
    | str x => exact h
    | _ => first | rfl | simp [puB] at h
theorem pu_items {ws : List W} (h : pu (.tup ws)) : ws.length ≤ 8192 ∧ ∀ w ∈ ws, puB 4 w = true := by
  have h' : (decide (ws.length ≤ 8192) && ws.all (puB 4)) = true := h
  rw [Bool.and_eq_true, decide_eq_true_iff, List.all_eq_true] at h'
  exact h'
end
end MP
namespace MP
open PySem PySem.Spec PyProof.Rows L2
open Classical
noncomputable section
def star : Str := "*"
def fst0 (x : Str) : Nat := (x.cps.toList[0]?).getD 0
def lst0 (x : Str) : Nat := (x.cps.toList[x.length - 1]?).getD 0
section
variable {st : Store} {i j : Int}
@[simp] theorem addW_i : addW (.int i) (.int j) st = .ok (.int (i + j)) st := rfl
@[simp] theorem subW_i : subW (.int i) (.int j) st = .ok (.int (i - j)) st := rfl
@[simp] theorem leW_i : leW (.int i) (.int j) st = .ok (.bl (decide (i ≤ j))) st := rfl
@[simp] theorem ltW_i : ltW (.int i) (.int j) st = .ok (.bl (decide (i < j))) st := rfl
@[simp] theorem gtW_i : gtW (.int i) (.int j) st = .ok (.bl (decide (j < i))) st := rfl
@[simp] theorem negW_i : negW (.int i) st = .ok (.int (-i)) st := rfl
@[simp] theorem minW_i : minW [.int i, .int j] st = .ok (.int (if j < i then j else i)) st := rfl
@[simp] theorem maxW_i : maxW [.int i, .int j] st = .ok (.int (if j > i then j else i)) st := rfl
@[simp] theorem absW_i : absW [.int i] st = .ok (.int (if i < 0 then -i else i)) st := rfl
@[simp] theorem intOf_i : intOfW [.int i] st = .ok (.int i) st := rfl
@[simp] theorem intOf_b {b : Bool} : intOfW [.bl b] st = .ok (.int (if b then 1 else 0)) st := rfl
@[simp] theorem tuple_t {ws : List W} : tupleW [.tup ws] st = .ok (.tup ws) st := rfl
@[simp] theorem clB_b {n : Nat} {b : Bool} : clB n (.bl b) = true := rfl
@[simp] theorem clB_s {n : Nat} {b : Str} : clB n (.str b) = true := rfl
@[simp] theorem clB_i {n : Nat} : clB n (.int i) = true := rfl
@[simp] theorem clB_n {n : Nat} : clB n .non = true := rfl
@[simp] theorem gc_b {b : Bool} : gc st (.bl b) st = .ok (.bl b) st := gc_same rfl
@[simp] theorem gc_s {b : Str} : gc st (.str b) st = .ok (.str b) st := gc_same rfl
@[simp] theorem gc_i : gc st (.int i) st = .ok (.int i) st := gc_same rfl
@[simp] theorem gc_n : gc st .non st = .ok .non st := gc_same rfl
@[simp] theorem gc_ba {b : Bool} {g : Store} : gc st (.bl b) (st ++ g) = .ok (.bl b) st := gc_app rfl
@[simp] theorem gc_sa {b : Str} {g : Store} : gc st (.str b) (st ++ g) = .ok (.str b) st := gc_app rfl
@[simp] theorem gc_na {g : Store} : gc st .non (st ++ g) = .ok .non st := gc_app rfl
end
theorem ok_nil : okS ("" : Str) = true := by decide +kernel
theorem ok_star : okS ("*" : Str) = true := by decide +kernel
theorem ok_dash : okS ("-" : Str) = true := by decide +kernel
theorem ok_dot : okS ("." : Str) = true := by decide +kernel
theorem ok_one {c : Nat} (h : c < 128) : okS ⟨#[c]⟩ = true := by
  rw [okS_iff]; exact ⟨by show 1 ≤ _; decide, fun d hd => by simp at hd; omega⟩
theorem stripBy_mem {x y : Str} : ∀ c ∈ (Txt.stripChars x y).cps.toList, c ∈ x.cps.toList := fun c h => by
  rw [PySem.Txt.stripChars.eq_1, stripBy_eq] at h
  unfold PySem.Builtin.Str.strSub at h
  simp only [Array.toList_extract, List.extract] at h
  exact List.mem_of_mem_drop (List.mem_of_mem_take h)
theorem okS.strip {x y : Str} (h : okS x = true) : okS (Txt.stripChars x y) = true :=
  okS_iff.mpr ⟨Nat.le_trans (len_stripChars x y) (okS.len h), fun c hc => (okS_iff.mp h).2 c (stripBy_mem c hc)⟩
theorem fst0_of {x : Str} {c : Nat} (h : x.cps.toList[(0 : Int).toNat]? = some c) : fst0 x = c := by
  unfold fst0; rw [show (0 : Nat) = (0 : Int).toNat from rfl, h]; rfl
theorem lst0_of {x : Str} {c : Nat} (h : x.cps.toList[x.length - 1]? = some c) : lst0 x = c := by
  unfold lst0; rw [h]; rfl
def okU : W → Prop
  | .str x => okS x = true
  | _ => True
theorem Pic.str {st : Store} {w : W} {x : Str} (h : Pic st w (.str x)) : w = .str x ∧ okS x = true := by
  cases h with
  | pu _ h => exact ⟨rfl, h⟩
def GD : List Nat := ("abcdefghijklmnopqrstuvwxyz0123456789-" : Str).cps.toList
theorem beq_sign {c : Nat} : ((⟨#[c]⟩ : Str) == ("-" : Str)) = (c == 45) := by
  rw [Bool.eq_iff_iff, beq_iff_eq, beq_iff_eq]
  constructor
  · intro h
    have := congrArg (fun s : Str => s.cps.toList) h
    have h' : [c] = [45] := this
    simpa using h'
  · intro h; subst h; rfl
theorem eqv_str {n : Nat} {w : W} {x : Str} : (dat (n + 1) w).eqv (.str x) = (match w with | .str y => y == x | _ => false) := by
  cases w with
  | str y => simp only [dat, PyData.eqv.eq_6]
  | non => rfl
  | bl b => rfl
  | int b => rfl
  | tup ws => rfl
  | _ => rfl
def hdX (s : Str) : List W → Bool | .str x :: _ => x == s | _ => false
theorem line8 {n : Nat} (h : n ≤ 8192) : n ≤ sizeLine := Nat.le_trans h (by decide)
theorem head_ok {ws : List W} {st : Store} {s : Str} (h : pu (.tup ws)) (hs : okS s = true) : eqW (.tup (ws.take 1)) (.tup [.str s]) st = .ok (.bl (hdX s ws)) st := by
  obtain ⟨hl, hi⟩ := pu_items h
  have h1 : pu (.tup (ws.take 1)) := by
    show (decide ((ws.take 1).length ≤ 8192) && (ws.take 1).all (puB 4)) = true
    rw [Bool.and_eq_true, decide_eq_true_iff, List.all_eq_true]
    exact ⟨by simp; omega, fun a ha => hi a (List.mem_of_mem_take ha)⟩
  have h2 : pu (.tup [.str s]) := by
    show (decide (1 ≤ 8192) && (okS s && true)) = true
    rw [hs]; rfl
  rw [pic_eq (.pu _ h1) (.pu _ h2)]
  congr 2
  cases ws with
  | nil => rfl
  | cons w r =>
    show PyData.eqv (.tuple [dat 4 w]) (.tuple [.str s]) = _
    rw [PyData.eqv.eq_8, PyData.eqvAll.eq_2, PyData.eqvAll.eq_1, Bool.and_true, eqv_str]
    cases w <;> rfl
theorem nhead_ok {ws : List W} {st : Store} {s : Str} (h : pu (.tup ws)) (hs : okS s = true) : neW (.tup (ws.take 1)) (.tup [.str s]) st = .ok (.bl (!hdX s ws)) st := by
  have e := head_ok (st := st) h hs
  unfold eqW at e
  unfold neW
  split at e
  · split at e
    · rename_i d e' h1 h2 hs
      simp only [h1, h2, if_pos hs]
      injection e with e1 _
      injection e1 with e1
      rw [e1]
    · cases e
  · cases e
theorem pu_sub {ws : List W} (h : pu (.tup ws)) (r : List W) (hr : ∀ w ∈ r, w ∈ ws) (hl : r.length ≤ ws.length) : pu (.tup r) := by
  obtain ⟨hl', hi⟩ := pu_items h
  show (decide (r.length ≤ 8192) && r.all (puB 4)) = true
  rw [Bool.and_eq_true, decide_eq_true_iff, List.all_eq_true]
  exact ⟨by omega, fun a ha => hi a (hr a ha)⟩
@[simp] theorem sl_to {ws : List W} {st : Store} : slW (.tup ws) none (some 1) st = .ok (.tup (ws.take 1)) st := by
  show Res.ok (W.tup (cutW ws none (some ((1 : Nat) : Int)))) st = _
  rw [cut_to]
@[simp] theorem sl_from {ws : List W} {st : Store} : slW (.tup ws) (some 1) none st = .ok (.tup (ws.drop 1)) st := by
  show Res.ok (W.tup (cutW ws (some ((1 : Nat) : Int)) none)) st = _
  rw [cut_from]
theorem tup_one {s : Str} {st : Store} : kTup [.str s] st = .ok (.tup [.str s]) st := kTup_ok (Nat.le_trans (by simp : [W.str s].length ≤ 1) (by decide))
theorem range_all {β : Type} (l : List β) (f : Nat → Bool) (g : β → Bool) : (∀ i b, l[i]? = some b → f i = g b) → (List.range l.length).all f = l.all g := by
  intro h
  rw [Bool.eq_iff_iff, List.all_eq_true, List.all_eq_true]
  constructor
  · intro hf b hb
    obtain ⟨i, hi, rfl⟩ := List.getElem_of_mem hb
    rw [← h i _ (List.getElem?_eq_getElem hi)]
    exact hf i (List.mem_range.mpr hi)
  · intro hg i hi
    have hi := List.mem_range.mp hi
    rw [h i _ (List.getElem?_eq_getElem hi)]
    exact hg _ (List.getElem_mem hi)
theorem lt62 {n : Nat} (h : n ≤ 8192) : (n : Int) < 2 ^ 62 := Int.lt_of_le_of_lt (Int.ofNat_le.mpr h) (by decide)
theorem ints1 (n : Nat) : intsW 1 ((n : Int) - 1).toNat = (List.range (n - 1)).map fun i : Nat => W.int (1 + (i : Nat)) := by
  unfold intsW; rw [show ((n : Int) - 1).toNat = n - 1 by omega]
def dotS : Str := "."
def showT (xs : List Str) : Str := Txt.join ("" : Str) (xs.map fun x => x ++ dotS)
def shownS (xs : List Str) : Str := if xs.isEmpty = true then dotS else showT xs
abbrev cl (x : Str) : List Nat := x.cps.toList
theorem str_ext {x y : Str} (h : cl x = cl y) : x = y := by
  obtain ⟨x⟩ := x; obtain ⟨y⟩ := y
  have : x = y := Array.toList_inj.mp h
  rw [this]
theorem cl_app (x y : Str) : cl (x ++ y) = cl x ++ cl y := by
  show (x.cps ++ y.cps).toList = _
  simp [cl]
theorem len_cl (x : Str) : x.length = (cl x).length := by simp [Str.length, cl]
theorem fold_cl (s : Array Nat) : ∀ (r : List Str) (a : Array Nat), (r.foldl (fun acc p => acc ++ s ++ p.cps) a).toList = a.toList ++ (r.map fun p => s.toList ++ cl p).flatten
  | [], a => by simp
  | p :: r, a => by
    rw [List.foldl_cons, fold_cl s r]; simp [cl]
theorem join_cl (s : Str) (p : Str) (r : List Str) : cl (Txt.join s (p :: r)) = cl p ++ (r.map fun p => cl s ++ cl p).flatten := by
  show (List.foldl _ p.cps r).toList = _
  exact fold_cl s.cps r p.cps
theorem join_nil (s : Str) : cl (Txt.join s []) = [] := rfl
theorem join0 (ys : List Str) : cl (Txt.join ("" : Str) ys) = (ys.map cl).flatten := by
  cases ys with
  | nil => rfl
  | cons p r =>
    rw [join_cl]
    have : cl ("" : Str) = [] := rfl
    simp [this]
theorem dot_cl : cl dotS = [46] := rfl
theorem show_cl (xs : List Str) : cl (showT xs) = (xs.map fun x => cl x ++ [46]).flatten := by
  unfold showT
  rw [join0, List.map_map]
  refine congrArg List.flatten (List.map_congr_left fun x _ => ?_)
  show cl (x ++ dotS) = _
  rw [cl_app, dot_cl]
theorem show_join {xs : List Str} (h : xs ≠ []) : cl (showT xs) = cl (Txt.join dotS xs) ++ [46] := by
  rw [show_cl]
  cases xs with
  | nil => exact absurd rfl h
  | cons p r =>
    rw [join_cl, dot_cl]
    have key : ∀ (r : List Str) (a : List Nat), (a ++ [46]) ++ (r.map fun x => cl x ++ [46]).flatten = a ++ (r.map fun p => [46] ++ cl p).flatten ++ [46] := by
      intro r
      induction r with
      | nil => intro a; simp
      | cons x r ih =>
        intro a
        have := ih (a ++ [46] ++ cl x)
        simp only [List.map_cons, List.flatten_cons, List.append_assoc] at this ⊢
        exact this
    rw [List.map_cons, List.flatten_cons]
    exact key r (cl p)
def cutT (t : Str) : Str := cutS t none (some (-1))
theorem cutT_cl (t : Str) : cl (cutT t) = (cl t).take (t.length - 1) := by
  unfold cutT cutS HT.sIx
  simp only [List.drop_zero, Nat.sub_zero]
  rw [if_pos (by decide)]
  have : ((-1 : Int) + (t.length : Int)).toNat = t.length - 1 := by omega
  rw [this]
theorem cutT_law {t : Str} (h : 1 ≤ t.length) : cutS t none (some ((t.length : Int) - 1)) = cutT t := by
  apply str_ext
  rw [cutT_cl]
  unfold cutS HT.sIx
  simp only [List.drop_zero, Nat.sub_zero]
  rw [if_neg (by omega)]
  have : ((t.length : Int) - 1).toNat = t.length - 1 := by omega
  rw [this, Nat.min_eq_left (by omega)]
def lastDot (t : Str) : Bool := decide (1 ≤ t.length) && (lst0 t == 46)
theorem ends_dot (t : Str) : Txt.endswith t dotS = lastDot t := by
  unfold Txt.endswith lastDot
  have h1 : dotS.length = 1 := rfl
  rw [h1, Nat.zero_add]
  by_cases h : 1 ≤ t.length
  · rw [decide_eq_true h, Bool.true_and, Bool.true_and]
    unfold Builtin.Str.subAt lst0
    rw [h1]
    have hl : t.length - 1 < t.cps.toList.length := by rw [show t.cps.toList.length = t.length from (len_cl t).symm]; omega
    rw [List.getElem?_eq_getElem hl, Option.getD_some, Bool.eq_iff_iff, beq_iff_eq, beq_iff_eq]
    have e : (t.cps.extract (t.length - 1) (t.length - 1 + 1)).toList = [t.cps.toList[t.length - 1]] := by
      rw [Array.toList_extract]
      unfold List.extract
      rw [show t.length - 1 + 1 - (t.length - 1) = 1 by omega, List.drop_eq_getElem_cons hl]; simp
    constructor
    · intro hx
      have := congrArg Array.toList hx
      rw [e] at this
      have h2 : [t.cps.toList[t.length - 1]] = [46] := this
      simpa using h2
    · intro hx
      apply Array.toList_inj.mp
      rw [e, hx]; rfl
  · rw [decide_eq_false h]; rfl
theorem last_cl {t : Str} (h : lastDot t = true) : cl t = cl (cutT t) ++ [46] := by
  unfold lastDot at h
  rw [Bool.and_eq_true, decide_eq_true_iff, beq_iff_eq] at h
  have hl : t.length - 1 < (cl t).length := by rw [← len_cl]; omega
  have h2 : (cl t)[t.length - 1] = 46 := by
    have := h.2
    unfold lst0 at this
    rw [List.getElem?_eq_getElem hl] at this
    simpa using this
  rw [cutT_cl]
  conv => lhs; rw [← List.take_append_drop (t.length - 1) (cl t)]
  rw [List.drop_eq_getElem_cons hl, h2, List.drop_of_length_le (by rw [← len_cl]; omega)]
def parts (t : Str) : List Str := Txt.split (cutT t) dotS
theorem parts_ne (t : Str) : parts t ≠ [] := fun h => by
  have := split_pos (cutT t) dotS
  rw [show Txt.split (cutT t) dotS = [] from h] at this
  simp at this
theorem parts_join (t : Str) : Txt.join dotS (parts t) = cutT t := (StrLaws.glued_eq_join dotS (parts t)).trans (StrLaws.join_split (cutT t) dotS)
theorem show_parts {t : Str} (h : lastDot t = true) : showT (parts t) = t := by
  apply str_ext
  rw [show_join (parts_ne t), parts_join, last_cl h]
theorem parts_show {xs : List Str} (h : xs ≠ []) (hd : ∀ x ∈ xs, ¬ 46 ∈ cl x) : parts (showT xs) = xs := by
  have e : cutT (showT xs) = Txt.join dotS xs := by
    apply str_ext
    rw [cutT_cl, show_join h, len_cl, show_join h]
    simp
  unfold parts
  rw [e]
  exact TL.split_join (y := dotS) (s := 46) (S := []) rfl (by decide +kernel) h hd
theorem show_last {xs : List Str} (h : xs ≠ []) : lastDot (showT xs) = true := by
  have e := show_join h
  unfold lastDot lst0
  have hl : (showT xs).length = (cl (Txt.join dotS xs)).length + 1 := by rw [len_cl, e]; simp
  rw [hl, decide_eq_true (by omega)]
  have e2 : (showT xs).cps.toList = cl (Txt.join dotS xs) ++ [46] := e
  rw [e2, Nat.add_sub_cancel]
  simp
theorem mem_join {s : Str} : ∀ {ys : List Str} {y : Str} {c : Nat}, y ∈ ys → c ∈ cl y → c ∈ cl (Txt.join s ys) := by
  intro ys y c hy hc
  cases ys with
  | nil => nomatch hy
  | cons p r =>
    rw [join_cl, List.mem_append]
    rcases List.mem_cons.mp hy with rfl | hy
    · exact .inl hc
    · exact .inr (List.mem_flatten.mpr ⟨_, List.mem_map_of_mem hy, List.mem_append.mpr (.inr hc)⟩)
theorem parts_ok {t : Str} (h : okS t = true) (hl : t.length ≤ 8000) : pu (.tup ((parts t).map W.str)) := by
  have hc : (cutT t).length ≤ t.length := by
    rw [len_cl, cutT_cl, len_cl]; simp
  show (decide (((parts t).map W.str).length ≤ 8192) && ((parts t).map W.str).all (puB 4)) = true
  rw [Bool.and_eq_true, decide_eq_true_iff, List.all_eq_true]
  refine ⟨?_, fun a ha => ?_⟩
  · have := split_le (cutT t) dotS
    rw [List.length_map]
    show (Txt.split (cutT t) dotS).length ≤ 8192
    omega
  · obtain ⟨p, hp, rfl⟩ := List.mem_map.mp ha
    show okS p = true
    rw [okS_iff]
    refine ⟨Nat.le_trans (part_short hp) (by omega), fun c hcp => (okS_iff.mp h).2 c ?_⟩
    have h1 : c ∈ cl (Txt.join dotS (parts t)) := mem_join hp hcp
    rw [parts_join, cutT_cl] at h1
    exact List.mem_of_mem_take h1
theorem show_len (xs : List Str) (h : ∀ x ∈ xs, x.length ≤ 20) : (showT xs).length ≤ 21 * xs.length := by
  rw [len_cl, show_cl]
  induction xs with
  | nil => simp
  | cons x r ih =>
    have h1 := h x List.mem_cons_self
    have h2 := ih fun y hy => h y (List.mem_cons_of_mem _ hy)
    rw [len_cl] at h1
    simp only [List.map_cons, List.flatten_cons, List.length_append, List.length_cons, List.length_nil] at h2 ⊢
    omega
theorem show_okS {xs : List Str} (h : ∀ x ∈ xs, okS x = true) (hl : (showT xs).length ≤ 8192) : okS (showT xs) = true := by
  rw [okS_iff]
  refine ⟨hl, fun c hc => ?_⟩
  have hc : c ∈ (xs.map fun x => cl x ++ [46]).flatten := by rw [← show_cl]; exact hc
  obtain ⟨l, hl, hcl⟩ := List.mem_flatten.mp hc
  obtain ⟨x, hx, rfl⟩ := List.mem_map.mp hl
  rcases List.mem_append.mp hcl with h1 | h1
  · exact (okS_iff.mp (h x hx)).2 c h1
  · have : c = 46 := by simpa using h1
    omega
theorem name_pu {st : Store} {w : W} {ws : List W} (h : Pic st w (.tup ws)) : w = .tup ws ∧ pu (.tup ws) := by
  cases h with
  | pu _ h => exact ⟨rfl, h⟩
theorem eq_empty {ws : List W} {st : Store} (h : pu (.tup ws)) : eqW (.tup ws) (.tup []) st = .ok (.bl ws.isEmpty) st := by
  rw [pic_eq (.pu _ h) (.pu _ rfl)]
  congr 2
  cases ws <;> rfl
theorem addW_s {x y : Str} {st : Store} (h : x.length + y.length ≤ sizeLine) : addW (.str x) (.str y) st = .ok (.str (x ++ y)) st := by
  show (if x.length + y.length ≤ sizeLine then _ else _) = _
  rw [if_pos h]
theorem join_here {st : Store} {ys : List Str} {z : Str} (h : (ys.map (·.length)).sum + ys.length * z.length ≤ 16777216) : joinW (.str z) [.loc st.length] (st ++ [.lst (ys.map W.str)]) = .ok (.str (Txt.join z ys)) (st ++ [.lst (ys.map W.str)]) := by
  have e : strsW (st ++ [.lst (ys.map W.str)]) (.loc st.length) = some ys := by
    unfold strsW seqW
    simp only [get_here, Option.bind_some, List.map_map]
    have := allO_of (stOf ∘ W.str) id ys (fun _ _ => rfl)
    rw [this]; simp
  show (match strsW (st ++ [.lst (ys.map W.str)]) (.loc st.length) with | some ys => _ | none => _) = _
  rw [e]
  exact if_pos h
theorem sum_le {xs : List Str} {f : Str → Nat} {k : Nat} (h : ∀ x ∈ xs, f x ≤ k) : (xs.map f).sum ≤ k * xs.length := by
  induction xs with
  | nil => simp
  | cons x r ih =>
    have h1 := h x List.mem_cons_self
    have h2 := ih fun y hy => h y (List.mem_cons_of_mem _ hy)
    simp only [List.map_cons, List.sum_cons, List.length_cons]
    rw [Nat.mul_add, Nat.mul_one]; omega
theorem len_add (x y : Str) : (x ++ y).length = x.length + y.length := by rw [len_cl, cl_app, List.length_append, ← len_cl, ← len_cl]
theorem dots_ok {env : EnvW} {src : Option Nat} {i : Nat} {xs : List Str} {st : Store} (hi : i < env.length) (hc : (ItW.mk (xs.map W.str) src).Chk st) (hx : ∀ x ∈ xs, x.length ≤ 100) (hl : xs.length ≤ 8192) :
    kLc env (tName i) dYes (dOp addW (dVar i) (dC (.str "."))) ⟨xs.map W.str, src⟩ st = .ok (.loc st.length) (st ++ [.lst ((xs.map fun x => x ++ dotS).map W.str)]) ∧
    joinW (.str "") [.loc st.length] (st ++ [.lst ((xs.map fun x => x ++ dotS).map W.str)]) = .ok (.str (showT xs)) (st ++ [.lst ((xs.map fun x => x ++ dotS).map W.str)]) := by
  constructor
  · have := kLc_mapB (env := env) (i := i) (e := dOp addW (dVar i) (dC (.str ("." : Str)))) (st := st) (src := src) W.str (fun x => W.str (x ++ dotS)) xs hc (fun b hb => by
      have h1 := hx b hb
      have ha : addW (.str b) (.str ".") st = .ok (.str (b ++ dotS)) st := addW_s (Nat.le_trans (Nat.add_le_add_right h1 _) (by decide +kernel))
      simp -implicitDefEqProofs [hi, ha]) (line8 hl)
    rw [this, List.map_map]; rfl
  · refine join_here ?_
    have h1 : ((xs.map fun x => x ++ dotS).map (·.length)).sum ≤ 101 * xs.length := by
      rw [List.map_map]
      exact sum_le fun x hx' => by
        show (x ++ dotS).length ≤ 101
        rw [len_add]
        have := hx x hx'
        have h2 : dotS.length = 1 := rfl
        omega
    have h2 : ("" : Str).length = 0 := rfl
    rw [h2, Nat.mul_zero]
    omega
theorem tuple_here {st : Store} {ws : List W} : tupleW [.loc st.length] (st ++ [.lst ws]) = .ok (.tup ws) (st ++ [.lst ws]) := by
  unfold tupleW lstW; simp
theorem split_here {t : Str} {st : Store} (h : (cutT t).length + 2 ≤ sizeLine) : splitW (.str (cutT t)) [.str "."] st = .ok (.loc st.length) (st ++ [.lst ((parts t).map W.str)]) := by
  show (if ((("." : Str).length == 0) = false ∧ (cutT t).length + 2 ≤ sizeLine) then _ else _) = _
  rw [if_pos ⟨rfl, h⟩]; rfl
theorem cut_len (t : Str) : (cutT t).length ≤ t.length := by
  rw [len_cl, cutT_cl, len_cl]; simp
theorem cut_okS {t : Str} (h : okS t = true) : okS (cutT t) = true := by
  rw [okS_iff]
  exact ⟨Nat.le_trans (cut_len t) (okS.len h), fun c hc => (okS_iff.mp h).2 c (by
    have : c ∈ cl (cutT t) := hc
    rw [cutT_cl] at this
    exact List.mem_of_mem_take this)⟩
theorem line2 {n : Nat} (h : n ≤ 8192) : n + 2 ≤ sizeLine := Nat.le_trans (Nat.add_le_add_right h 2) (by decide)
theorem sl_cut {t : Str} {st : Store} (h : okS t = true) : slW (.str t) none (some (-1)) st = .ok (.str (cutT t)) st := by
  show (if t.length ≤ sizeLine then _ else _) = _
  rw [if_pos (okS.line h)]; rfl
theorem sl_cutL {t : Str} {st : Store} (h : okS t = true) (h1 : 1 ≤ t.length) : slW (.str t) none (some ((t.length : Int) - 1)) st = .ok (.str (cutT t)) st := by
  show (if t.length ≤ sizeLine then _ else _) = _
  rw [if_pos (okS.line h), cutT_law h1]
theorem ends_ok {t : Str} {st : Store} : endswithW (.str t) [.str "."] st = .ok (.bl (lastDot t)) st := by
  show Res.ok (W.bl (Txt.endswith t dotS)) st = _
  rw [ends_dot]
theorem Pic.app {st : Store} {w u : W} (g : Store) (h : Pic st w u) : Pic (st ++ g) w u := by
  cases h with
  | pu _ h => exact .pu _ h
  | ls k ws h hl hw => exact .ls k ws (get_app g h) hl hw
theorem pair_data {a u : W} {s : Str} {st : Store} (h : Pic st a u) (hs : okS s = true) : datF st 66 (.tup [.str s, a]) = some (.tuple [.str s, dU u]) ∧ SeqAt.shaped (.tuple [.str s, dU u]) = true := by
  constructor
  · show ((allO [datF st 65 (.str s), datF st 65 a]).map PyData.tuple) = _
    rw [h.dat 65 (by decide)]; rfl
  · refine shaped_of ⟨?_, ?_⟩
    · show PyData.canLayAll0 [.str s, dU u] = true
      rw [PyData.canLayAll0.eq_2, PyData.canLayAll0.eq_2, h.shp.1]
      show (PyData.strOk s && _) = true
      rw [okS.ok hs]; rfl
    · rw [PyData.depth.eq_2, PyData.depthAll.eq_2, PyData.depthAll.eq_2]
      have := h.shp.2
      have h0 : PyData.depthAll [] = 0 := rfl
      have h1 : (PyData.str s).depth = 0 := rfl
      rw [h0, h1]; omega
theorem pair_eqv {d : PyData} {s : Str} (h : d.eqv d = true) : (PyData.tuple [.str s, d]).eqv (.tuple [.str s, d]) = true := by
  rw [PyData.eqv.eq_8, PyData.eqvAll.eq_2, PyData.eqvAll.eq_2, PyData.eqv.eq_6, h]
  show (s == s && (true && true)) = true
  simp
theorem pair_ne {a b u : W} {s : Str} {st : Store} (h : Pic st a u) (h' : Pic st b u) (hs : okS s = true) : neW (.tup [.str s, a]) (.tup [.str s, b]) st = .ok (.bl false) st := by
  rw [neW_of (pair_data h hs).1 (pair_data h' hs).1 (pair_data h hs).2 (pair_data h' hs).2, pair_eqv h.refl]; rfl
theorem pair_eq {a b u : W} {s : Str} {st : Store} (h : Pic st a u) (h' : Pic st b u) (hs : okS s = true) : eqW (.tup [.str s, a]) (.tup [.str s, b]) st = .ok (.bl true) st := by
  rw [eqW_of (pair_data h hs).1 (pair_data h' hs).1 (pair_data h hs).2 (pair_data h' hs).2, pair_eqv h.refl]
theorem ok_text : okS ("text" : Str) = true := by decide +kernel
theorem ok_refused : okS ("refused" : Str) = true := by decide +kernel
theorem ok_namew : okS ("name" : Str) = true := by decide +kernel
theorem two {a b : W} {st : Store} : kTup [a, b] st = .ok (.tup [a, b]) st := kTup_ok (Nat.le_trans (by simp : [a, b].length ≤ 2) (by decide))
theorem pair_cl {n : Nat} {s : Str} {w : W} (h : clB n w = true) : clB n (.tup [.str s, w]) = true := by
  simp only [clB, clBs, h]; rfl
theorem set_here (st : Store) (a b c : Ob) : (st ++ [a, b]).set (st.length + 1) c = st ++ [a, c] := by simp
def PotA (p n : Nat) (st : Store) : Prop := ∃ a b c : Int, st[p]? = some (.lst [.int a, .int b, .int c]) ∧ 0 ≤ b ∧ b < 10 ^ 34 ∧ 0 ≤ c ∧ c ≤ n
theorem PotA.lt {p n : Nat} {st : Store} (h : PotA p n st) : p < st.length := by
  obtain ⟨a, b, c, h, _⟩ := h
  exact (List.getElem?_eq_some_iff.mp h).1
theorem PotA.mono {p n m : Nat} {st : Store} (h : PotA p n st) (hm : n ≤ m) : PotA p m st := by
  obtain ⟨a, b, c, h, h1, h2, h3, h4⟩ := h
  exact ⟨a, b, c, h, h1, h2, h3, by omega⟩
theorem PotA.of {p n : Nat} {st st' : Store} (h : PotA p n st) (e : st'[p]? = st[p]?) : PotA p n st' := by
  obtain ⟨a, b, c, h, h1, h2, h3, h4⟩ := h
  exact ⟨a, b, c, by rw [e]; exact h, h1, h2, h3, h4⟩
theorem PotA.app {p n : Nat} {st : Store} (g : Store) (h : PotA p n st) : PotA p n (st ++ g) := h.of (List.getElem?_append_left h.lt)
theorem PotA.take {p n k : Nat} {st : Store} (h : PotA p n st) (hk : p < k) : PotA p n (st.take k) := h.of (by rw [List.getElem?_take, if_pos hk])
theorem PotA.set {p n k : Nat} {st : Store} {o : Ob} (h : PotA p n st) (hk : p ≠ k) : PotA p n (st.set k o) := h.of (List.getElem?_set_ne (Ne.symm hk))
theorem PotA.flat {p n : Nat} {st : Store} (h : PotA p n st) : ∀ (k : Nat) (o : Ob), p < k → st[p]? = some o → flatO o := by
  obtain ⟨a, b, c, h, _⟩ := h
  intro k o _ e
  rw [h] at e; cases e
  exact fun _ => rfl
theorem Ext.set {p k : Nat} {st st' : Store} {o : Ob} (h : Ext p st st') (hk : st.length ≤ k) : Ext p st (st'.set k o) :=
  ⟨by simp [h.le], fun i hi hp => by rw [List.getElem?_set_ne (by omega)]; exact h.keep i hi hp⟩
theorem gc_pot {p n : Nat} {st st' : Store} {v : W} (h : Ext p st st') (hp : PotA p n st') (hl : p < st.length) (hv : clB st.length v = true) : gc st v st' = .ok v (st'.take st.length) ∧ Kp p st (st'.take st.length) ∧ PotA p n (st'.take st.length) :=
  ⟨gcx_ok h (hp.flat _) hv, h.take, hp.take hl⟩
theorem gc_potL {p n m : Nat} {st st' : Store} {ws : List W} (h : Ext p st st') (hp : PotA p n st') (hl : p < st.length) (hm : st.length ≤ m) (e : st'[m]? = some (.lst ws)) (hw : clBs st.length ws = true) : gc st (.loc m) st' = .ok (.loc st.length) (st'.take st.length ++ [.lst ws]) ∧ Kp p st (st'.take st.length) ∧ PotA p n (st'.take st.length) :=
  ⟨gc_new h (hp.flat _) hm e hw, h.take, hp.take hl⟩
theorem kAsg_sub {env : EnvW} {st st3 : Store} {mo mi : D W} {o i v : W} (h1 : mo env st = .ok o st) (h2 : mi env st = .ok i st) (h3 : setW o i v st = some st3) : kAsg (MP.tSub mo mi) env v st = .go .nx env st3 := by
  have : MP.tSub mo mi v env st = some (env, st3) := by
    unfold MP.tSub; simp only [h1, h2, h3, Option.map_some]
  unfold kAsg; rw [this]
theorem setW_of {st : Store} {k : Nat} {i : Int} {j : Nat} {ws : List W} {v : W} (h : st[k]? = some (.lst ws)) (hi : ixN ws.length i = some j) : setW (.loc k) (.int i) v st = some (st.set k (.lst (ws.set j v))) := by
  unfold setW; simp only [h, hi]
theorem mod_okQ {i j : Int} {st : Store} (h : 0 < j) : modW (.int i) (.int j) st = .ok (.int (i % j)) st := if_pos h
theorem div_okG {i j : Int} {st : Store} (h : 0 < j) (h' : j.natAbs.log2 < 9000) : fdivW (.int i) (.int j) st = .ok (.int (i / j)) st := if_pos ⟨h, h'⟩
theorem div_ok {i j : Int} {st : Store} (h : 0 < j) (h' : j < 9000) : fdivW (.int i) (.int j) st = .ok (.int (i / j)) st := div_okG h (Nat.lt_of_le_of_lt (Nat.log2_le_self _) (by omega))
theorem div_big {i : Int} {st : Store} : fdivW (.int i) (.int 65537) st = .ok (.int (i / 65537)) st := if_pos ⟨by decide, by decide +kernel⟩
theorem mul_okQ {i j : Int} {st : Store} (h : IntMulOk i j) : mulW (.int i) (.int j) st = .ok (.int (i * j)) st := if_pos h
theorem pow_okQ {i j : Int} {st : Store} (h : CPowW i j) : powW (.int i) (.int j) st = .ok (.int (i ^ j.toNat)) st := if_pos h
theorem small_mul {i j : Int} (h : -2 ^ 64 < i) (h' : i < 2 ^ 64) : IntMulOk i j := IntMulOk.of_left (intBits_le_64 h h')
theorem pow10 (k : Int) (h0 : 0 ≤ k) (h : k ≤ 100) : CPowW 10 k := ⟨h0, by
  have : (Builtin.Int.intBits 10 : Int) = 4 := by decide +kernel
  rw [this]; omega⟩
def StL (b : Nat) (ws : List W) : Prop := ∀ w ∈ ws, ∃ y : Str, w = .str y ∧ okS y = true ∧ y.length ≤ b
theorem StL.app {b : Nat} {ws vs : List W} (h : StL b ws) (h' : StL b vs) : StL b (ws ++ vs) := fun w m => by
  rcases List.mem_append.mp m with m | m
  · exact h w m
  · exact h' w m
theorem StL.one {b : Nat} {y : Str} (h : okS y = true) (h' : y.length ≤ b) : StL b [.str y] := fun w m => by
  have : w = .str y := by simpa using m
  exact ⟨y, this, h, h'⟩
theorem StL.nil {b : Nat} : StL b [] := fun _ m => nomatch m
theorem StL.mono {b c : Nat} {ws : List W} (h : StL b ws) (hc : b ≤ c) : StL c ws := fun w m => by
  obtain ⟨y, e, h1, h2⟩ := h w m
  exact ⟨y, e, h1, Nat.le_trans h2 hc⟩
theorem StL.set {b i : Nat} {ws : List W} {y : Str} (h : StL b ws) (hy : okS y = true) (hl : y.length ≤ b) : StL b (ws.set i (.str y)) := fun w m => by
  rcases List.mem_or_eq_of_mem_set m with m | m
  · exact h w m
  · exact ⟨y, m, hy, hl⟩
theorem StL.strs {b : Nat} : ∀ {ws : List W}, StL b ws → ∃ ys : List Str, ws = ys.map W.str ∧ ∀ y ∈ ys, okS y = true ∧ y.length ≤ b
  | [], _ => ⟨[], rfl, fun _ m => nomatch m⟩
  | w :: ws, h => by
    obtain ⟨y, rfl, h1, h2⟩ := h w List.mem_cons_self
    obtain ⟨ys, rfl, h3⟩ := StL.strs fun w m => h w (List.mem_cons_of_mem _ m)
    exact ⟨y :: ys, rfl, fun z m => by
      rcases List.mem_cons.mp m with rfl | m
      · exact ⟨h1, h2⟩
      · exact h3 z m⟩
theorem StL.cl {b n : Nat} : ∀ {ws : List W}, StL b ws → clBs n ws = true
  | [], _ => rfl
  | w :: ws, h => by
    obtain ⟨y, rfl, _⟩ := h w List.mem_cons_self
    simp only [clBs, clB, Bool.true_and]
    exact StL.cl fun w m => h w (List.mem_cons_of_mem _ m)
theorem join_at {st : Store} {k : Nat} {ys : List Str} {z : Str} (e : st[k]? = some (.lst (ys.map W.str))) (h : (ys.map (·.length)).sum + ys.length * z.length ≤ 16777216) : joinW (.str z) [.loc k] st = .ok (.str (Txt.join z ys)) st := by
  have e : strsW st (.loc k) = some ys := by
    unfold strsW seqW
    simp only [e, Option.bind_some, List.map_map]
    have := allO_of (stOf ∘ W.str) id ys (fun _ _ => rfl)
    rw [this]; simp
  show (match strsW st (.loc k) with | some ys => _ | none => _) = _
  rw [e]
  exact if_pos h
theorem join_good {ys : List Str} {b : Nat} (h : ∀ y ∈ ys, okS y = true ∧ y.length ≤ b) (hl : b * ys.length ≤ 8192) : okS (Txt.join ("" : Str) ys) = true ∧ (Txt.join ("" : Str) ys).length ≤ b * ys.length := by
  have hlen : (Txt.join ("" : Str) ys).length ≤ b * ys.length := by
    rw [len_cl, join0]
    clear hl
    induction ys with
    | nil => simp
    | cons y r ih =>
      have h1 := (h y List.mem_cons_self).2
      have h2 := ih fun z m => h z (List.mem_cons_of_mem _ m)
      rw [len_cl] at h1
      simp only [List.map_cons, List.flatten_cons, List.length_append, List.length_cons]
      rw [Nat.mul_add, Nat.mul_one]; omega
  refine ⟨okS_iff.mpr ⟨by omega, fun c hc => ?_⟩, hlen⟩
  have hc : c ∈ (ys.map cl).flatten := by rw [← join0]; exact hc
  obtain ⟨l, hl', hcl⟩ := List.mem_flatten.mp hc
  obtain ⟨y, hy, rfl⟩ := List.mem_map.mp hl'
  exact (okS_iff.mp (h y hy).1).2 c hcl
theorem join_StL {st : Store} {k b : Nat} {ws : List W} (e : st[k]? = some (.lst ws)) (h : StL b ws) (hl : b * ws.length ≤ 8192) : ∃ x : Str, joinW (.str "") [.loc k] st = .ok (.str x) st ∧ okS x = true ∧ x.length ≤ b * ws.length := by
  obtain ⟨ys, rfl, hy⟩ := h.strs
  rw [List.length_map] at hl ⊢
  obtain ⟨h1, h2⟩ := join_good hy hl
  refine ⟨_, join_at e ?_, h1, h2⟩
  have : ("" : Str).length = 0 := rfl
  rw [this, Nat.mul_zero]
  have := sum_le (f := (·.length)) (k := b) (xs := ys) fun y m => (hy y m).2
  omega
theorem ok_app {x y : Str} (h : okS x = true) (h' : okS y = true) (hl : x.length + y.length ≤ 8192) : okS (x ++ y) = true := by
  rw [okS_iff]
  refine ⟨by rw [len_add]; exact hl, fun c hc => ?_⟩
  have hc : c ∈ cl x ++ cl y := by rw [← cl_app]; exact hc
  rcases List.mem_append.mp hc with hc | hc
  · exact (okS_iff.mp h).2 c hc
  · exact (okS_iff.mp h').2 c hc
theorem cut_good {z : Str} {lo hi : Option Int} (h : okS z = true) : okS (cutS z lo hi) = true ∧ (cutS z lo hi).length ≤ z.length := by
  have hl : (cutS z lo hi).length ≤ z.length := by
    rw [len_cl, len_cl]
    show (List.take _ (List.drop _ (cl z))).length ≤ _
    rw [List.length_take, List.length_drop]; omega
  refine ⟨okS_iff.mpr ⟨Nat.le_trans hl (okS.len h), fun c hc => (okS_iff.mp h).2 c ?_⟩, hl⟩
  have hc : c ∈ List.take (HT.sIx z.length z.length hi - HT.sIx z.length 0 lo) (List.drop (HT.sIx z.length 0 lo) (cl z)) := hc
  exact List.mem_of_mem_drop (List.mem_of_mem_take hc)
theorem sign_of {x : Str} {i : Int} (hx : okS x = true) (h0 : 0 ≤ i) (hi : i < x.length) : ∃ y : Str, okS y = true ∧ y.length ≤ 1 ∧ ∀ st, ixW (.str x) (.int i) st = .ok (.str y) st := by
  obtain ⟨c, _, hm, e⟩ := ix_str (okS.line hx) h0 hi
  exact ⟨⟨#[c]⟩, ok_one ((okS_iff.mp hx).2 c hm), Nat.le_refl 1, e⟩
def AL : Str := "0123456789abcdefghijklmnopqrstuvwxyz"
def AL1 : Str := ("-" : Str) ++ AL
theorem ok_al : okS AL = true := by decide +kernel
theorem ok_al1 : okS AL1 = true := by decide +kernel
theorem al_len : AL.length = 36 := by decide +kernel
theorem al1_len : AL1.length = 37 := by decide +kernel
theorem al1_add {st : Store} : addW (.str "-") (.str AL) st = .ok (.str AL1) st := addW_s (by decide +kernel)
theorem lst5 {l : List W} {st : Store} (h : l.length ≤ 50) : kLst l st = .ok (.loc st.length) (st ++ [.lst l]) := kLst_ok (Nat.le_trans h (by decide))
theorem ints_len (k : Int) : (intsW 0 k.toNat).length = k.toNat := by simp [intsW]
def B10 : Str := "ab0-*._A ~"
def B7 : Str := "-*.Z _a"
theorem ok_b10 : okS B10 = true := by decide +kernel
theorem b10_len : B10.length = 10 := by decide +kernel
theorem ok_b7 : okS B7 = true := by decide +kernel
theorem b7_len : B7.length = 7 := by decide +kernel
theorem star_len : ("*" : Str).length = 1 := by decide +kernel
theorem sl_str {z : Str} {lo hi : Option Int} {st : Store} (h : okS z = true) : slW (.str z) lo hi st = .ok (.str (cutS z lo hi)) st := by
  show (if z.length ≤ sizeLine then _ else _) = _
  rw [if_pos (okS.line h)]
theorem rep_StL {b : Nat} {l : List W} (h : StL b l) : ∀ k, StL b (List.replicate k l).flatten
  | 0 => fun _ m => by simp at m
  | k + 1 => by
    rw [List.replicate_succ, List.flatten_cons]
    exact h.app (rep_StL h k)
theorem mulW_l {m : Nat} {k : Int} {xs : List W} {st : Store} (h : st[m]? = some (.lst xs)) (h0 : 0 ≤ k) (h1 : k ≤ 10) (hl : xs.length ≤ 100) : mulW (.loc m) (.int k) st = .ok (.loc st.length) (st ++ [.lst (List.replicate k.toNat xs).flatten]) := by
  show (match st[m]? with | some (.lst xs) => _ | _ => _) = _
  rw [h]
  refine if_pos ⟨Int.le_trans (by decide) h0, Int.lt_of_le_of_lt h1 (by decide), ?_⟩
  have h2 : k.toNat ≤ 10 := by omega
  exact line8 (Nat.le_trans (Nat.mul_le_mul hl h2) (by decide))
theorem addW_l {m k : Nat} {xs ys : List W} {st : Store} (h : st[m]? = some (.lst xs)) (h' : st[k]? = some (.lst ys)) (hl : xs.length + ys.length ≤ 8192) : addW (.loc m) (.loc k) st = .ok (.loc st.length) (st ++ [.lst (xs ++ ys)]) := by
  show (match lst2 st m k with | some (xs, ys) => _ | none => _) = _
  unfold lst2; rw [h, h']
  exact if_pos (line8 hl)
theorem rep_len (k : Nat) (l : List W) : (List.replicate k l).flatten.length = k * l.length := by simp
theorem ten {l : List W} {st : Store} (h : l.length ≤ 8192) : kTup l st = .ok (.tup l) st := kTup_ok (line8 h)
theorem a21 {st : Store} : mulW (.str "a") (.int 21) st = .ok (.str (repS "a" 21)) st := by
  refine if_pos (?_ : CRepS "a" 21)
  exact ⟨by decide, by decide, by decide +kernel, by decide +kernel, by decide +kernel⟩
theorem ok_a21 : okS (repS "a" 21) = true := by decide +kernel
theorem pu_one {a : W} (h : pu a) : ∀ w ∈ [a], pu w := fun w hw => by
  rw [List.mem_singleton.mp hw]; exact h
def manyZ (L : Int) : Int := if L < 1 ∨ L > 20 then 0 else if L = 1 then 36 else 36 * 36 * 37 ^ (L - 2).toNat
theorem mul_small {i j : Int} {st : Store} (h : -2 ^ 64 < j) (h' : j < 2 ^ 64) : mulW (.int i) (.int j) st = .ok (.int (i * j)) st := mul_okQ (IntMulOk.of_right (intBits_le_64 h h'))
theorem mul_loop {t : DT} {b : DS} {f : Int} {n : Nat} {st : Store} {E : Option W → Int → EnvW} {k : Int} (ht : ∀ w v a s, ∃ v', t w (E v a) s = some (E v' a, s))
    (hb : ∀ v a s, b (E v a) s = .go .nx (E v (a * k)) s) (v : Option W) : ∃ v', forW (ItW.mk (intsW 0 n) none).Chk t b (intsW 0 n) (E v f) st = .go .nx (E v' (f * k ^ n)) st := by
  obtain ⟨env', st', e, v', rfl, rfl⟩ := forW_ok (chk := (ItW.mk (intsW 0 n) none).Chk) (t := t) (b := b) (fun i env S => ∃ v, env = E v (f * k ^ i) ∧ S = st) (fun _ _ _ _ => by simp) (intsW 0 n) 0 (E v f) st
    (fun i w env S hw hI => by
      obtain ⟨v, rfl, rfl⟩ := hI
      obtain ⟨v', e⟩ := ht w v (f * k ^ (0 + i)) S
      refine ⟨_, _, _, _, e, hb _ _ _, v', ?_, rfl⟩
      rw [Int.pow_succ, Int.mul_assoc]) ⟨v, by simp, rfl⟩
  refine ⟨v', ?_⟩
  rw [e]
  simp [intsW]
def mN (L : Nat) : Nat := if L < 1 ∨ L > 20 then 0 else if L = 1 then 36 else 36 * 36 * 37 ^ (L - 2)
def aN : Nat → Nat
  | 0 => 0
  | L + 1 => aN L + mN L
theorem mN_big {L : Nat} (h : 2 ≤ L) (h' : L ≤ 20) : mN L = 36 * 37 ^ (L - 2) * 36 := by
  unfold mN; rw [if_neg (by omega), if_neg (by omega)]
  generalize 37 ^ (L - 2) = x
  omega
theorem lex_app : ∀ {a b : List Nat} (c d : List Nat), a < b → a.length = b.length → a ++ c < b ++ d
  | [], [], _, _, h, _ => absurd h (List.lt_irrefl _)
  | [], _ :: _, _, _, _, e => by simp at e
  | _ :: _, [], _, _, _, e => by simp at e
  | x :: a, y :: b, c, d, h, e => by
    rw [List.cons_lt_cons_iff] at h
    rw [List.cons_append, List.cons_append, List.cons_lt_cons_iff]
    rcases h with h | ⟨h1, h2⟩
    · exact .inl h
    · exact .inr ⟨h1, lex_app c d h2 (by simpa using e)⟩
theorem aN_mono {i : Nat} : ∀ {j : Nat}, i ≤ j → aN i ≤ aN j
  | 0, h => by have : i = 0 := by omega
               subst this; exact Nat.le_refl _
  | j + 1, h => by
    by_cases e : i = j + 1
    · subst e; exact Nat.le_refl _
    · have := aN_mono (i := i) (j := j) (by omega)
      simp only [aN]; omega
theorem aN_step {i L : Nat} (h : i < L) : aN i + mN i ≤ aN L := aN_mono (i := i + 1) (j := L) h
theorem manyZ_nat (L : Nat) : manyZ (L : Int) = (mN L : Int) := by
  unfold manyZ mN
  by_cases h : L < 1 ∨ L > 20
  · rw [if_pos (by omega), if_pos h]; rfl
  · rw [if_neg (by omega), if_neg h]
    by_cases h1 : L = 1
    · rw [if_pos (by omega), if_pos h1]; rfl
    · rw [if_neg (by omega), if_neg h1, show ((L : Int) - 2).toNat = L - 2 by omega]
      simp
theorem mN_lt (L : Nat) : mN L < 2 ^ 105 := by
  unfold mN
  split
  · decide
  · split
    · decide
    · rename_i h _
      have : 37 ^ (L - 2) ≤ 37 ^ 18 := Nat.pow_le_pow_right (by decide) (by omega)
      have e : 36 * 36 * 37 ^ 18 < 2 ^ 105 := by decide +kernel
      exact Nat.lt_of_le_of_lt (Nat.mul_le_mul_left _ this) e
def numsW (l : List Int) : List W := l.map W.int
theorem sum_at {S : Store} {q : Nat} {l : List Int} (h : S[q]? = some (.lst (l.map W.int))) : sumW [.loc q] S = .ok (.int l.sum) S := by
  unfold sumW nums lstW
  simp only [h, Option.bind_some, List.map_map]
  have e : allO (l.map (inOf ∘ W.int)) = some (l.map id) := allO_of _ id _ fun _ _ => rfl
  rw [e]
  simp
theorem ix_nums {S : Store} {q : Nat} {l : List Int} (h : S[q]? = some (.lst (l.map W.int))) {j : Nat} (hj : j < l.length) : ixW (.loc q) (.int (j : Int)) S = .ok (.int (l.getD j 0)) S := by
  unfold ixW seqW
  simp only [h]
  rw [atI_nat (by simpa using hj), List.getElem?_map, List.getElem?_eq_getElem hj]
  simp [hj]
theorem len_nums {S : Store} {q : Nat} {l : List Int} (h : S[q]? = some (.lst (l.map W.int))) : lenW [.loc q] S = .ok (.int (l.length : Int)) S := by
  rw [len_seq (ws := l.map W.int) (by simp [seqW, h])]; simp
theorem app_nums {S : Store} {q : Nat} {ws : List W} {w : W} (h : S[q]? = some (.lst ws)) (hl : ws.length < sizeLine) : appendW (.loc q) [w] S = .ok .non (S.set q (.lst (ws ++ [w]))) := by
  unfold appendW; simp only [h, if_pos hl]
def MANYZ : List Int := (List.range 21).map fun i : Nat => manyZ (i : Int)
theorem MANYZ_len : MANYZ.length = 21 := by simp [MANYZ]
theorem MANYZ_get {j : Nat} (h : j < 21) : MANYZ.getD j 0 = (mN j : Int) := by
  unfold MANYZ
  rw [List.getD_eq_getElem?_getD, List.getElem?_map, List.getElem?_range h]
  simp only [Option.map_some, Option.getD_some]
  rw [manyZ_nat]
def term (ns : List Int) (i : Nat) : Int := (mN (1 + i) : Int) * ns.getD (ns.length - 1 - (1 + i)) 0
def nextN (ns : List Int) : Int := ((List.range (min 20 (ns.length - 1))).map (term ns)).sum
def NN : Nat → List Int
  | 0 => [0, 1]
  | k + 1 => NN k ++ [nextN (NN k)]
theorem NN_len : ∀ k, (NN k).length = k + 2
  | 0 => rfl
  | k + 1 => by rw [NN, List.length_append, NN_len k]; rfl
theorem sum_bound {M : Int} : ∀ {l : List Int}, (∀ x ∈ l, 0 ≤ x ∧ x ≤ M) → 0 ≤ l.sum ∧ l.sum ≤ (l.length : Int) * M
  | [], _ => by simp
  | a :: l, h => by
    obtain ⟨h1, h2⟩ := h a List.mem_cons_self
    obtain ⟨h3, h4⟩ := sum_bound fun x m => h x (List.mem_cons_of_mem _ m)
    rw [List.sum_cons, List.length_cons]
    have : ((l.length + 1 : Nat) : Int) * M = (l.length : Int) * M + M := by rw [Int.natCast_succ, Int.add_mul, Int.one_mul]
    rw [this]
    omega
theorem getD_mem {l : List Int} {j : Nat} : l.getD j 0 ∈ l ∨ l.getD j 0 = 0 := by
  by_cases h : j < l.length
  · left; rw [List.getD_eq_getElem?_getD, List.getElem?_eq_getElem h]; exact List.getElem_mem h
  · right; rw [List.getD_eq_getElem?_getD, List.getElem?_eq_none (by omega)]; rfl
theorem NN_bound : ∀ k, ∀ x ∈ NN k, 0 ≤ x ∧ x < 2 ^ (110 * (k + 1))
  | 0, x, h => by
    simp only [NN, List.mem_cons, List.not_mem_nil, or_false] at h
    rcases h with rfl | rfl <;> decide
  | k + 1, x, h => by
    have ih := NN_bound k
    have hpos : (0 : Int) < 2 ^ (110 * (k + 1)) := Int.pow_pos (by decide)
    have hstep : (2 : Int) ^ (110 * (k + 1 + 1)) = 2 ^ (110 * (k + 1)) * 2 ^ 110 := by rw [← Int.pow_add]; congr 1
    rw [hstep]
    have e110 : (2 : Int) ^ 110 = 2 ^ 105 * 32 := by decide
    have p105 : (0 : Int) < 2 ^ 105 := by decide
    simp only [NN, List.mem_append, List.mem_cons, List.not_mem_nil, or_false] at h
    generalize (2 : Int) ^ (110 * (k + 1)) = B at *
    rw [e110]
    rcases h with h | rfl
    · obtain ⟨h1, h2⟩ := ih x h
      refine ⟨h1, Int.lt_of_lt_of_le h2 ?_⟩
      have : B * 1 ≤ B * (2 ^ 105 * 32) := Int.mul_le_mul_of_nonneg_left (by decide) (by omega)
      omega
    · have key : ∀ x ∈ (List.range (min 20 ((NN k).length - 1))).map (term (NN k)), 0 ≤ x ∧ x ≤ 2 ^ 105 * B := fun x hx => by
        obtain ⟨i, _, rfl⟩ := List.mem_map.mp hx
        have hm : (mN (1 + i) : Int) < 2 ^ 105 := by
          have := mN_lt (1 + i)
          have e : ((2 ^ 105 : Nat) : Int) = 2 ^ 105 := by decide
          omega
        have hg : 0 ≤ (NN k).getD ((NN k).length - 1 - (1 + i)) 0 ∧ (NN k).getD ((NN k).length - 1 - (1 + i)) 0 < B := by
          rcases getD_mem (l := NN k) (j := (NN k).length - 1 - (1 + i)) with h | h
          · exact ih _ h
          · rw [h]; exact ⟨Int.le_refl _, hpos⟩
        unfold term
        generalize (NN k).getD ((NN k).length - 1 - (1 + i)) 0 = y at *
        refine ⟨Int.mul_nonneg (by omega) hg.1, ?_⟩
        exact Int.mul_le_mul (by omega) (by omega) hg.1 (by omega)
      obtain ⟨s1, s2⟩ := sum_bound key
      refine ⟨s1, Int.lt_of_le_of_lt s2 ?_⟩
      have hl : (((List.range (min 20 ((NN k).length - 1))).map (term (NN k))).length : Int) ≤ 20 := by simp; omega
      have hq : (0 : Int) ≤ 2 ^ 105 * B := Int.mul_nonneg (by omega) (by omega)
      have h1 := Int.mul_le_mul_of_nonneg_right hl hq
      have h2 : B * (2 ^ 105 * 32) = 32 * (2 ^ 105 * B) := by
        rw [Int.mul_comm (2 ^ 105) 32, ← Int.mul_assoc, Int.mul_comm B 32, Int.mul_assoc, Int.mul_comm B]
      have hq' : (0 : Int) < 2 ^ 105 * B := Int.mul_pos p105 hpos
      rw [h2]
      generalize (2 : Int) ^ 105 * B = C at *
      omega
theorem mul_term {k L j : Nat} {st : Store} (hk : k ≤ 400) : mulW (.int (mN L : Int)) (.int ((NN k).getD j 0)) st = .ok (.int ((mN L : Int) * (NN k).getD j 0)) st := by
  refine mul_okQ (IntMulOk.of_le (m := 105) (n := 110 * 401) (intBits_le ?_) (intBits_le ?_) (by decide))
  · have := mN_lt L; rw [Int.natAbs_natCast]; exact this
  · have hb : 0 ≤ (NN k).getD j 0 ∧ (NN k).getD j 0 < 2 ^ (110 * (k + 1)) := by
      rcases getD_mem (l := NN k) (j := j) with h | h
      · exact NN_bound k _ h
      · rw [h]; exact ⟨Int.le_refl _, Int.pow_pos (by decide)⟩
    generalize (NN k).getD j 0 = y at *
    have e : (2 : Int) ^ (110 * (k + 1)) = ((2 ^ (110 * (k + 1)) : Nat) : Int) := by simp
    rw [e] at hb
    have : (2 : Nat) ^ (110 * (k + 1)) ≤ 2 ^ (110 * 401) := Nat.pow_le_pow_right (by decide) (by omega)
    generalize (2 : Nat) ^ (110 * (k + 1)) = u at *
    generalize (2 : Nat) ^ (110 * 401) = v at *
    omega
theorem Ext.takeEq {p : Nat} {st st' : Store} (h : Ext p st st') (hp : st.length ≤ p) : st'.take st.length = st := by
  apply List.ext_getElem?
  intro i
  rw [List.getElem?_take]
  split
  · rename_i hi; exact h.keep i hi (by omega)
  · rename_i hi; rw [List.getElem?_eq_none (by omega)]
theorem nums_cl {n : Nat} {l : List Int} : clBs n (l.map W.int) = true := by
  induction l with
  | nil => rfl
  | cons a l ih => simpa [clBs, clB] using ih
theorem ints_map (lo : Int) (n : Nat) : intsW lo n = (List.range n).map fun i : Nat => W.int (lo + (i : Int)) := rfl
structure NSt (st : Store) (k : Nat) (S : Store) : Prop where
  ext : Ext (st.length + 1) st S
  le : st.length + 1 < S.length
  m : S[st.length]? = some (.lst (MANYZ.map W.int))
  n : S[st.length + 1]? = some (.lst ((NN k).map W.int))
theorem NSt.zero (st : Store) : NSt st 0 (st ++ [.lst (MANYZ.map W.int), .lst [.int 0, .int 1]]) :=
  ⟨.app _, by simp, by simp, by simp [NN]⟩
theorem NSt.step {st S : Store} {k : Nat} (h : NSt st k S) (P : Ob) : NSt st (k + 1) ((S ++ [P]).set (st.length + 1) (.lst ((NN k).map W.int ++ [.int (nextN (NN k))]))) := by
  have hl := h.le
  refine ⟨(h.ext.trans (.app [P])).set (by omega), by simp; omega, ?_, ?_⟩
  · rw [List.getElem?_set_ne (by omega), List.getElem?_append_left (by omega)]; exact h.m
  · rw [List.getElem?_set_self (by simp; omega)]; simp [NN]
theorem prods {st S : Store} {k : Nat} {env : EnvW} {i : Nat} {e : D W} (h : NSt st k S) (hk : k ≤ 399)
    (he : ∀ j : Nat, j < min 20 (k + 1) → e (env.set i (some (.int (1 + (j : Int))))) S = (ixW (.loc st.length) (.int (1 + (j : Int))) S).bind (fun a s => (ixW (.loc (st.length + 1)) (.int ((k : Int) + 1 - (1 + (j : Int)))) s).bind (mulW a))) :
    kLc env (tName i) dYes e ⟨intsW 1 (min 20 (k + 1)), none⟩ S = .ok (.loc S.length) (S ++ [.lst (((List.range (min 20 (k + 1))).map (term (NN k))).map W.int)]) := by
  have := kLc_mapB (env := env) (i := i) (e := e) (st := S) (src := none) (fun j : Nat => W.int (1 + (j : Int))) (fun j : Nat => W.int (term (NN k) j)) (List.range (min 20 (k + 1))) (by simp) (fun j hj => by
    have hj : j < min 20 (k + 1) := by simpa using hj
    rw [he j hj]
    have i1 : ixW (.loc st.length) (.int (1 + (j : Int))) S = .ok (.int (mN (1 + j))) S := by
      have := ix_nums h.m (j := 1 + j) (by rw [MANYZ_len]; omega)
      rw [MANYZ_get (by omega)] at this
      rw [← this]; congr 2 <;> omega
    have i2 : ixW (.loc (st.length + 1)) (.int ((k : Int) + 1 - (1 + (j : Int)))) S = .ok (.int ((NN k).getD (k + 1 - (1 + j)) 0)) S := by
      have := ix_nums h.n (j := k + 1 - (1 + j)) (by rw [NN_len]; omega)
      rw [← this]; congr 2 <;> omega
    rw [i1, Res.bind_ok, i2, Res.bind_ok, mul_term (by omega)]
    unfold term
    rw [NN_len]; rfl) (by simp; exact Nat.le_trans (Nat.min_le_left _ _) (by decide))
  rw [List.map_map]
  exact this
theorem while_inv {c : D Bool} {b : DS} (I : Nat → EnvW → Store → Prop) (n : Nat) (hs : ∀ i env st, i < n → I i env st → ∃ env2 st2, c env st = .ok true st ∧ b env st = .go .nx env2 st2 ∧ I (i + 1) env2 st2)
    (he : ∀ env st, I n env st → c env st = .ok false st) {env : EnvW} {st : Store} (h0 : I 0 env st) : ∃ env' st', sWhile c b env st = .go .nx env' st' ∧ I n env' st' := by
  have key : ∀ m i env st, i + m = n → I i env st → ∃ env' st', whileF c b (m + 1) env st = .go .nx env' st' ∧ I n env' st' := by
    intro m
    induction m with
    | zero =>
      intro i env st hi h
      have : i = n := by omega
      subst this
      refine ⟨env, st, ?_, h⟩
      unfold whileF
      rw [he env st h]; rfl
    | succ m ih =>
      intro i env st hi h
      obtain ⟨env2, st2, e1, e2, h2⟩ := hs i env st (by omega) h
      obtain ⟨env', st', e3, h3⟩ := ih (i + 1) env2 st2 (by omega) h2
      refine ⟨env', st', ?_, h3⟩
      unfold whileF
      rw [e1]
      simp only [Res.then_ok, if_true]
      rw [e2]; exact e3
  obtain ⟨env', st', e, h⟩ := key n 0 env st (by omega) h0
  exact ⟨env', st', sWhile_eq _ e (by simp), h⟩
@[simp] theorem rngW_i {i j : Int} {st : Store} : rngW [.int i, .int j] st = .ok (.rng i j) st := rfl
theorem itOf_rng {i j : Int} {st : Store} (h0 : 0 ≤ i) (h1 : i < 2 ^ 62) (h : 0 ≤ j) (h' : j < 2 ^ 62) : itOf (.rng i j) st = .ok ⟨intsW i (j - i).toNat, none⟩ st := by
  show (if _ then _ else _) = _
  rw [if_pos ⟨by omega, h1, by omega, h'⟩]
theorem sl_take {S : Store} {k n : Nat} {ws : List W} (h : S[k]? = some (.lst ws)) : slW (.loc k) none (some (n : Int)) S = .ok (.loc S.length) (S ++ [.lst (ws.take n)]) := by
  unfold slW lstW
  simp only [h]
  rw [cut_to]
theorem min20 (k : Nat) : (if (k : Int) + 1 < 20 then (k : Int) + 1 else 20) = ((min 20 (k + 1) : Nat) : Int) := by
  split <;> omega
theorem p1_toNat (n : Nat) : ((n : Int) + 1 - 1).toNat = n := by omega
theorem nums_end {st S : Store} {n : Nat} {k : Nat} (h : NSt st k S) : gc st (.loc S.length) (S ++ [.lst (((NN k).map W.int).take n)]) = .ok (.loc st.length) (st ++ [.lst (((NN k).take n).map W.int)]) := by
  have hl := h.le
  have := gc_new (p := st.length + 1) (st := st) (st' := S ++ [.lst (((NN k).map W.int).take n)]) (m := S.length) (ws := ((NN k).take n).map W.int) (h.ext.trans (.app _)) (fun o hp _ => absurd hp (by omega)) (by omega) (by rw [List.map_take]; simp) nums_cl
  rw [this, Ext.takeEq (h.ext.trans (.app _)) (by omega)]
def nnS (s : Nat) : Int := (NN (s - 1)).getD s 0
theorem NN_stable {i : Nat} : ∀ {k m : Nat}, i < k + 2 → k ≤ m → (NN m).getD i 0 = (NN k).getD i 0
  | k, 0, h, hm => by have : k = 0 := by omega
                      subst this; rfl
  | k, m + 1, h, hm => by
    by_cases e : k = m + 1
    · subst e; rfl
    · rw [← NN_stable (k := k) (m := m) h (by omega), NN, List.getD_eq_getElem?_getD, List.getElem?_append_left (by rw [NN_len]; omega), List.getD_eq_getElem?_getD]
theorem due_get {most s : Nat} (h : s ≤ most) : ((NN (most - 1)).take (most + 1)).getD s 0 = nnS s := by
  rw [List.getD_eq_getElem?_getD, List.getElem?_take, if_pos (by omega), ← List.getD_eq_getElem?_getD]
  exact NN_stable (by omega) (by omega)
theorem due_len (most : Nat) : ((NN (most - 1)).take (most + 1)).length = most + 1 := by
  rw [List.length_take, NN_len]; omega
def sgn (c : Nat) : W := .str ⟨#[c]⟩
def txt (l : List Nat) : Str := ⟨l.toArray⟩
theorem cl_txt (l : List Nat) : cl (txt l) = l := rfl
theorem txt_len (l : List Nat) : (txt l).length = l.length := rfl
theorem txt_one (c : Nat) : txt [c] = ⟨#[c]⟩ := rfl
theorem dm_ok {n m : Nat} {st : Store} (h : 0 < m) (h' : m < 100) : divmodW [.int (n : Int), .int (m : Int)] st = .ok (.tup [.int ((n / m : Nat) : Int), .int ((n % m : Nat) : Int)]) st := by
  have : CDiv (n : Int) (m : Int) := ⟨by omega, by omega⟩
  unfold divmodW
  simp only [if_pos this]
  rfl
theorem dm36 {n : Nat} {st : Store} : divmodW [.int (n : Int), .int 36] st = .ok (.tup [.int ((n / 36 : Nat) : Int), .int ((n % 36 : Nat) : Int)]) st := dm_ok (m := 36) (by decide) (by decide)
theorem dm37 {n : Nat} {st : Store} : divmodW [.int (n : Int), .int 37] st = .ok (.tup [.int ((n / 37 : Nat) : Int), .int ((n % 37 : Nat) : Int)]) st := dm_ok (m := 37) (by decide) (by decide)
theorem kAsg_2 {i j : Nat} {a b : W} {env : EnvW} {st : Store} : kAsg (tTupT [tName i, tName j]) env (.tup [a, b]) st = .go .nx ((env.set i (some a)).set j (some b)) st := rfl
theorem sgn_join {S : Store} {q : Nat} {l : List Nat} (h : S[q]? = some (.lst (l.map sgn))) (hl : l.length ≤ 8192) : joinW (.str "") [.loc q] S = .ok (.str (txt l)) S := by
  have e : l.map sgn = (l.map fun c => (⟨#[c]⟩ : Str)).map W.str := by rw [List.map_map]; rfl
  rw [e] at h
  have hs : ((l.map fun c => (⟨#[c]⟩ : Str)).map (·.length)).sum + (l.map fun c => (⟨#[c]⟩ : Str)).length * ("" : Str).length ≤ 16777216 := by
    have h0 : ("" : Str).length = 0 := rfl
    rw [h0, Nat.mul_zero, Nat.add_zero]
    have := sum_le (xs := l.map fun c => (⟨#[c]⟩ : Str)) (f := (·.length)) (k := 1) (fun x hx => by
      obtain ⟨c, _, rfl⟩ := List.mem_map.mp hx
      exact Nat.le_refl 1)
    rw [List.length_map] at this
    omega
  rw [join_at h hs]
  congr 2
  apply str_ext
  rw [join0, cl_txt, List.map_map]
  clear h e hs hl
  induction l with
  | nil => rfl
  | cons a l ih => simpa [cl] using ih
theorem sgn_cl {n : Nat} {c : Nat} : clB n (sgn c) = true := rfl
theorem forW_pre {chk : Store → Prop} {t : DT} {b : DS} (I : Nat → EnvW → Store → Prop) (hc : ∀ i env st, I i env st → chk st) : ∀ (ws : List W) (k : Nat) (env : EnvW) (st : Store),
    (∀ i w env st, ws[i]? = some w → I (k + i) env st → ∃ env1 st1 env2 st2, t w env st = some (env1, st1) ∧ b env1 st1 = .go .nx env2 st2 ∧ I (k + i + 1) env2 st2) → I k env st →
    ∃ env' st', (∀ vs, forW chk t b (ws ++ vs) env st = forW chk t b vs env' st') ∧ I (k + ws.length) env' st'
  | [], k, env, st, _, h => ⟨env, st, fun _ => rfl, h⟩
  | w :: ws, k, env, st, hs, h => by
    obtain ⟨env1, st1, env2, st2, e1, e2, h2⟩ := hs 0 w env st rfl h
    obtain ⟨env', st', e3, h3⟩ := forW_pre I hc ws (k + 1) env2 st2 (fun i w env st hw hI => by
      have := hs (i + 1) w env st (by simpa using hw) (by rwa [show k + (i + 1) = k + 1 + i by omega])
      rwa [show k + (i + 1) + 1 = k + 1 + i + 1 by omega] at this) h2
    refine ⟨env', st', fun vs => ?_, ?_⟩
    · rw [List.cons_append]
      conv => lhs; unfold forW
      rw [if_pos (hc _ _ _ h), e1]
      dsimp only
      rw [e2]; exact e3 vs
    · rw [List.length_cons, show k + (ws.length + 1) = k + 1 + ws.length by omega]; exact h3
theorem ints_get {lo : Int} {n i : Nat} {w : W} (h : (intsW lo n)[i]? = some w) : i < n ∧ w = .int (lo + (i : Int)) := by
  have hi : i < n := by have := (List.getElem?_eq_some_iff.mp h).1; simpa [intsW] using this
  unfold intsW at h
  rw [List.getElem?_map, List.getElem?_range hi] at h
  exact ⟨hi, by simpa using h.symm⟩
theorem ahead_sum : ∀ n : Nat, ((List.range n).map fun i : Nat => ((mN (1 + i) : Nat) : Int)).sum = (aN (n + 1) : Int)
  | 0 => rfl
  | n + 1 => by
    rw [List.range_succ, List.map_append, List.sum_append, ahead_sum n]
    simp only [List.map_cons, List.map_nil, List.sum_cons, List.sum_nil]
    rw [show aN (n + 1 + 1) = aN (n + 1) + mN (n + 1) from rfl, Nat.add_comm 1 n]
    omega
theorem ahead_lc {st : Store} {env : EnvW} {i L : Nat} {e : D W} (h1 : 1 ≤ L) (h2 : L ≤ 21) (he : ∀ j : Nat, e (env.set i (some (.int (1 + (j : Int))))) st = .ok (.int (manyZ (1 + (j : Int)))) st) :
    ∃ g, kLc env (tName i) dYes e ⟨intsW 1 (L - 1), none⟩ st = .ok (.loc st.length) (st ++ [g]) ∧ sumW [.loc st.length] (st ++ [g]) = .ok (.int (aN L : Int)) (st ++ [g]) := by
  have := kLc_mapB (env := env) (i := i) (e := e) (st := st) (src := none) (fun j : Nat => W.int (1 + (j : Int))) (fun j : Nat => W.int ((mN (1 + j) : Nat) : Int)) (List.range (L - 1)) (by simp) (fun j hj => by
    rw [he j, show (1 : Int) + (j : Int) = ((1 + j : Nat) : Int) by omega, manyZ_nat]) (by simp; exact Nat.le_trans (show L ≤ 100 by omega) (by decide))
  refine ⟨_, this, ?_⟩
  rw [sum_at (l := (List.range (L - 1)).map fun i : Nat => ((mN (1 + i) : Nat) : Int)) (by rw [List.map_map]; simp), ahead_sum, show L - 1 + 1 = L by omega]
theorem txt_lenW {l : List Nat} {st : Store} (h : okS (txt l) = true) : lenW [.str (txt l)] st = .ok (.int (l.length : Int)) st := by
  rw [len_str (okS.line h), txt_len]
theorem txt_first {l : List Nat} {st : Store} (h : okS (txt l) = true) (h1 : 1 ≤ l.length) : ixW (.str (txt l)) (.int 0) st = .ok (sgn (l.getD 0 0)) st := by
  obtain ⟨c, e, _, q⟩ := ix_str (x := txt l) (i := 0) (okS.line h) (by decide) (by rw [txt_len]; omega)
  rw [q st]
  have : l.getD 0 0 = c := by rw [List.getD_eq_getElem?_getD]; have e' : l[0]? = some c := e; rw [e']; rfl
  rw [this]; rfl
theorem txt_last {l : List Nat} {st : Store} (h : okS (txt l) = true) (h1 : 1 ≤ l.length) : ixW (.str (txt l)) (.int (-1)) st = .ok (sgn (l.getD (l.length - 1) 0)) st := by
  obtain ⟨c, e, _, q⟩ := ix_strL (x := txt l) (okS.line h) (by rw [txt_len]; omega)
  rw [q st]
  have : l.getD (l.length - 1) 0 = c := by rw [List.getD_eq_getElem?_getD]; have e' : l[l.length - 1]? = some c := e; rw [e']; rfl
  rw [this]; rfl
theorem cut_mid {l : List Nat} (h1 : 2 ≤ l.length) : cutS (txt l) (some 1) (some (-1)) = txt ((l.drop 1).take (l.length - 2)) := by
  apply str_ext
  show List.take _ (List.drop _ l) = _
  have e1 : HT.sIx (txt l).length 0 (some 1) = 1 := by
    unfold HT.sIx
    simp only
    rw [if_neg (by decide), txt_len]
    have : (1 : Int).toNat = 1 := rfl
    rw [this]; omega
  have e2 : HT.sIx (txt l).length (txt l).length (some (-1)) = l.length - 1 := by
    unfold HT.sIx
    simp only
    rw [if_pos (by decide), txt_len]; omega
  rw [e1, e2]
  rfl
theorem signs_txt (l : List Nat) : MP.signs (txt l) = l.map sgn := rfl
theorem sgn_set {l : List Nat} {i c : Nat} : (l.map sgn).set i (sgn c) = (l.set i c).map sgn := by rw [List.map_set]
@[simp] theorem sTryEach_ap (b : DS) (l : List ClD) (env : EnvW) (st : Store) : sTryEach b l env st = kEach l (b env st) := rfl
theorem gc_any {st g : Store} {m : Nat} {ws : List W} (hm : st.length ≤ m) (e : (st ++ g)[m]? = some (.lst ws)) : ∃ q g', gc st (.loc m) (st ++ g) = .ok (.loc q) (st ++ g') ∧ (st ++ g')[q]? = some (.lst ws) ∧ (clBs st.length ws = true ∨ g' = g) := by
  by_cases h : clBs st.length ws = true
  · exact ⟨st.length, [.lst ws], gc_newA hm e h, by simp, .inl h⟩
  · have g0 : GcOk st (st ++ g) := fun i hi => .inl (List.getElem?_append_left hi)
    have hv : ¬ clB st.length (.loc m) = true := by simp [clB]; omega
    refine ⟨m, g, ?_, e, .inr rfl⟩
    unfold gc; rw [if_pos g0, if_neg hv]
    simp only [e, if_neg h]
theorem pic_cl {st g g' : Store} {w u : W} (h : Pic (st ++ g) w u) (hc : clB st.length w = true) : Pic (st ++ g') w u := by
  cases h with
  | pu _ h => exact .pu _ h
  | ls k ws h hl hw =>
    have hk : k < st.length := by simpa [clB] using hc
    refine .ls k ws ?_ hl hw
    rw [List.getElem?_append_left hk] at h ⊢
    exact h
def eL : Str := "label"
def eNum : Str := "number"
theorem ok_eL : okS eL = true := by decide +kernel
theorem ok_eNum : okS eNum = true := by decide +kernel
theorem sub1 : subL [("TreeError", false), ("InvalidLabel", false), ("InvalidNumber", true)] "InvalidNumber" = some true := by decide +kernel
theorem sub2 : subL [("TreeError", false), ("InvalidLabel", false), ("InvalidNumber", true)] "InvalidLabel" = some false := by decide +kernel
theorem sub3 : subL [("TreeError", false), ("InvalidLabel", true), ("InvalidNumber", false)] "InvalidLabel" = some true := by decide +kernel
def rL : List ClD := [(3, subL [("TreeError", false), ("InvalidLabel", false), ("InvalidNumber", true)], fun cN wv => (sAsg (dLst (dCons (dC (.str "number")) (dCons (dExc wv) dNil))) (tName 2))), (3, subL [("TreeError", false), ("InvalidLabel", true), ("InvalidNumber", false)], fun cN wv => (sAsg (dLst (dCons (dC (.str "label")) (dCons (dExc wv) dNil))) (tName 2)))]
theorem each_num {a b c d : Option W} {w : W} {T : Store} : kEach rL (.err "InvalidNumber" w [a, b, c, d] T) = .go .nx [a, b, some (.loc T.length), none] (T ++ [.lst [.str eNum, w]]) := by
  have kl : kLst [.str "number", w] T = .ok (.loc T.length) (T ++ [.lst [.str eNum, w]]) := lst5 (by simp)
  unfold kEach rL eachC
  simp only [sub1, List.length_cons, List.length_nil, Nat.reduceAdd, Nat.reduceLT, if_true]
  simp -implicitDefEqProofs [kl]
theorem each_lab {a b c d : Option W} {w : W} {T : Store} : kEach rL (.err "InvalidLabel" w [a, b, c, d] T) = .go .nx [a, b, some (.loc T.length), none] (T ++ [.lst [.str eL, w]]) := by
  have kl : kLst [.str "label", w] T = .ok (.loc T.length) (T ++ [.lst [.str eL, w]]) := lst5 (by simp)
  unfold kEach rL eachC
  simp only [sub2]
  unfold eachC
  simp only [sub3, List.length_cons, List.length_nil, Nat.reduceAdd, Nat.reduceLT, if_true]
  simp -implicitDefEqProofs [kl]
@[simp] theorem neW_i {i j : Int} {st : Store} : neW (.int i) (.int j) st = .ok (.bl (!(i == j))) st := by
  rw [pic_ne (.pu _ rfl) (.pu _ rfl)]
  simp only [dU, d5, dat, PyData.eqv.eq_5]
theorem log_big {m : Int} {k : Nat} (h0 : 0 < m) (h : m < 2 ^ k) (hk : k ≤ 8000) : m.natAbs.log2 < 9000 := by
  have h1 : m.natAbs ≠ 0 := by omega
  have h2 : m.natAbs < 2 ^ k := by
    have e : (2 : Int) ^ k = ((2 ^ k : Nat) : Int) := by simp
    rw [e] at h
    omega
  have := (Nat.log2_lt h1).mpr h2
  omega
theorem seq_loc {S : Store} {k : Nat} {ws : List W} (h : S[k]? = some (.lst ws)) : seqW S (.loc k) = some ws := by simp [seqW, h]
theorem mN_pos {L : Nat} (h : 1 ≤ L) (h' : L ≤ 20) : 0 < mN L := by
  unfold mN
  rw [if_neg (by omega)]
  split
  · decide
  · exact Nat.mul_pos (by decide) (Nat.pow_pos (by decide))
theorem mN_log {L : Nat} (h : 1 ≤ L) (h' : L ≤ 20) : (mN L : Int).natAbs.log2 < 9000 := by
  refine log_big (k := 105) (by have := mN_pos h h'; omega) ?_ (by decide)
  have := mN_lt L
  have e : (2 : Int) ^ 105 = ((2 ^ 105 : Nat) : Int) := by decide
  rw [e]; omega
theorem le_same {a b : List Nat} {n : Int} {st : Store} (h : a < b) : leTW (.tup [.int n, .str (txt b)]) (.tup [.int n, .str (txt a)]) st = .ok (.bl false) st := by
  have h1 : (txt b == txt a) = false := by
    rw [Bool.eq_false_iff]
    intro z
    have : txt b = txt a := beq_iff_eq.mp z
    have : b = a := by have := congrArg cl this; rwa [cl_txt, cl_txt] at this
    rw [this] at h
    exact List.lt_irrefl _ h
  have h2 : decide ((txt a).cps.toList < (txt b).cps.toList) = true := decide_eq_true h
  unfold leTW
  simp only [pairsW, pairW, h1, h2, List.length_cons, List.length_nil, Nat.reduceAdd, Nat.min_self]
  simp [Ob.lexAt]
theorem le_more {x y : Str} {n : Int} {st : Store} : leTW (.tup [.int (n + 1), .str y]) (.tup [.int n, .str x]) st = .ok (.bl false) st := by
  have h1 : (n + 1 == n) = false := beq_false_of_ne (by omega)
  have h2 : decide (n + 1 ≤ n) = false := decide_eq_false (by omega)
  unfold leTW
  simp only [pairsW, pairW, h1, h2, List.length_cons, List.length_nil, Nat.reduceAdd, Nat.min_self]
  simp [Ob.lexAt]
theorem isi_int {z : Int} {st : Store} : isiW [.int z, .gl (.ty "int")] st = .ok (.bl true) st := isi_of (t := "int") rfl (kB_int (.int z))
theorem isi_int_b {z : Int} {st : Store} : isiW [.int z, .gl (.ty "bool")] st = .ok (.bl false) st := isi_of (t := "int") rfl (kB_bool (.int z))
theorem num_pic {S : Store} {q : Nat} {v : Int} (h : S[q]? = some (.lst [.str eNum, .int v])) : Pic S (.loc q) (.fro [.str eNum, .int v]) := .ls q _ h (by simp) (fun w hw => by
  simp only [List.mem_cons, List.not_mem_nil, or_false] at hw
  rcases hw with rfl | rfl
  · exact ok_eNum
  · rfl)
theorem num_eq {S : Store} {q q' : Nat} {v : Int} (h : S[q]? = some (.lst [.str eNum, .int v])) (h' : S[q']? = some (.lst [.str eNum, .int v])) : eqW (.loc q) (.loc q') S = .ok (.bl true) S := by
  rw [pic_eq (num_pic h) (num_pic h'), (num_pic h).refl]
theorem num_ne {S : Store} {q q' : Nat} {v : Int} (h : S[q]? = some (.lst [.str eNum, .int v])) (h' : S[q']? = some (.lst [.str eNum, .int v])) : neW (.loc q) (.loc q') S = .ok (.bl false) S := by
  rw [pic_ne (num_pic h) (num_pic h'), (num_pic h).refl]; rfl
theorem lab_data {S : Store} {q : Nat} {a u : W} (h : S[q]? = some (.lst [.str eL, a])) (hp : Pic S a u) : datF S 66 (.loc q) = some (.list [.str eL, dU u]) ∧ SeqAt.shaped (.list [.str eL, dU u]) = true := by
  constructor
  · have h1 : datF S 65 a = some (dU u) := hp.dat 65 (by decide)
    have h2 : datF S 65 (.str eL) = some (.str eL) := rfl
    show (match S[q]? with | some (.lst ws) => (allO (ws.map (datF S 65))).map PyData.list | none => none) = _
    rw [h]
    simp only [List.map_cons, List.map_nil, h1, h2, allO, Option.map_some]
  · obtain ⟨c, d⟩ := hp.shp
    refine shaped_of ⟨?_, ?_⟩
    · show PyData.canLayAll0 [.str eL, dU u] = true
      rw [PyData.canLayAll0.eq_2, PyData.canLayAll0.eq_2, c]
      exact (by decide +kernel : ((PyData.str eL).canLay0 && (true && PyData.canLayAll0 [])) = true)
    · rw [PyData.depth.eq_1, PyData.depthAll.eq_2, PyData.depthAll.eq_2]
      have : (PyData.str eL).depth = 0 := rfl
      have h0 : PyData.depthAll [] = 0 := rfl
      rw [this, h0]; omega
theorem lab_eq {S : Store} {q q' : Nat} {a b u : W} (h : S[q]? = some (.lst [.str eL, a])) (h' : S[q']? = some (.lst [.str eL, b])) (hp : Pic S a u) (hp' : Pic S b u) : eqW (.loc q) (.loc q') S = .ok (.bl true) S := by
  obtain ⟨d1, s1⟩ := lab_data h hp
  obtain ⟨d2, s2⟩ := lab_data h' hp'
  rw [eqW_of d1 d2 s1 s2]
  congr 2
  rw [PyData.eqv.eq_7, PyData.eqvAll.eq_2, PyData.eqvAll.eq_2, hp.refl, PyData.eqv.eq_6]
  simp [PyData.eqvAll.eq_1]
theorem eq_a {w u : W} {st : Store} (h : Pic st w u) : (u = .str "a" ∧ w = .str "a" ∧ eqW w (.str "a") st = .ok (.bl true) st) ∨ (u ≠ .str "a" ∧ eqW w (.str "a") st = .ok (.bl false) st) := by
  have ha : okS ("a" : Str) = true := by decide +kernel
  have e := pic_eq h (.pu (st := st) (.str "a") (pu_str ha))
  by_cases hu : u = .str "a"
  · subst hu
    obtain ⟨rfl, _⟩ := Pic.str h
    refine .inl ⟨rfl, rfl, ?_⟩
    rw [eqW_str ha ha]; simp
  · refine .inr ⟨hu, ?_⟩
    rw [e]
    congr 2
    cases h with
    | pu _ hp =>
      rw [dU_pu hp]
      show (dat 5 w).eqv (.str "a") = false
      rw [eqv_str]
      cases w with
      | str y =>
        simp only
        exact beq_false_of_ne (fun z => hu (by rw [z]))
      | _ => rfl
    | ls k ws _ _ _ => rfl
def BAD (w5 : W) : List W := [.str "*", .str (repS "a" 21), .str "", .str "-a", w5, .tup [.str "a"]]
def tW (l : List Nat) : W := .str (txt l)
theorem txt_inj {a b : List Nat} (h : txt a = txt b) : a = b := by
  have := congrArg cl h; rwa [cl_txt, cl_txt] at this
theorem ok_t {l : List Nat} (h : ∀ c ∈ l, c < 128) (hl : l.length ≤ 8192) : okS (txt l) = true := okS_iff.mpr ⟨hl, h⟩
theorem in_ints {neg : Bool} {x : Int} {xs : List Int} {k : Nat} {st : Store} (h : st[k]? = some (.lst (xs.map W.int))) : inW neg (.int x) (.loc k) st = .ok (.bl (if neg then !decide (x ∈ xs) else decide (x ∈ xs))) st := by
  unfold inW inB
  have e : allO ((xs.map W.int).map flV) = some (xs.map V.int) := by
    rw [List.map_map]; exact allO_of _ V.int xs fun _ _ => rfl
  simp only [seq_loc h, flV, e]
  have : inV (V.int x) (xs.map V.int) = decide (x ∈ xs) := by
    unfold inV
    rw [List.any_map, Bool.eq_iff_iff, List.any_eq_true, decide_eq_true_iff]
    constructor
    · rintro ⟨y, hy, e⟩
      have : y = x := by simpa [L2.eqV] using e
      rw [← this]; exact hy
    · exact fun h => ⟨x, h, by simp [L2.eqV]⟩
  rw [this]
theorem in_txts {neg : Bool} {x : List Nat} {xs : List (List Nat)} {k : Nat} {st : Store} (h : st[k]? = some (.lst (xs.map tW))) : inW neg (tW x) (.loc k) st = .ok (.bl (if neg then !decide (x ∈ xs) else decide (x ∈ xs))) st := by
  unfold inW inB
  have e : allO ((xs.map tW).map flV) = some (xs.map fun l => V.str (txt l)) := by
    rw [List.map_map]; exact allO_of _ (fun l => V.str (txt l)) xs fun _ _ => rfl
  simp only [seq_loc h, tW, flV, e]
  have : inV (V.str (txt x)) (xs.map fun l => V.str (txt l)) = decide (x ∈ xs) := by
    unfold inV
    rw [List.any_map, Bool.eq_iff_iff, List.any_eq_true, decide_eq_true_iff]
    constructor
    · rintro ⟨y, hy, e⟩
      have : txt y = txt x := by simpa [L2.eqV] using e
      rw [← txt_inj this]; exact hy
    · exact fun h => ⟨x, h, by simp [L2.eqV]⟩
  rw [this]
theorem lcW_filter {β : Type} {chk : Store → Prop} {env : EnvW} {i : Nat} {c : D Bool} {e : D W} {st : Store} (k g : β → W) (q : β → Bool) (hc : chk st) : ∀ (l : List β) (acc : List W), (∀ b ∈ l, c (env.set i (some (k b))) st = .ok (q b) st ∧ (q b = true → e (env.set i (some (k b))) st = .ok (g b) st)) → acc.length + l.length ≤ sizeLine →
    lcW chk env (tName i) c e (l.map k) acc st = some (acc ++ (l.filter q).map g, st)
  | [], acc, _, _ => by unfold lcW; simp only [List.map_nil]; rw [if_pos hc]; simp
  | b :: l, acc, hs, hl => by
    simp only [List.length_cons] at hl
    simp only [List.map_cons]
    obtain ⟨h1, h2⟩ := hs b List.mem_cons_self
    have ih := fun acc => lcW_filter k g q hc l acc fun w m => hs w (List.mem_cons_of_mem _ m)
    unfold lcW
    rw [if_pos hc]
    dsimp only [tName]
    rw [h1]
    cases hq : q b with
    | true =>
      dsimp only
      rw [h2 hq]
      dsimp only
      rw [if_pos (by omega), ih (acc ++ [g b]) (by simp; omega)]
      simp [hq]
    | false =>
      dsimp only
      rw [ih acc (by omega)]
      simp [hq]
theorem kLc_filter {β : Type} {env : EnvW} {i : Nat} {c : D Bool} {e : D W} {st : Store} {src : Option Nat} (k g : β → W) (q : β → Bool) (l : List β) (hc : (ItW.mk (l.map k) src).Chk st) (hs : ∀ b ∈ l, c (env.set i (some (k b))) st = .ok (q b) st ∧ (q b = true → e (env.set i (some (k b))) st = .ok (g b) st)) (hl : l.length ≤ sizeLine) :
    kLc env (tName i) c e ⟨l.map k, src⟩ st = .ok (.loc st.length) (st ++ [.lst ((l.filter q).map g)]) := by
  unfold kLc
  simp only
  rw [lcW_filter k g q hc l [] hs (by simpa using hl)]
  simp
theorem least {P : Nat → Prop} : ∀ n, (∃ i, i < n ∧ P i) → ∃ i, i < n ∧ P i ∧ ∀ j, j < i → ¬ P j
  | 0, h => by obtain ⟨i, hi, _⟩ := h; omega
  | n + 1, h => by
    by_cases q : ∃ i, i < n ∧ P i
    · obtain ⟨i, h1, h2, h3⟩ := least n q
      exact ⟨i, by omega, h2, h3⟩
    · obtain ⟨i, hi, hp⟩ := h
      refine ⟨i, hi, hp, fun j hj hq => q ⟨j, by omega, hq⟩⟩
theorem ints0 (n : Nat) : intsW 0 n = (List.range n).map fun i : Nat => W.int (i : Int) := by simp [intsW]
theorem ix_tW {S : Store} {q i : Nat} {l : List (List Nat)} (h : S[q]? = some (.lst (l.map tW))) (hi : i < l.length) : ixW (.loc q) (.int (i : Int)) S = .ok (tW (l.getD i [])) S := by
  unfold ixW
  simp only [seq_loc h]
  rw [atI_nat (by simpa using hi), List.getElem?_map, List.getElem?_eq_getElem hi]
  simp [hi]
theorem listA_loc {S : Store} {q : Nat} {ws : List W} (h : S[q]? = some (.lst ws)) : listAW [.loc q] S = .ok (.loc S.length) (S ++ [.lst ws]) := by
  show listW [.loc q] S = _
  unfold listW
  simp only [seq_loc h]
theorem rev_loc {S : Store} {q : Nat} {ws : List W} (h : S[q]? = some (.lst ws)) : revW (.loc q) S = .ok (.loc S.length) (S ++ [.lst ws.reverse]) := by
  unfold revW lstW
  simp only [h]
theorem star_tW : (W.str "*") = tW [42] := by
  have : ("*" : Str) = txt [42] := by decide +kernel
  rw [this]; rfl
theorem txts_pic {S : Store} {q : Nat} {l : List (List Nat)} (h : S[q]? = some (.lst (l.map tW))) (hl : l.length ≤ 8192) (ho : ∀ x ∈ l, okS (txt x) = true) : Pic S (.loc q) (.fro (l.map tW)) := .ls q _ h (by simpa using hl) (fun w hw => by
  obtain ⟨x, hx, rfl⟩ := List.mem_map.mp hw
  exact ho x hx)
def uS5 : DS := (sAsg (dApp listAW (dCons (dVar 4) dNil)) (tName 5))
def uS6 : DS := (sAsg (dOp ixW (dLc (dIt (dVar 1)) [8] (tName 8) (dBool (dOp (inW true) (dVar 8) (dVar 4))) (dVar 8)) (dC (.int 0))) (tName 6))
section
variable {p n R : Nat} {b2 b3 b4 b5 b6 b7 b8 : Option W} {S : Store}
end
end
end MP
namespace K25
open PySem PySem.Spec PyProof.Rows L2 MP
noncomputable section
abbrev top (i : Nat) : Stmt := PySem.Challenge.pw_rootward_k25_steps_on_the_circle.main.body.getD i (.Pass ⟨0, 0, 0, 0⟩)
structure Txt (P : Program) (w : World) (K : PySem.W.Frag) (mg : Str → Option Value) (base : Heap) where
  D_is_whole : DefF K mg "is_whole" "is_whole" (top 5) ["value"]
  D_is_between : DefF K mg "is_between" "is_between" (top 6) ["value", "least", "most"]
  D_rebuilt : DefF K mg "rebuilt" "rebuilt" (top 7) ["value"]
  D_is_serial : DefF K mg "is_serial" "is_serial" (top 13) ["value"]
  D_check_serial : DefF K mg "check_serial" "check_serial" (top 14) ["serial"]
  D__way_round : DefF K mg "_way_round" "_way_round" (top 15) ["one", "other"]
  D_newer : DefF K mg "newer" "newer" (top 16) ["one", "other"]
  D_further : DefF K mg "further" "further" (top 17) ["serial", "steps"]
  D_newest : DefF K mg "newest" "newest" (top 18) ["serials"]
  D__check_ends : DefF K mg "_check_ends" "_check_ends" (top 19) ["one", "other", "missed"]
  D__farthest : DefF K mg "_farthest" "_farthest" (top 20) ["many", "together"]
  D_fewest_steps : DefF K mg "fewest_steps" "fewest_steps" (top 21) ["one", "other", "missed"]
  D_steps : DefF K mg "steps" "steps" (top 22) ["one", "other", "missed"]
  D_judge_steps : DefF K mg "judge_steps" "judge_steps" (top 23) ["one", "other", "missed", "value"]
  D__is_way : DefF K mg "_is_way" "_is_way" (top 24) ["way", "together"]
  D__law_deck : DefF K mg "_law_deck" "_law_deck" (top 26) ["_law_script"]
  D__law_draw : DefF K mg "_law_draw" "_law_draw" (top 27) ["_law_deck_here", "_law_size"]
  D__law_way : DefF K mg "_law_way" "_law_way" (top 28) ["_law_one", "_law_other"]
  D__law_is_newer : DefF K mg "_law_is_newer" "_law_is_newer" (top 29) ["_law_one", "_law_other"]
  D__law_serials : DefF K mg "_law_serials" "_law_serials" (top 30) ["_law_deck_here"]
  D__law_longest : DefF K mg "_law_longest" "_law_longest" (top 31) ["_law_count", "_law_wide"]
  D__law_fewest : DefF K mg "_law_fewest" "_law_fewest" (top 32) ["_law_one", "_law_other", "_law_missed"]
  D__law_is_way : DefF K mg "_law_is_way" "_law_is_way" (top 33) ["_law_one", "_law_other", "_law_missed", "_law_value"]
  D__law_error : DefF K mg "_law_error" "_law_error" (top 34) ["_law_way_here", "_law_first", "_law_second", "_law_third"]
  D__law_errors_right : DefF K mg "_law_errors_right" "_law_errors_right" (top 35) ["_law_deck_here", "_law_one", "_law_other"]
  D__law_circle_right : DefF K mg "_law_circle_right" "_law_circle_right" (top 36) ["_law_deck_here", "_law_one", "_law_other"]
  D__law_spoilt : DefF K mg "_law_spoilt" "_law_spoilt" (top 37) ["_law_deck_here", "_law_one", "_law_other", "_law_way_here"]
  D__law_steps_right : DefF K mg "_law_steps_right" "_law_steps_right" (top 38) ["_law_deck_here", "_law_one", "_law_other", "_law_missed"]
  D_law : DefF K mg "law" "law" (top 39) ["_law_script"]
  k_newest : ∀ (s : Shared) (ws : List Value), K.In s.heap → ws.length = (["serials"] : List Str).length → BindsTo s D_newest.fd ⟨[], (["serials"] : List Str).zip ws⟩ ((["serials"] : List Str).zip ws)
  k_newer_1_0 : ∀ (s : Shared) (ws : List Value), K.In s.heap → ws.length = (["one", "other"] : List Str).length → BindsTo s D_newer.fd ⟨[], (["other", "one"] : List Str).zip ws⟩ ((["one", "other"] : List Str).zip (permL [1, 0] ws))
  k_further_1_0 : ∀ (s : Shared) (ws : List Value), K.In s.heap → ws.length = (["serial", "steps"] : List Str).length → BindsTo s D_further.fd ⟨[], (["steps", "serial"] : List Str).zip ws⟩ ((["serial", "steps"] : List Str).zip (permL [1, 0] ws))
  k_judge_steps_3_2_1_0 : ∀ (s : Shared) (ws : List Value), K.In s.heap → ws.length = (["one", "other", "missed", "value"] : List Str).length → BindsTo s D_judge_steps.fd ⟨[], (["value", "missed", "other", "one"] : List Str).zip ws⟩ ((["one", "other", "missed", "value"] : List Str).zip (permL [3, 2, 1, 0] ws))
  k_fewest_steps_2_1_0 : ∀ (s : Shared) (ws : List Value), K.In s.heap → ws.length = (["one", "other", "missed"] : List Str).length → BindsTo s D_fewest_steps.fd ⟨[], (["missed", "other", "one"] : List Str).zip ws⟩ ((["one", "other", "missed"] : List Str).zip (permL [2, 1, 0] ws))
  k_steps_2_0_1 : ∀ (s : Shared) (ws : List Value), K.In s.heap → ws.length = (["one", "other", "missed"] : List Str).length → BindsTo s D_steps.fd ⟨[], (["other", "missed", "one"] : List Str).zip ws⟩ ((["one", "other", "missed"] : List Str).zip (permL [2, 0, 1] ws))
  E_TreeError : ErF P w K mg base "TreeError"
  E_InvalidNumber : ErF P w K mg base "InvalidNumber"
  E_InvalidSerial : ErF P w K mg base "InvalidSerial"
  c_MOST_SERIAL : ∃ t, mg "MOST_SERIAL" = some (.int 4294967295 t)
  c_ROUND : ∃ t, mg "ROUND" = some (.int 4294967296 t)
  c_REACH : ∃ t, mg "REACH" = some (.int 2147483647 t)
  c_MOST_MISSED : ∃ t, mg "MOST_MISSED" = some (.int 1000 t)
  n_abs : mg "abs" = none
  n_all : mg "all" = none
  n_bool : mg "bool" = none
  n_divmod : mg "divmod" = none
  n_int : mg "int" = none
  n_isinstance : mg "isinstance" = none
  n_len : mg "len" = none
  n_list : mg "list" = none
  n_max : mg "max" = none
  n_min : mg "min" = none
  n_range : mg "range" = none
  n_repr : mg "repr" = none
  n_tuple : mg "tuple" = none
  n_zip : mg "zip" = none
  sub_TreeError : ∀ q ∈ ([("TreeError", true), ("InvalidNumber", true), ("InvalidSerial", true)] : List (Str × Bool)), ∃ C, mg q.1 = some (.ref C) ∧ PySem.W.exmOne K (.ref C) (.ref E_TreeError.C) = some q.2 ∧ XfC K C ∧ PySem.W.findIn K (.ref C) ("value" : Str) = some none
  xc_InvalidNumber : ∀ q ∈ ([("TreeError", false), ("InvalidNumber", true), ("InvalidSerial", false)] : List (Str × Bool)), ∃ C, mg q.1 = some (.ref C) ∧ ExcI K C ∧ PySem.W.kitOne K (.ref C) (.ref E_InvalidNumber.C) = some q.2
  xc_InvalidSerial : ∀ q ∈ ([("TreeError", false), ("InvalidNumber", false), ("InvalidSerial", true)] : List (Str × Bool)), ∃ C, mg q.1 = some (.ref C) ∧ ExcI K C ∧ PySem.W.kitOne K (.ref C) (.ref E_InvalidSerial.C) = some q.2
section
variable {P : Program} {w : World} {K : PySem.W.Frag} {mg : Str → Option Value} {base : Heap}
/-! is_whole -/
theorem sc_is_whole : FnScope ["value"] ["value"] (defScope (top 5)) := ⟨rfl, rfl, rfl, by decide +kernel, rfl, by decide +kernel, by decide +kernel⟩
def b_is_whole : DS := (sRet (dAndV (dApp isiW (dCons (dVar 0) (dCons (dC (.gl (.ty "int"))) dNil))) (dNotV (dApp isiW (dCons (dVar 0) (dCons (dC (.gl (.ty "bool"))) dNil))))))
def d_is_whole : List W → Store → Res W := fnDen 1 b_is_whole
def fn_is_whole (T : Txt P w K mg base) : FnF P w K mg base "is_whole" ["value"] 1 1 d_is_whole :=
  ⟨T.D_is_whole.f, T.D_is_whole.fd, fn_ok (k := 0) T.D_is_whole.F sc_is_whole (fun cdv A outer s H E hr => (is_one (is_ret (ie_and (ie_isi rfl T.n_isinstance (ia_cons (ie_var 0) (ia_cons (ie_ty (T := "int") rfl T.n_int (by decide +kernel)) ia_nil))) (ie_one (ie_notV (ie_isi rfl T.n_isinstance (ia_cons (ie_var 0) (ia_cons (ie_ty (T := "bool") rfl T.n_bool (by decide +kernel)) ia_nil))))))))), T.D_is_whole.m, T.D_is_whole.F.kp, T.D_is_whole.b⟩
/-! is_between -/
theorem sc_is_between : FnScope ["value", "least", "most"] ["value", "least", "most"] (defScope (top 6)) := ⟨rfl, rfl, rfl, by decide +kernel, rfl, by decide +kernel, by decide +kernel⟩
def b_is_between : DS := (sRet (dAndV (dCall 1 d_is_whole (dCons (dVar 0) dNil)) (dChain leW leW (dVar 1) (dVar 0) (dVar 2))))
def d_is_between : List W → Store → Res W := fnDen 3 b_is_between
def fn_is_between (T : Txt P w K mg base) : FnF P w K mg base "is_between" ["value", "least", "most"] 2 3 d_is_between :=
  ⟨T.D_is_between.f, T.D_is_between.fd, fn_ok (k := 1) T.D_is_between.F sc_is_between (fun cdv A outer s H E hr => (is_one (is_ret (ie_and (ie_callF (fn_is_whole T) (hr.mono (by decide)) (takes_of rfl rfl rfl rfl) (ia_cons (ie_var 0) ia_nil)) (ie_one (ie_lele (ie_var 1) (ie_var 0) (ie_var 2))))))), T.D_is_between.m, T.D_is_between.F.kp, T.D_is_between.b⟩
/-! rebuilt -/
theorem sc_rebuilt : FnScope ["value", "part"] ["value"] (defScope (top 7)) := ⟨rfl, rfl, rfl, by decide +kernel, rfl, by decide +kernel, by decide +kernel⟩
def b_rebuilt (rec : List W → Store → Res W) : DS := (sSeq (sIf (dBool (dApp isiW (dCons (dVar 0) (dCons (dC (.gl (.ty "list"))) dNil))))
    (sRet (dLc (dIt (dVar 0)) [1] (tName 1) dYes (dCall 1 rec (dCons (dVar 1) dNil))))
    sNil)
    (sSeq (sIf (dBool (dApp isiW (dCons (dVar 0) (dCons (dC (.gl (.ty "tuple"))) dNil))))
    (sRet (dApp tupleW (dCons (dLc (dIt (dVar 0)) [1] (tName 1) dYes (dCall 1 rec (dCons (dVar 1) dNil))) dNil)))
    sNil)
    (sRet (dVar 0))))
def d_rebuilt : Nat → List W → Store → Res W
  | 0 => fun _ _ => .stuck
  | n + 1 => fnDen 2 (b_rebuilt (d_rebuilt n))
def fn_rebuilt (T : Txt P w K mg base) : (n : Nat) → FnF P w K mg base "rebuilt" ["value"] (0 + n) 1 (d_rebuilt n)
  | 0 => ⟨T.D_rebuilt.f, T.D_rebuilt.fd, fn_stuck, T.D_rebuilt.m, T.D_rebuilt.F.kp, T.D_rebuilt.b⟩
  | n + 1 => ⟨T.D_rebuilt.f, T.D_rebuilt.fd, fn_ok (k := 0 + n) T.D_rebuilt.F sc_rebuilt (fun cdv A outer s H E hr => (is_cons (is_if (it_val (ie_isi rfl T.n_isinstance (ia_cons (ie_var 0) (ia_cons (ie_ty (T := "list") rfl T.n_list (by decide +kernel)) ia_nil))))
    (is_one (is_ret (ie_lc (own := [("part", 1)]) rfl sc_rebuilt.nd (ii_val (ie_var 0)) (blkOk_by (N := ["value", "part"]) (sc := defScope (top 7)) (own := [("part", 1)]) (by decide +kernel)) (fun _ _ _ _ _ => (ig_name (i := 1) (by decide) ExOk.none sc_rebuilt.nd rfl (.inl rfl))) (fun _ _ _ _ _ => (ie_callF (fn_rebuilt T n) (hr) takes0 (ia_cons (ie_var 1) ia_nil))))))
    is_nil)
    (is_cons (is_if (it_val (ie_isi rfl T.n_isinstance (ia_cons (ie_var 0) (ia_cons (ie_ty (T := "tuple") rfl T.n_tuple (by decide +kernel)) ia_nil))))
    (is_one (is_ret (ie_tuple rfl T.n_tuple (ia_cons (ie_lc (own := [("part", 1)]) rfl sc_rebuilt.nd (ii_val (ie_var 0)) (blkOk_by (N := ["value", "part"]) (sc := defScope (top 7)) (own := [("part", 1)]) (by decide +kernel)) (fun _ _ _ _ _ => (ig_name (i := 1) (by decide) ExOk.none sc_rebuilt.nd rfl (.inl rfl))) (fun _ _ _ _ _ => (ie_callF (fn_rebuilt T n) (hr) takes0 (ia_cons (ie_var 1) ia_nil)))) ia_nil))))
    is_nil)
    (is_one (is_ret (ie_var 0)))))), T.D_rebuilt.m, T.D_rebuilt.F.kp, T.D_rebuilt.b⟩
/-! is_serial -/
theorem sc_is_serial : FnScope ["value"] ["value"] (defScope (top 13)) := ⟨rfl, rfl, rfl, by decide +kernel, rfl, by decide +kernel, by decide +kernel⟩
def b_is_serial : DS := (sRet (dCall 3 d_is_between (dCons (dVar 0) (dCons (dC (.int 0)) (dCons (dC (.int 4294967295)) dNil)))))
def d_is_serial : List W → Store → Res W := fnDen 1 b_is_serial
def fn_is_serial (T : Txt P w K mg base) : FnF P w K mg base "is_serial" ["value"] 3 1 d_is_serial :=
  ⟨T.D_is_serial.f, T.D_is_serial.fd, fn_ok (k := 2) T.D_is_serial.F sc_is_serial (fun cdv A outer s H E hr => (is_one (is_ret (ie_callF (fn_is_between T) (hr.mono (by decide)) (takes_of rfl rfl rfl rfl) (ia_cons (ie_var 0) (ia_cons ie_int (ia_cons (ie_gint (i := 4294967295) T.c_MOST_SERIAL.choose_spec) ia_nil))))))), T.D_is_serial.m, T.D_is_serial.F.kp, T.D_is_serial.b⟩
/-! check_serial -/
theorem sc_check_serial : FnScope ["serial"] ["serial"] (defScope (top 14)) := ⟨rfl, rfl, rfl, by decide +kernel, rfl, by decide +kernel, by decide +kernel⟩
def b_check_serial : DS := (sIf (dNot (dBool (dCall 1 d_is_serial (dCons (dVar 0) dNil))))
    (sRaise "InvalidSerial" (dCons (dCall 1 (d_rebuilt 8) (dCons (dVar 0) dNil)) dNil))
    sNil)
def d_check_serial : List W → Store → Res W := fnDen 1 b_check_serial
def fn_check_serial (T : Txt P w K mg base) : FnF P w K mg base "check_serial" ["serial"] 9 1 d_check_serial :=
  ⟨T.D_check_serial.f, T.D_check_serial.fd, fn_ok (k := 8) T.D_check_serial.F sc_check_serial (fun cdv A outer s H E hr => (is_one (is_if (it_not (it_val (ie_callF (fn_is_serial T) (hr.mono (by decide)) (takes_of rfl rfl rfl rfl) (ia_cons (ie_var 0) ia_nil))))
    (is_one (is_raiseF T.E_InvalidSerial (hr.mono (by decide)) (takes_of rfl rfl rfl rfl) (ia_cons (ie_callF (fn_rebuilt T 8) (hr.mono (by decide)) (takes_of rfl rfl rfl rfl) (ia_cons (ie_var 0) ia_nil)) ia_nil)))
    is_nil))), T.D_check_serial.m, T.D_check_serial.F.kp, T.D_check_serial.b⟩
/-! _way_round -/
theorem sc__way_round : FnScope ["one", "other"] ["one", "other"] (defScope (top 15)) := ⟨rfl, rfl, rfl, by decide +kernel, rfl, by decide +kernel, by decide +kernel⟩
def b__way_round : DS := (sRet (dOp modW (dOp subW (dVar 1) (dVar 0)) (dC (.int 4294967296))))
def d__way_round : List W → Store → Res W := fnDen 2 b__way_round
def fn__way_round (T : Txt P w K mg base) : FnF P w K mg base "_way_round" ["one", "other"] 1 2 d__way_round :=
  ⟨T.D__way_round.f, T.D__way_round.fd, fn_ok (k := 0) T.D__way_round.F sc__way_round (fun cdv A outer s H E hr => (is_one (is_ret (ie_mod (ie_sub (ie_var 1) (ie_var 0)) (ie_gint (i := 4294967296) T.c_ROUND.choose_spec))))), T.D__way_round.m, T.D__way_round.F.kp, T.D__way_round.b⟩
/-! newer -/
theorem sc_newer : FnScope ["one", "other"] ["one", "other"] (defScope (top 16)) := ⟨rfl, rfl, rfl, by decide +kernel, rfl, by decide +kernel, by decide +kernel⟩
def b_newer : DS := (sSeq (sExpr (dCall 1 d_check_serial (dCons (dVar 0) dNil)))
    (sSeq (sExpr (dCall 1 d_check_serial (dCons (dVar 1) dNil)))
    (sRet (dChain leW leW (dC (.int 1)) (dCall 2 d__way_round (dCons (dVar 1) (dCons (dVar 0) dNil))) (dC (.int 2147483647))))))
def d_newer : List W → Store → Res W := fnDen 2 b_newer
def fn_newer (T : Txt P w K mg base) : FnF P w K mg base "newer" ["one", "other"] 10 2 d_newer :=
  ⟨T.D_newer.f, T.D_newer.fd, fn_ok (k := 9) T.D_newer.F sc_newer (fun cdv A outer s H E hr => (is_cons (is_expr (ie_callF (fn_check_serial T) (hr.mono (by decide)) (takes_of rfl rfl rfl rfl) (ia_cons (ie_var 0) ia_nil)))
    (is_cons (is_expr (ie_callF (fn_check_serial T) (hr.mono (by decide)) (takes_of rfl rfl rfl rfl) (ia_cons (ie_var 1) ia_nil)))
    (is_one (is_ret (ie_lele ie_int (ie_callF (fn__way_round T) (hr.mono (by decide)) (takes_of rfl rfl rfl rfl) (ia_cons (ie_var 1) (ia_cons (ie_var 0) ia_nil))) (ie_gint (i := 2147483647) T.c_REACH.choose_spec))))))), T.D_newer.m, T.D_newer.F.kp, T.D_newer.b⟩
/-! further -/
theorem sc_further : FnScope ["serial", "steps"] ["serial", "steps"] (defScope (top 17)) := ⟨rfl, rfl, rfl, by decide +kernel, rfl, by decide +kernel, by decide +kernel⟩
def b_further : DS := (sSeq (sExpr (dCall 1 d_check_serial (dCons (dVar 0) dNil)))
    (sSeq (sIf (dBool (dOp ltW (dVar 1) (dC (.int 0))))
    (sRaise "InvalidNumber" (dCons (dVar 1) dNil))
    sNil)
    (sRet (dOp modW (dOp addW (dVar 0) (dVar 1)) (dC (.int 4294967296))))))
def d_further : List W → Store → Res W := fnDen 2 b_further
def fn_further (T : Txt P w K mg base) : FnF P w K mg base "further" ["serial", "steps"] 10 2 d_further :=
  ⟨T.D_further.f, T.D_further.fd, fn_ok (k := 9) T.D_further.F sc_further (fun cdv A outer s H E hr => (is_cons (is_expr (ie_callF (fn_check_serial T) (hr.mono (by decide)) (takes_of rfl rfl rfl rfl) (ia_cons (ie_var 0) ia_nil)))
    (is_cons (is_if (it_lt (ie_var 1) ie_int)
    (is_one (is_raiseF T.E_InvalidNumber (hr.mono (by decide)) (takes_of rfl rfl rfl rfl) (ia_cons (ie_var 1) ia_nil)))
    is_nil)
    (is_one (is_ret (ie_mod (ie_add (ie_var 0) (ie_var 1)) (ie_gint (i := 4294967296) T.c_ROUND.choose_spec))))))), T.D_further.m, T.D_further.F.kp, T.D_further.b⟩
/-! newest -/
theorem sc_newest : FnScope ["serials", "serial", "other"] ["serials"] (defScope (top 18)) := ⟨rfl, rfl, rfl, by decide +kernel, rfl, by decide +kernel, by decide +kernel⟩
def b_newest : DS := (sSeq (sFor (dIt (dVar 0)) (tName 1)
    (sExpr (dCall 1 d_check_serial (dCons (dVar 1) dNil))))
    (sSeq (sFor (dIt (dVar 0)) (tName 1)
    (sIf (dBool (dApp allW (dCons (dLc (dIt (dVar 0)) [2] (tName 2) dYes (dOrV (dOp eqW (dVar 1) (dVar 2)) (dCall 2 d_newer (dCons (dVar 1) (dCons (dVar 2) dNil))))) dNil)))
    (sRet (dVar 1))
    sNil))
    (sRet (dC .non))))
def d_newest : List W → Store → Res W := fnDen 3 b_newest
def fn_newest (T : Txt P w K mg base) : FnF P w K mg base "newest" ["serials"] 11 1 d_newest :=
  ⟨T.D_newest.f, T.D_newest.fd, fn_ok (k := 10) T.D_newest.F sc_newest (fun cdv A outer s H E hr => (is_cons (is_for (vs := [1]) (passes_of rfl) rfl (ii_val (ie_var 0)) (ig_name (i := 1) (by decide) ExOk.none sc_newest.nd rfl (.inr rfl))
    (is_one (is_expr (ie_callF (fn_check_serial T) (hr.mono (by decide)) (takes_of rfl rfl rfl rfl) (ia_cons (ie_var 1) ia_nil)))))
    (is_cons (is_for (vs := [1]) (passes_of rfl) rfl (ii_val (ie_var 0)) (ig_name (i := 1) (by decide) ExOk.none sc_newest.nd rfl (.inr rfl))
    (is_one (is_if (it_val (ie_all rfl rfl T.n_all (ia_cons (ie_lc (own := [("other", 2)]) rfl sc_newest.nd (ii_val (ie_var 0)) (blkOk_by (N := ["serials", "serial", "other"]) (sc := defScope (top 18)) (own := [("other", 2)]) (by decide +kernel)) (fun _ _ _ _ _ => (ig_name (i := 2) (by decide) ExOk.none sc_newest.nd rfl (.inl rfl))) (fun _ _ _ _ _ => (ie_or (ie_eq hr (ie_var 1) (ie_var 2)) (ie_one (ie_callF (fn_newer T) (hr.mono (by decide)) takes0 (ia_cons (ie_var 1) (ia_cons (ie_var 2) ia_nil))))))) ia_nil)))
    (is_one (is_ret (ie_var 1)))
    is_nil)))
    (is_one (is_ret ie_non))))), T.D_newest.m, T.D_newest.F.kp, T.D_newest.b⟩
/-! _check_ends -/
theorem sc__check_ends : FnScope ["one", "other", "missed"] ["one", "other", "missed"] (defScope (top 19)) := ⟨rfl, rfl, rfl, by decide +kernel, rfl, by decide +kernel, by decide +kernel⟩
def b__check_ends : DS := (sSeq (sExpr (dCall 1 d_check_serial (dCons (dVar 0) dNil)))
    (sSeq (sExpr (dCall 1 d_check_serial (dCons (dVar 1) dNil)))
    (sIf (dNot (dBool (dChain leW leW (dC (.int 0)) (dVar 2) (dC (.int 1000)))))
    (sRaise "InvalidNumber" (dCons (dVar 2) dNil))
    sNil)))
def d__check_ends : List W → Store → Res W := fnDen 3 b__check_ends
def fn__check_ends (T : Txt P w K mg base) : FnF P w K mg base "_check_ends" ["one", "other", "missed"] 10 3 d__check_ends :=
  ⟨T.D__check_ends.f, T.D__check_ends.fd, fn_ok (k := 9) T.D__check_ends.F sc__check_ends (fun cdv A outer s H E hr => (is_cons (is_expr (ie_callF (fn_check_serial T) (hr.mono (by decide)) (takes_of rfl rfl rfl rfl) (ia_cons (ie_var 0) ia_nil)))
    (is_cons (is_expr (ie_callF (fn_check_serial T) (hr.mono (by decide)) (takes_of rfl rfl rfl rfl) (ia_cons (ie_var 1) ia_nil)))
    (is_one (is_if (it_not (it_lele ie_int (ie_var 2) (ie_gint (i := 1000) T.c_MOST_MISSED.choose_spec)))
    (is_one (is_raiseF T.E_InvalidNumber (hr.mono (by decide)) (takes_of rfl rfl rfl rfl) (ia_cons (ie_var 2) ia_nil)))
    is_nil))))), T.D__check_ends.m, T.D__check_ends.F.kp, T.D__check_ends.b⟩
/-! _farthest -/
theorem sc__farthest : FnScope ["many", "together", "full", "rest"] ["many", "together"] (defScope (top 20)) := ⟨rfl, rfl, rfl, by decide +kernel, rfl, by decide +kernel, by decide +kernel⟩
def b__farthest : DS := (sSeq (sIf (dBool (dOp leW (dVar 0) (dVar 1)))
    (sRet (dC (.int 2147483647)))
    sNil)
    (sSeq (sAsg (dApp divmodW (dCons (dVar 0) (dCons (dVar 1) dNil))) (tTupT [(tName 2), (tName 3)]))
    (sSeq (sIf (dBool (dOp eqW (dVar 3) (dC (.int 0))))
    (sRet (dOp mulW (dVar 2) (dC (.int 2147483647))))
    sNil)
    (sRet (dOp subW (dOp addW (dOp mulW (dVar 2) (dC (.int 2147483647))) (dC (.int 2147483647))) (dOp subW (dVar 1) (dVar 3)))))))
def d__farthest : List W → Store → Res W := fnDen 4 b__farthest
def fn__farthest (T : Txt P w K mg base) : FnF P w K mg base "_farthest" ["many", "together"] 1 2 d__farthest :=
  ⟨T.D__farthest.f, T.D__farthest.fd, fn_ok (k := 0) T.D__farthest.F sc__farthest (fun cdv A outer s H E hr => (is_cons (is_if (it_le (ie_var 0) (ie_var 1))
    (is_one (is_ret (ie_gint (i := 2147483647) T.c_REACH.choose_spec)))
    is_nil)
    (is_cons (is_asg (vs := [2, 3]) (ie_divmod rfl T.n_divmod (ia_cons (ie_var 0) (ia_cons (ie_var 1) ia_nil))) (ig_tup rfl (igs_cons (ig_name (i := 2) (by decide) ExOk.none sc__farthest.nd rfl (.inl rfl)) (igs_cons (ig_name (i := 3) (by decide) ExOk.none sc__farthest.nd rfl (.inl rfl)) igs_nil))))
    (is_cons (is_if (it_eq hr (ie_var 3) ie_int)
    (is_one (is_ret (ie_mul (ie_var 2) (ie_gint (i := 2147483647) T.c_REACH.choose_spec))))
    is_nil)
    (is_one (is_ret (ie_sub (ie_add (ie_mul (ie_var 2) (ie_gint (i := 2147483647) T.c_REACH.choose_spec)) (ie_gint (i := 2147483647) T.c_REACH.choose_spec)) (ie_sub (ie_var 1) (ie_var 3))))))))), T.D__farthest.m, T.D__farthest.F.kp, T.D__farthest.b⟩
/-! fewest_steps -/
theorem sc_fewest_steps : FnScope ["one", "other", "missed", "distance", "many"] ["one", "other", "missed"] (defScope (top 21)) := ⟨rfl, rfl, rfl, by decide +kernel, rfl, by decide +kernel, by decide +kernel⟩
def b_fewest_steps : DS := (sSeq (sExpr (dCall 3 d__check_ends (dCons (dVar 0) (dCons (dVar 1) (dCons (dVar 2) dNil)))))
    (sSeq (sAsg (dCall 2 d__way_round (dCons (dVar 0) (dCons (dVar 1) dNil))) (tName 3))
    (sSeq (sIf (dBool (dOp eqW (dVar 3) (dC (.int 0))))
    (sRet (dC (.int 0)))
    sNil)
    (sSeq (sAsg (dC (.int 1)) (tName 4))
    (sSeq (sWhile (dBool (dOp ltW (dCall 2 d__farthest (dCons (dVar 4) (dCons (dOp addW (dVar 2) (dC (.int 1))) dNil))) (dVar 3)))
    (sAug 4 addI (dC (.int 1))))
    (sRet (dVar 4)))))))
def d_fewest_steps : List W → Store → Res W := fnDen 5 b_fewest_steps
def fn_fewest_steps (T : Txt P w K mg base) : FnF P w K mg base "fewest_steps" ["one", "other", "missed"] 11 3 d_fewest_steps :=
  ⟨T.D_fewest_steps.f, T.D_fewest_steps.fd, fn_ok (k := 10) T.D_fewest_steps.F sc_fewest_steps (fun cdv A outer s H E hr => (is_cons (is_expr (ie_callF (fn__check_ends T) (hr.mono (by decide)) (takes_of rfl rfl rfl rfl) (ia_cons (ie_var 0) (ia_cons (ie_var 1) (ia_cons (ie_var 2) ia_nil)))))
    (is_cons (is_set (i := 3) ExOk.none sc_fewest_steps.nd rfl (.inl rfl) (ie_callF (fn__way_round T) (hr.mono (by decide)) (takes_of rfl rfl rfl rfl) (ia_cons (ie_var 0) (ia_cons (ie_var 1) ia_nil))))
    (is_cons (is_if (it_eq hr (ie_var 3) ie_int)
    (is_one (is_ret ie_int))
    is_nil)
    (is_cons (is_set (i := 4) ExOk.none sc_fewest_steps.nd rfl (.inl rfl) ie_int)
    (is_cons (is_while (passes_of rfl) (it_lt (ie_callF (fn__farthest T) (hr.mono (by decide)) (takes_of rfl rfl rfl rfl) (ia_cons (ie_var 4) (ia_cons (ie_add (ie_var 2) ie_int) ia_nil))) (ie_var 3))
    (is_one (is_augAdd (i := 4) sc_fewest_steps.nd rfl (.inl rfl) ie_int)))
    (is_one (is_ret (ie_var 4))))))))), T.D_fewest_steps.m, T.D_fewest_steps.F.kp, T.D_fewest_steps.b⟩
/-! steps -/
theorem sc_steps : FnScope ["one", "other", "missed", "many", "together", "room", "way", "serial", "index", "more"] ["one", "other", "missed"] (defScope (top 22)) := ⟨rfl, rfl, rfl, by decide +kernel, rfl, by decide +kernel, by decide +kernel⟩
def b_steps : DS := (sSeq (sAsg (dCall 3 d_fewest_steps (dCons (dVar 0) (dCons (dVar 1) (dCons (dVar 2) dNil)))) (tName 3))
    (sSeq (sAsg (dOp addW (dVar 2) (dC (.int 1))) (tName 4))
    (sSeq (sAsg (dOp subW (dCall 2 d__way_round (dCons (dVar 0) (dCons (dVar 1) dNil))) (dVar 3)) (tName 5))
    (sSeq (sAsg (dLst dNil) (tName 6))
    (sSeq (sAsg (dVar 0) (tName 7))
    (sSeq (sFor (dRange1 (dCons (dVar 3) dNil)) (tName 8)
    (sSeq (sAsg (dIf (dBool (dOp eqW (dOp modW (dVar 8) (dVar 4)) (dC (.int 0)))) (dApp minW (dCons (dVar 5) (dCons (dOp subW (dC (.int 2147483647)) (dApp minW (dCons (dVar 3) (dCons (dVar 4) dNil)))) dNil))) (dC (.int 0))) (tName 9))
    (sSeq (sAsg (dOp subW (dVar 5) (dVar 9)) (tName 5))
    (sSeq (sAsg (dCall 2 d_further (dCons (dVar 7) (dCons (dOp addW (dC (.int 1)) (dVar 9)) dNil))) (tName 7))
    (sExpr (dBm tyL appendW (dVar 6) (dCons (dVar 7) dNil)))))))
    (sRet (dVar 6))))))))
def d_steps : List W → Store → Res W := fnDen 10 b_steps
def fn_steps (T : Txt P w K mg base) : FnF P w K mg base "steps" ["one", "other", "missed"] 12 3 d_steps :=
  ⟨T.D_steps.f, T.D_steps.fd, fn_ok (k := 11) T.D_steps.F sc_steps (fun cdv A outer s H E hr => (is_cons (is_set (i := 3) ExOk.none sc_steps.nd rfl (.inl rfl) (ie_callF (fn_fewest_steps T) (hr.mono (by decide)) (takes_of rfl rfl rfl rfl) (ia_cons (ie_var 0) (ia_cons (ie_var 1) (ia_cons (ie_var 2) ia_nil)))))
    (is_cons (is_set (i := 4) ExOk.none sc_steps.nd rfl (.inl rfl) (ie_add (ie_var 2) ie_int))
    (is_cons (is_set (i := 5) ExOk.none sc_steps.nd rfl (.inl rfl) (ie_sub (ie_callF (fn__way_round T) (hr.mono (by decide)) (takes_of rfl rfl rfl rfl) (ia_cons (ie_var 0) (ia_cons (ie_var 1) ia_nil))) (ie_var 3)))
    (is_cons (is_set (i := 6) ExOk.none sc_steps.nd rfl (.inl rfl) (ie_lst ia_nil))
    (is_cons (is_set (i := 7) ExOk.none sc_steps.nd rfl (.inl rfl) (ie_var 0))
    (is_cons (is_for (vs := [8]) (passes_of rfl) rfl (ii_range1 rfl T.n_range (ia_cons (ie_var 3) ia_nil)) (ig_name (i := 8) (by decide) ExOk.none sc_steps.nd rfl (.inl rfl))
    (is_cons (is_set (i := 9) ExOk.none sc_steps.nd rfl (.inl rfl) (ie_if (it_eq hr (ie_mod (ie_var 8) (ie_var 4)) ie_int) (ie_min rfl rfl T.n_min (ia_cons (ie_var 5) (ia_cons (ie_sub (ie_gint (i := 2147483647) T.c_REACH.choose_spec) (ie_min rfl rfl T.n_min (ia_cons (ie_var 3) (ia_cons (ie_var 4) ia_nil)))) ia_nil))) ie_int))
    (is_cons (is_set (i := 5) ExOk.none sc_steps.nd rfl (.inl rfl) (ie_sub (ie_var 5) (ie_var 9)))
    (is_cons (is_set (i := 7) ExOk.none sc_steps.nd rfl (.inl rfl) (ie_callF (fn_further T) (hr.mono (by decide)) (takes_of rfl rfl rfl rfl) (ia_cons (ie_var 7) (ia_cons (ie_add ie_int (ie_var 9)) ia_nil))))
    (is_one (is_expr (ie_append (ie_var 6) (ia_cons (ie_var 7) ia_nil))))))))
    (is_one (is_ret (ie_var 6)))))))))), T.D_steps.m, T.D_steps.F.kp, T.D_steps.b⟩
/-! _is_way -/
theorem sc__is_way : FnScope ["way", "together", "gone", "serial", "ahead", "index"] ["way", "together"] (defScope (top 24)) := ⟨rfl, rfl, rfl, by decide +kernel, rfl, by decide +kernel, by decide +kernel⟩
def b__is_way : DS := (sSeq (sAsg (dLst (dCons (dC (.int 0)) dNil)) (tName 2))
    (sSeq (sForG (dZip (dCons (dSl (dVar 0) (dPart (dC (.int 1))) dNoPart) (dCons (dVar 0) dNil))) (tTupT [(tName 3), (tName 4)])
    (sSeq (sIf (dNot (dBool (dCall 2 d_newer (dCons (dVar 3) (dCons (dVar 4) dNil)))))
    (sRet (dC (.bl false)))
    sNil)
    (sExpr (dBm tyL appendW (dVar 2) (dCons (dOp addW (dOp ixW (dVar 2) (dUn negW (dC (.int 1)))) (dCall 2 d__way_round (dCons (dVar 4) (dCons (dVar 3) dNil)))) dNil)))))
    (sRet (dApp allW (dCons (dLc (dRange1 (dCons (dApp lenW (dCons (dVar 2) dNil)) dNil)) [5] (tName 5) dYes (dOp leW (dOp subW (dOp ixW (dVar 2) (dVar 5)) (dOp ixW (dVar 2) (dApp maxW (dCons (dC (.int 0)) (dCons (dOp subW (dVar 5) (dVar 1)) dNil))))) (dC (.int 2147483647)))) dNil)))))
def d__is_way : List W → Store → Res W := fnDen 6 b__is_way
def fn__is_way (T : Txt P w K mg base) : FnF P w K mg base "_is_way" ["way", "together"] 11 2 d__is_way :=
  ⟨T.D__is_way.f, T.D__is_way.fd, fn_ok (k := 10) T.D__is_way.F sc__is_way (fun cdv A outer s H E hr => (is_cons (is_set (i := 2) ExOk.none sc__is_way.nd rfl (.inr rfl) (ie_lst (ia_cons ie_int ia_nil)))
    (is_cons (is_forG (vs := [3, 4]) (passes_of rfl) rfl (iig_zip rfl T.n_zip (ia_cons (ie_slice (ie_var 0) (io_some ie_int) io_none) (ia_cons (ie_var 0) ia_nil))) (ig_tup rfl (igs_cons (ig_name (i := 3) (by decide) ExOk.none sc__is_way.nd rfl (.inl rfl)) (igs_cons (ig_name (i := 4) (by decide) ExOk.none sc__is_way.nd rfl (.inl rfl)) igs_nil)))
    (is_cons (is_if (it_not (it_val (ie_callF (fn_newer T) (hr.mono (by decide)) (takes_of rfl rfl rfl rfl) (ia_cons (ie_var 3) (ia_cons (ie_var 4) ia_nil)))))
    (is_one (is_ret ie_bl))
    is_nil)
    (is_one (is_expr (ie_append (ie_var 2) (ia_cons (ie_add (ie_ix (ie_var 2) (ie_neg ie_int)) (ie_callF (fn__way_round T) (hr.mono (by decide)) (takes_of rfl rfl rfl rfl) (ia_cons (ie_var 4) (ia_cons (ie_var 3) ia_nil)))) ia_nil))))))
    (is_one (is_ret (ie_all rfl rfl T.n_all (ia_cons (ie_lc (own := [("index", 5)]) rfl sc__is_way.nd (ii_range1 rfl T.n_range (ia_cons (ie_len rfl T.n_len (ia_cons (ie_var 2) ia_nil)) ia_nil)) (blkOk_by (N := ["way", "together", "gone", "serial", "ahead", "index"]) (sc := defScope (top 24)) (own := [("index", 5)]) (by decide +kernel)) (fun _ _ _ _ _ => (ig_name (i := 5) (by decide) ExOk.none sc__is_way.nd rfl (.inl rfl))) (fun _ _ _ _ _ => (ie_le (ie_sub (ie_ix (ie_var 2) (ie_var 5)) (ie_ix (ie_var 2) (ie_max rfl rfl T.n_max (ia_cons ie_int (ia_cons (ie_sub (ie_var 5) (ie_var 1)) ia_nil))))) (ie_gint (i := 2147483647) T.c_REACH.choose_spec)))) ia_nil))))))), T.D__is_way.m, T.D__is_way.F.kp, T.D__is_way.b⟩
/-! judge_steps -/
theorem sc_judge_steps : FnScope ["one", "other", "missed", "value", "many", "serial"] ["one", "other", "missed", "value"] (defScope (top 23)) := ⟨rfl, rfl, rfl, by decide +kernel, rfl, by decide +kernel, by decide +kernel⟩
def b_judge_steps : DS := (sSeq (sAsg (dCall 3 d_fewest_steps (dCons (dVar 0) (dCons (dVar 1) (dCons (dVar 2) dNil)))) (tName 4))
    (sSeq (sIf (dOr (dNot (dBool (dApp isiW (dCons (dVar 3) (dCons (dC (.gl (.ty "list"))) dNil))))) (dOr (dBool (dOp neW (dApp lenW (dCons (dVar 3) dNil)) (dVar 4))) (dNot (dBool (dApp allW (dCons (dLc (dIt (dVar 3)) [5] (tName 5) dYes (dCall 1 d_is_serial (dCons (dVar 5) dNil))) dNil))))))
    (sRet (dC (.bl false)))
    sNil)
    (sRet (dAndV (dOp eqW (dOp ixW (dOp addW (dLst (dCons (dVar 0) dNil)) (dVar 3)) (dUn negW (dC (.int 1)))) (dVar 1)) (dCall 2 d__is_way (dCons (dOp addW (dLst (dCons (dVar 0) dNil)) (dVar 3)) (dCons (dOp addW (dVar 2) (dC (.int 1))) dNil)))))))
def d_judge_steps : List W → Store → Res W := fnDen 6 b_judge_steps
def fn_judge_steps (T : Txt P w K mg base) : FnF P w K mg base "judge_steps" ["one", "other", "missed", "value"] 12 4 d_judge_steps :=
  ⟨T.D_judge_steps.f, T.D_judge_steps.fd, fn_ok (k := 11) T.D_judge_steps.F sc_judge_steps (fun cdv A outer s H E hr => (is_cons (is_set (i := 4) ExOk.none sc_judge_steps.nd rfl (.inl rfl) (ie_callF (fn_fewest_steps T) (hr.mono (by decide)) (takes_of rfl rfl rfl rfl) (ia_cons (ie_var 0) (ia_cons (ie_var 1) (ia_cons (ie_var 2) ia_nil)))))
    (is_cons (is_if (it_w (iw_or (it_not (it_val (ie_isi rfl T.n_isinstance (ia_cons (ie_var 3) (ia_cons (ie_ty (T := "list") rfl T.n_list (by decide +kernel)) ia_nil))))) (iw_or (it_ne hr (ie_len rfl T.n_len (ia_cons (ie_var 3) ia_nil)) (ie_var 4)) (iw_or1 (it_not (it_val (ie_all rfl rfl T.n_all (ia_cons (ie_lc (own := [("serial", 5)]) rfl sc_judge_steps.nd (ii_val (ie_var 3)) (blkOk_by (N := ["one", "other", "missed", "value", "many", "serial"]) (sc := defScope (top 23)) (own := [("serial", 5)]) (by decide +kernel)) (fun _ _ _ _ _ => (ig_name (i := 5) (by decide) ExOk.none sc_judge_steps.nd rfl (.inl rfl))) (fun _ _ _ _ _ => (ie_callF (fn_is_serial T) (hr.mono (by decide)) takes0 (ia_cons (ie_var 5) ia_nil)))) ia_nil))))))))
    (is_one (is_ret ie_bl))
    is_nil)
    (is_one (is_ret (ie_and (ie_eq hr (ie_ix (ie_add (ie_lst (ia_cons (ie_var 0) ia_nil)) (ie_var 3)) (ie_neg ie_int)) (ie_var 1)) (ie_one (ie_callF (fn__is_way T) (hr.mono (by decide)) (takes_of rfl rfl rfl rfl) (ia_cons (ie_add (ie_lst (ia_cons (ie_var 0) ia_nil)) (ie_var 3)) (ia_cons (ie_add (ie_var 2) ie_int) ia_nil)))))))))), T.D_judge_steps.m, T.D_judge_steps.F.kp, T.D_judge_steps.b⟩
/-! _law_deck -/
theorem sc__law_deck : FnScope ["_law_script", "_law_mixed", "_law_cell"] ["_law_script"] (defScope (top 26)) := ⟨rfl, rfl, rfl, by decide +kernel, rfl, by decide +kernel, by decide +kernel⟩
def b__law_deck : DS := (sSeq (sAsg (dC (.int 17)) (tName 1))
    (sSeq (sFor (dIt (dVar 0)) (tName 2)
    (sAsg (dOp modW (dApp intOfW (dCons (dOp addW (dOp mulW (dVar 1) (dC (.int 30011))) (dApp absW (dCons (dVar 2) dNil))) dNil)) (dOp addW (dOp powW (dC (.int 10)) (dC (.int 24))) (dC (.int 7)))) (tName 1)))
    (sRet (dLst (dCons (dApp listAW (dCons (dVar 0) dNil)) (dCons (dC (.int 0)) (dCons (dC (.int 0)) (dCons (dVar 1) (dCons (dC (.int 0)) dNil)))))))))
def d__law_deck : List W → Store → Res W := fnDen 3 b__law_deck
def fn__law_deck (T : Txt P w K mg base) : FnF P w K mg base "_law_deck" ["_law_script"] 1 1 d__law_deck :=
  ⟨T.D__law_deck.f, T.D__law_deck.fd, fn_ok (k := 0) T.D__law_deck.F sc__law_deck (fun cdv A outer s H E hr => (is_cons (is_set (i := 1) ExOk.none sc__law_deck.nd rfl (.inl rfl) ie_int)
    (is_cons (is_for (vs := [2]) (passes_of rfl) rfl (ii_val (ie_var 0)) (ig_name (i := 2) (by decide) ExOk.none sc__law_deck.nd rfl (.inl rfl))
    (is_one (is_set (i := 1) ExOk.none sc__law_deck.nd rfl (.inl rfl) (ie_mod (ie_intOf rfl T.n_int (ia_cons (ie_add (ie_mul (ie_var 1) ie_int) (ie_abs rfl T.n_abs (ia_cons (ie_var 2) ia_nil))) ia_nil)) (ie_add (ie_pow ie_int ie_int) ie_int)))))
    (is_one (is_ret (ie_lst (ia_cons (ie_listA rfl rfl T.n_list (ia_cons (ie_var 0) ia_nil)) (ia_cons ie_int (ia_cons ie_int (ia_cons (ie_var 1) (ia_cons ie_int ia_nil))))))))))), T.D__law_deck.m, T.D__law_deck.F.kp, T.D__law_deck.b⟩
/-! _law_draw -/
theorem sc__law_draw : FnScope ["_law_deck_here", "_law_size", "_law_stir", "_law_cell", "_law_digit"] ["_law_deck_here", "_law_size"] (defScope (top 27)) := ⟨rfl, rfl, rfl, by decide +kernel, rfl, by decide +kernel, by decide +kernel⟩
def b__law_draw : DS := (sSeq (sIf (dAnd (dBool (dOp eqW (dOp ixW (dVar 0) (dC (.int 2))) (dC (.int 0)))) (dBool (dOp ltW (dOp ixW (dVar 0) (dC (.int 1))) (dApp lenW (dCons (dOp ixW (dVar 0) (dC (.int 0))) dNil)))))
    (sSeq (sAsg (dApp absW (dCons (dOp ixW (dOp ixW (dVar 0) (dC (.int 0))) (dOp ixW (dVar 0) (dC (.int 1)))) dNil)) (tName 3))
    (sSeq (sAsg (dOp addW (dOp ixW (dVar 0) (dC (.int 1))) (dC (.int 1))) (tSub (dVar 0) (dC (.int 1))))
    (sIf (dBool (dOp geW (dVar 3) (dOp powW (dC (.int 10)) (dC (.int 18)))))
    (sAsg (dOp subW (dVar 3) (dOp powW (dC (.int 10)) (dC (.int 18)))) (tSub (dVar 0) (dC (.int 2))))
    (sAsg (dOp addW (dOp addW (dOp ixW (dVar 0) (dC (.int 3))) (dOp mulW (dC (.int 7)) (dVar 3))) (dC (.int 1))) (tSub (dVar 0) (dC (.int 3)))))))
    sNil)
    (sSeq (sIf (dBool (dOp gtW (dOp ixW (dVar 0) (dC (.int 2))) (dC (.int 0))))
    (sSeq (sAsg (dOp modW (dApp intOfW (dCons (dOp ixW (dVar 0) (dC (.int 2))) dNil)) (dVar 1)) (tName 4))
    (sSeq (sAsg (dOp fdivW (dOp ixW (dVar 0) (dC (.int 2))) (dVar 1)) (tSub (dVar 0) (dC (.int 2))))
    (sRet (dVar 4))))
    sNil)
    (sSeq (sAsg (dOp addW (dOp ixW (dVar 0) (dC (.int 4))) (dC (.int 1))) (tSub (dVar 0) (dC (.int 4))))
    (sSeq (sAsg (dOp modW (dApp intOfW (dCons (dOp powW (dOp addW (dOp ixW (dVar 0) (dC (.int 3))) (dOp mulW (dC (.int 40487)) (dOp ixW (dVar 0) (dC (.int 4))))) (dC (.int 3))) dNil)) (dOp addW (dOp powW (dC (.int 10)) (dC (.int 33))) (dC (.int 61)))) (tName 2))
    (sSeq (sAsg (dOp modW (dApp intOfW (dCons (dOp addW (dOp addW (dOp mulW (dVar 2) (dC (.int 65539))) (dOp ixW (dVar 0) (dC (.int 3)))) (dOp ixW (dVar 0) (dC (.int 4)))) dNil)) (dOp addW (dOp powW (dC (.int 10)) (dC (.int 31))) (dC (.int 33)))) (tSub (dVar 0) (dC (.int 3))))
    (sRet (dOp modW (dOp fdivW (dOp modW (dApp intOfW (dCons (dOp powW (dOp ixW (dVar 0) (dC (.int 3))) (dC (.int 3))) dNil)) (dOp addW (dOp powW (dC (.int 10)) (dC (.int 34))) (dC (.int 193)))) (dC (.int 4099))) (dVar 1))))))))
def d__law_draw : List W → Store → Res W := fnDen 5 b__law_draw
def fn__law_draw (T : Txt P w K mg base) : FnF P w K mg base "_law_draw" ["_law_deck_here", "_law_size"] 1 2 d__law_draw :=
  ⟨T.D__law_draw.f, T.D__law_draw.fd, fn_ok (k := 0) T.D__law_draw.F sc__law_draw (fun cdv A outer s H E hr => (is_cons (is_if (it_w (iw_and (it_eq hr (ie_ix (ie_var 0) ie_int) ie_int) (iw_and1 (it_lt (ie_ix (ie_var 0) ie_int) (ie_len rfl T.n_len (ia_cons (ie_ix (ie_var 0) ie_int) ia_nil))))))
    (is_cons (is_set (i := 3) ExOk.none sc__law_draw.nd rfl (.inl rfl) (ie_abs rfl T.n_abs (ia_cons (ie_ix (ie_ix (ie_var 0) ie_int) (ie_ix (ie_var 0) ie_int)) ia_nil)))
    (is_cons (is_asg (vs := []) (ie_add (ie_ix (ie_var 0) ie_int) ie_int) (ig_sub (ie_var 0) ie_int))
    (is_one (is_if (it_ge (ie_var 3) (ie_pow ie_int ie_int))
    (is_one (is_asg (vs := []) (ie_sub (ie_var 3) (ie_pow ie_int ie_int)) (ig_sub (ie_var 0) ie_int)))
    (is_one (is_asg (vs := []) (ie_add (ie_add (ie_ix (ie_var 0) ie_int) (ie_mul ie_int (ie_var 3))) ie_int) (ig_sub (ie_var 0) ie_int)))))))
    is_nil)
    (is_cons (is_if (it_gt (ie_ix (ie_var 0) ie_int) ie_int)
    (is_cons (is_set (i := 4) ExOk.none sc__law_draw.nd rfl (.inl rfl) (ie_mod (ie_intOf rfl T.n_int (ia_cons (ie_ix (ie_var 0) ie_int) ia_nil)) (ie_var 1)))
    (is_cons (is_asg (vs := []) (ie_fdiv (ie_ix (ie_var 0) ie_int) (ie_var 1)) (ig_sub (ie_var 0) ie_int))
    (is_one (is_ret (ie_var 4)))))
    is_nil)
    (is_cons (is_asg (vs := []) (ie_add (ie_ix (ie_var 0) ie_int) ie_int) (ig_sub (ie_var 0) ie_int))
    (is_cons (is_set (i := 2) ExOk.none sc__law_draw.nd rfl (.inl rfl) (ie_mod (ie_intOf rfl T.n_int (ia_cons (ie_pow (ie_add (ie_ix (ie_var 0) ie_int) (ie_mul ie_int (ie_ix (ie_var 0) ie_int))) ie_int) ia_nil)) (ie_add (ie_pow ie_int ie_int) ie_int)))
    (is_cons (is_asg (vs := []) (ie_mod (ie_intOf rfl T.n_int (ia_cons (ie_add (ie_add (ie_mul (ie_var 2) ie_int) (ie_ix (ie_var 0) ie_int)) (ie_ix (ie_var 0) ie_int)) ia_nil)) (ie_add (ie_pow ie_int ie_int) ie_int)) (ig_sub (ie_var 0) ie_int))
    (is_one (is_ret (ie_mod (ie_fdiv (ie_mod (ie_intOf rfl T.n_int (ia_cons (ie_pow (ie_ix (ie_var 0) ie_int) ie_int) ia_nil)) (ie_add (ie_pow ie_int ie_int) ie_int)) ie_int) (ie_var 1)))))))))), T.D__law_draw.m, T.D__law_draw.F.kp, T.D__law_draw.b⟩
/-! _law_way -/
theorem sc__law_way : FnScope ["_law_one", "_law_other"] ["_law_one", "_law_other"] (defScope (top 28)) := ⟨rfl, rfl, rfl, by decide +kernel, rfl, by decide +kernel, by decide +kernel⟩
def b__law_way : DS := (sRet (dOp modW (dApp intOfW (dCons (dOp subW (dVar 0) (dVar 1)) dNil)) (dOp powW (dC (.int 2)) (dC (.int 32)))))
def d__law_way : List W → Store → Res W := fnDen 2 b__law_way
def fn__law_way (T : Txt P w K mg base) : FnF P w K mg base "_law_way" ["_law_one", "_law_other"] 1 2 d__law_way :=
  ⟨T.D__law_way.f, T.D__law_way.fd, fn_ok (k := 0) T.D__law_way.F sc__law_way (fun cdv A outer s H E hr => (is_one (is_ret (ie_mod (ie_intOf rfl T.n_int (ia_cons (ie_sub (ie_var 0) (ie_var 1)) ia_nil)) (ie_pow ie_int ie_int))))), T.D__law_way.m, T.D__law_way.F.kp, T.D__law_way.b⟩
/-! _law_is_newer -/
theorem sc__law_is_newer : FnScope ["_law_one", "_law_other"] ["_law_one", "_law_other"] (defScope (top 29)) := ⟨rfl, rfl, rfl, by decide +kernel, rfl, by decide +kernel, by decide +kernel⟩
def b__law_is_newer : DS := (sRet (dChain leW ltW (dC (.int 1)) (dCall 2 d__law_way (dCons (dVar 0) (dCons (dVar 1) dNil))) (dOp powW (dC (.int 2)) (dC (.int 31)))))
def d__law_is_newer : List W → Store → Res W := fnDen 2 b__law_is_newer
def fn__law_is_newer (T : Txt P w K mg base) : FnF P w K mg base "_law_is_newer" ["_law_one", "_law_other"] 2 2 d__law_is_newer :=
  ⟨T.D__law_is_newer.f, T.D__law_is_newer.fd, fn_ok (k := 1) T.D__law_is_newer.F sc__law_is_newer (fun cdv A outer s H E hr => (is_one (is_ret (ie_lelt ie_int (ie_callF (fn__law_way T) (hr.mono (by decide)) (takes_of rfl rfl rfl rfl) (ia_cons (ie_var 0) (ia_cons (ie_var 1) ia_nil))) (ie_pow ie_int ie_int))))), T.D__law_is_newer.m, T.D__law_is_newer.F.kp, T.D__law_is_newer.b⟩
/-! _law_serials -/
theorem sc__law_serials : FnScope ["_law_deck_here", "_law_one", "_law_far", "_law_missed"] ["_law_deck_here"] (defScope (top 30)) := ⟨rfl, rfl, rfl, by decide +kernel, rfl, by decide +kernel, by decide +kernel⟩
def b__law_serials : DS := (sSeq (sAsg (dOp ixW (dLst (dCons (dC (.int 0)) (dCons (dOp subW (dOp powW (dC (.int 2)) (dC (.int 32))) (dC (.int 1))) (dCons (dCall 2 d__law_draw (dCons (dVar 0) (dCons (dOp powW (dC (.int 2)) (dC (.int 32))) dNil))) (dCons (dCall 2 d__law_draw (dCons (dVar 0) (dCons (dC (.int 10)) dNil))) dNil))))) (dCall 2 d__law_draw (dCons (dVar 0) (dCons (dC (.int 4)) dNil)))) (tName 1))
    (sSeq (sAsg (dOp ixW (dLst (dCons (dC (.int 0)) (dCons (dC (.int 1)) (dCons (dOp subW (dOp powW (dC (.int 2)) (dC (.int 31))) (dC (.int 1))) (dCons (dOp powW (dC (.int 2)) (dC (.int 31))) (dCons (dOp subW (dOp powW (dC (.int 2)) (dC (.int 32))) (dC (.int 2))) (dCons (dOp subW (dOp powW (dC (.int 2)) (dC (.int 32))) (dC (.int 1))) dNil))))))) (dCall 2 d__law_draw (dCons (dVar 0) (dCons (dC (.int 6)) dNil)))) (tName 2))
    (sSeq (sIf (dBool (dOp eqW (dCall 2 d__law_draw (dCons (dVar 0) (dCons (dC (.int 2)) dNil))) (dC (.int 0))))
    (sAsg (dCall 2 d__law_draw (dCons (dVar 0) (dCons (dOp powW (dC (.int 2)) (dC (.int 32))) dNil))) (tName 2))
    (sIf (dBool (dOp eqW (dCall 2 d__law_draw (dCons (dVar 0) (dCons (dC (.int 2)) dNil))) (dC (.int 0))))
    (sAsg (dOp subW (dOp addW (dVar 2) (dCall 2 d__law_draw (dCons (dVar 0) (dCons (dC (.int 9)) dNil)))) (dC (.int 4))) (tName 2))
    sNil))
    (sSeq (sAsg (dLst (dCons (dCall 2 d__law_draw (dCons (dVar 0) (dCons (dC (.int 3)) dNil))) (dCons (dCall 2 d__law_draw (dCons (dVar 0) (dCons (dC (.int 12)) dNil))) (dCons (dOp addW (dC (.int 999)) (dCall 2 d__law_draw (dCons (dVar 0) (dCons (dC (.int 2)) dNil)))) (dCons (dCall 2 d__law_draw (dCons (dVar 0) (dCons (dC (.int 1001)) dNil))) dNil))))) (tName 3))
    (sRet (dTup (dCons (dVar 1) (dCons (dOp modW (dApp intOfW (dCons (dOp addW (dVar 1) (dVar 2)) dNil)) (dOp powW (dC (.int 2)) (dC (.int 32)))) (dCons (dOp ixW (dVar 3) (dCall 2 d__law_draw (dCons (dVar 0) (dCons (dC (.int 4)) dNil)))) dNil)))))))))
def d__law_serials : List W → Store → Res W := fnDen 4 b__law_serials
def fn__law_serials (T : Txt P w K mg base) : FnF P w K mg base "_law_serials" ["_law_deck_here"] 2 1 d__law_serials :=
  ⟨T.D__law_serials.f, T.D__law_serials.fd, fn_ok (k := 1) T.D__law_serials.F sc__law_serials (fun cdv A outer s H E hr => (is_cons (is_set (i := 1) ExOk.none sc__law_serials.nd rfl (.inl rfl) (ie_ix (ie_lst (ia_cons ie_int (ia_cons (ie_sub (ie_pow ie_int ie_int) ie_int) (ia_cons (ie_callF (fn__law_draw T) (hr.mono (by decide)) (takes_of rfl rfl rfl rfl) (ia_cons (ie_var 0) (ia_cons (ie_pow ie_int ie_int) ia_nil))) (ia_cons (ie_callF (fn__law_draw T) (hr.mono (by decide)) (takes_of rfl rfl rfl rfl) (ia_cons (ie_var 0) (ia_cons ie_int ia_nil))) ia_nil))))) (ie_callF (fn__law_draw T) (hr.mono (by decide)) (takes_of rfl rfl rfl rfl) (ia_cons (ie_var 0) (ia_cons ie_int ia_nil)))))
    (is_cons (is_set (i := 2) ExOk.none sc__law_serials.nd rfl (.inl rfl) (ie_ix (ie_lst (ia_cons ie_int (ia_cons ie_int (ia_cons (ie_sub (ie_pow ie_int ie_int) ie_int) (ia_cons (ie_pow ie_int ie_int) (ia_cons (ie_sub (ie_pow ie_int ie_int) ie_int) (ia_cons (ie_sub (ie_pow ie_int ie_int) ie_int) ia_nil))))))) (ie_callF (fn__law_draw T) (hr.mono (by decide)) (takes_of rfl rfl rfl rfl) (ia_cons (ie_var 0) (ia_cons ie_int ia_nil)))))
    (is_cons (is_if (it_eq hr (ie_callF (fn__law_draw T) (hr.mono (by decide)) (takes_of rfl rfl rfl rfl) (ia_cons (ie_var 0) (ia_cons ie_int ia_nil))) ie_int)
    (is_one (is_set (i := 2) ExOk.none sc__law_serials.nd rfl (.inl rfl) (ie_callF (fn__law_draw T) (hr.mono (by decide)) (takes_of rfl rfl rfl rfl) (ia_cons (ie_var 0) (ia_cons (ie_pow ie_int ie_int) ia_nil)))))
    (is_one (is_if (it_eq hr (ie_callF (fn__law_draw T) (hr.mono (by decide)) (takes_of rfl rfl rfl rfl) (ia_cons (ie_var 0) (ia_cons ie_int ia_nil))) ie_int)
    (is_one (is_set (i := 2) ExOk.none sc__law_serials.nd rfl (.inl rfl) (ie_sub (ie_add (ie_var 2) (ie_callF (fn__law_draw T) (hr.mono (by decide)) (takes_of rfl rfl rfl rfl) (ia_cons (ie_var 0) (ia_cons ie_int ia_nil)))) ie_int)))
    is_nil)))
    (is_cons (is_set (i := 3) ExOk.none sc__law_serials.nd rfl (.inl rfl) (ie_lst (ia_cons (ie_callF (fn__law_draw T) (hr.mono (by decide)) (takes_of rfl rfl rfl rfl) (ia_cons (ie_var 0) (ia_cons ie_int ia_nil))) (ia_cons (ie_callF (fn__law_draw T) (hr.mono (by decide)) (takes_of rfl rfl rfl rfl) (ia_cons (ie_var 0) (ia_cons ie_int ia_nil))) (ia_cons (ie_add ie_int (ie_callF (fn__law_draw T) (hr.mono (by decide)) (takes_of rfl rfl rfl rfl) (ia_cons (ie_var 0) (ia_cons ie_int ia_nil)))) (ia_cons (ie_callF (fn__law_draw T) (hr.mono (by decide)) (takes_of rfl rfl rfl rfl) (ia_cons (ie_var 0) (ia_cons ie_int ia_nil))) ia_nil))))))
    (is_one (is_ret (ie_tup (ia_cons (ie_var 1) (ia_cons (ie_mod (ie_intOf rfl T.n_int (ia_cons (ie_add (ie_var 1) (ie_var 2)) ia_nil)) (ie_pow ie_int ie_int)) (ia_cons (ie_ix (ie_var 3) (ie_callF (fn__law_draw T) (hr.mono (by decide)) (takes_of rfl rfl rfl rfl) (ia_cons (ie_var 0) (ia_cons ie_int ia_nil)))) ia_nil))))))))))), T.D__law_serials.m, T.D__law_serials.F.kp, T.D__law_serials.b⟩
/-! _law_longest -/
theorem sc__law_longest : FnScope ["_law_count", "_law_wide", "_law_rows", "_law_rest"] ["_law_count", "_law_wide"] (defScope (top 31)) := ⟨rfl, rfl, rfl, by decide +kernel, rfl, by decide +kernel, by decide +kernel⟩
def b__law_longest : DS := (sSeq (sIf (dBool (dOp leW (dVar 0) (dVar 1)))
    (sRet (dOp mulW (dOp subW (dOp powW (dC (.int 2)) (dC (.int 31))) (dC (.int 1))) (dApp intOfW (dCons (dOp gtW (dVar 0) (dC (.int 0))) dNil))))
    sNil)
    (sSeq (sAsg (dOp fdivW (dVar 0) (dVar 1)) (tName 2))
    (sSeq (sAsg (dOp modW (dApp intOfW (dCons (dVar 0) dNil)) (dVar 1)) (tName 3))
    (sRet (dOp addW (dOp mulW (dVar 2) (dOp subW (dOp powW (dC (.int 2)) (dC (.int 31))) (dC (.int 1)))) (dOp mulW (dApp intOfW (dCons (dOp gtW (dVar 3) (dC (.int 0))) dNil)) (dOp addW (dOp subW (dOp subW (dOp powW (dC (.int 2)) (dC (.int 31))) (dC (.int 1))) (dVar 1)) (dVar 3))))))))
def d__law_longest : List W → Store → Res W := fnDen 4 b__law_longest
def fn__law_longest (T : Txt P w K mg base) : FnF P w K mg base "_law_longest" ["_law_count", "_law_wide"] 1 2 d__law_longest :=
  ⟨T.D__law_longest.f, T.D__law_longest.fd, fn_ok (k := 0) T.D__law_longest.F sc__law_longest (fun cdv A outer s H E hr => (is_cons (is_if (it_le (ie_var 0) (ie_var 1))
    (is_one (is_ret (ie_mul (ie_sub (ie_pow ie_int ie_int) ie_int) (ie_intOf rfl T.n_int (ia_cons (ie_gt (ie_var 0) ie_int) ia_nil)))))
    is_nil)
    (is_cons (is_set (i := 2) ExOk.none sc__law_longest.nd rfl (.inl rfl) (ie_fdiv (ie_var 0) (ie_var 1)))
    (is_cons (is_set (i := 3) ExOk.none sc__law_longest.nd rfl (.inl rfl) (ie_mod (ie_intOf rfl T.n_int (ia_cons (ie_var 0) ia_nil)) (ie_var 1)))
    (is_one (is_ret (ie_add (ie_mul (ie_var 2) (ie_sub (ie_pow ie_int ie_int) ie_int)) (ie_mul (ie_intOf rfl T.n_int (ia_cons (ie_gt (ie_var 3) ie_int) ia_nil)) (ie_add (ie_sub (ie_sub (ie_pow ie_int ie_int) ie_int) (ie_var 1)) (ie_var 3)))))))))), T.D__law_longest.m, T.D__law_longest.F.kp, T.D__law_longest.b⟩
/-! _law_fewest -/
theorem sc__law_fewest : FnScope ["_law_one", "_law_other", "_law_missed", "_law_far", "_law_count"] ["_law_one", "_law_other", "_law_missed"] (defScope (top 32)) := ⟨rfl, rfl, rfl, by decide +kernel, rfl, by decide +kernel, by decide +kernel⟩
def b__law_fewest : DS := (sSeq (sAsg (dCall 2 d__law_way (dCons (dVar 1) (dCons (dVar 0) dNil))) (tName 3))
    (sSeq (sAsg (dC (.int 0)) (tName 4))
    (sSeq (sWhile (dAnd (dBool (dOp ltW (dVar 4) (dC (.int 2100)))) (dBool (dOp ltW (dCall 2 d__law_longest (dCons (dVar 4) (dCons (dOp addW (dVar 2) (dC (.int 1))) dNil))) (dVar 3))))
    (sAsg (dOp addW (dVar 4) (dC (.int 1))) (tName 4)))
    (sRet (dVar 4)))))
def d__law_fewest : List W → Store → Res W := fnDen 5 b__law_fewest
def fn__law_fewest (T : Txt P w K mg base) : FnF P w K mg base "_law_fewest" ["_law_one", "_law_other", "_law_missed"] 2 3 d__law_fewest :=
  ⟨T.D__law_fewest.f, T.D__law_fewest.fd, fn_ok (k := 1) T.D__law_fewest.F sc__law_fewest (fun cdv A outer s H E hr => (is_cons (is_set (i := 3) ExOk.none sc__law_fewest.nd rfl (.inl rfl) (ie_callF (fn__law_way T) (hr.mono (by decide)) (takes_of rfl rfl rfl rfl) (ia_cons (ie_var 1) (ia_cons (ie_var 0) ia_nil))))
    (is_cons (is_set (i := 4) ExOk.none sc__law_fewest.nd rfl (.inl rfl) ie_int)
    (is_cons (is_while (passes_of rfl) (it_w (iw_and (it_lt (ie_var 4) ie_int) (iw_and1 (it_lt (ie_callF (fn__law_longest T) (hr.mono (by decide)) (takes_of rfl rfl rfl rfl) (ia_cons (ie_var 4) (ia_cons (ie_add (ie_var 2) ie_int) ia_nil))) (ie_var 3)))))
    (is_one (is_set (i := 4) ExOk.none sc__law_fewest.nd rfl (.inl rfl) (ie_add (ie_var 4) ie_int))))
    (is_one (is_ret (ie_var 4))))))), T.D__law_fewest.m, T.D__law_fewest.F.kp, T.D__law_fewest.b⟩
/-! _law_is_way -/
theorem sc__law_is_way : FnScope ["_law_one", "_law_other", "_law_missed", "_law_value", "_law_ahead", "_law_last", "_law_serial"] ["_law_one", "_law_other", "_law_missed", "_law_value"] (defScope (top 33)) := ⟨rfl, rfl, rfl, by decide +kernel, rfl, by decide +kernel, by decide +kernel⟩
def b__law_is_way : DS := (sSeq (sAsg (dLst (dCons (dC (.int 0)) dNil)) (tName 4))
    (sSeq (sAsg (dVar 0) (tName 5))
    (sSeq (sFor (dIt (dVar 3)) (tName 6)
    (sSeq (sIf (dNot (dBool (dCall 2 d__law_is_newer (dCons (dVar 6) (dCons (dVar 5) dNil)))))
    (sRet (dC (.bl false)))
    sNil)
    (sSeq (sExpr (dBm tyL appendW (dVar 4) (dCons (dOp addW (dOp ixW (dVar 4) (dUn negW (dC (.int 1)))) (dCall 2 d__law_way (dCons (dVar 6) (dCons (dVar 5) dNil)))) dNil)))
    (sSeq (sIf (dBool (dOp geW (dOp subW (dOp ixW (dVar 4) (dUn negW (dC (.int 1)))) (dOp ixW (dVar 4) (dApp maxW (dCons (dC (.int 0)) (dCons (dOp subW (dOp subW (dApp lenW (dCons (dVar 4) dNil)) (dC (.int 2))) (dVar 2)) dNil))))) (dOp powW (dC (.int 2)) (dC (.int 31)))))
    (sRet (dC (.bl false)))
    sNil)
    (sAsg (dVar 6) (tName 5))))))
    (sRet (dOp eqW (dVar 5) (dVar 1))))))
def d__law_is_way : List W → Store → Res W := fnDen 7 b__law_is_way
def fn__law_is_way (T : Txt P w K mg base) : FnF P w K mg base "_law_is_way" ["_law_one", "_law_other", "_law_missed", "_law_value"] 3 4 d__law_is_way :=
  ⟨T.D__law_is_way.f, T.D__law_is_way.fd, fn_ok (k := 2) T.D__law_is_way.F sc__law_is_way (fun cdv A outer s H E hr => (is_cons (is_set (i := 4) ExOk.none sc__law_is_way.nd rfl (.inl rfl) (ie_lst (ia_cons ie_int ia_nil)))
    (is_cons (is_set (i := 5) ExOk.none sc__law_is_way.nd rfl (.inl rfl) (ie_var 0))
    (is_cons (is_for (vs := [6]) (passes_of rfl) rfl (ii_val (ie_var 3)) (ig_name (i := 6) (by decide) ExOk.none sc__law_is_way.nd rfl (.inl rfl))
    (is_cons (is_if (it_not (it_val (ie_callF (fn__law_is_newer T) (hr.mono (by decide)) (takes_of rfl rfl rfl rfl) (ia_cons (ie_var 6) (ia_cons (ie_var 5) ia_nil)))))
    (is_one (is_ret ie_bl))
    is_nil)
    (is_cons (is_expr (ie_append (ie_var 4) (ia_cons (ie_add (ie_ix (ie_var 4) (ie_neg ie_int)) (ie_callF (fn__law_way T) (hr.mono (by decide)) (takes_of rfl rfl rfl rfl) (ia_cons (ie_var 6) (ia_cons (ie_var 5) ia_nil)))) ia_nil)))
    (is_cons (is_if (it_ge (ie_sub (ie_ix (ie_var 4) (ie_neg ie_int)) (ie_ix (ie_var 4) (ie_max rfl rfl T.n_max (ia_cons ie_int (ia_cons (ie_sub (ie_sub (ie_len rfl T.n_len (ia_cons (ie_var 4) ia_nil)) ie_int) (ie_var 2)) ia_nil))))) (ie_pow ie_int ie_int))
    (is_one (is_ret ie_bl))
    is_nil)
    (is_one (is_set (i := 5) ExOk.none sc__law_is_way.nd rfl (.inl rfl) (ie_var 6)))))))
    (is_one (is_ret (ie_eq hr (ie_var 5) (ie_var 1)))))))), T.D__law_is_way.m, T.D__law_is_way.F.kp, T.D__law_is_way.b⟩
/-! _law_error -/
theorem sc__law_error : FnScope ["_law_way_here", "_law_first", "_law_second", "_law_third", "_law_found", "e"] ["_law_way_here", "_law_first", "_law_second", "_law_third"] (defScope (top 34)) := ⟨rfl, rfl, rfl, by decide +kernel, rfl, by decide +kernel, by decide +kernel⟩
def b__law_error : DS := (sSeq (sAsg (dC .non) (tName 4))
    (sSeq (sTryAs 5 (sIf (dBool (dOp eqW (dVar 0) (dC (.int 0))))
    (sExpr (dCall 2 d_newer (dCons (dVar 1) (dCons (dVar 2) dNil))))
    (sIf (dBool (dOp eqW (dVar 0) (dC (.int 1))))
    (sExpr (dCall 2 d_further (dCons (dVar 1) (dCons (dVar 3) dNil))))
    (sIf (dBool (dOp eqW (dVar 0) (dC (.int 2))))
    (sExpr (dCall 1 d_newest (dCons (dLst (dCons (dVar 2) (dCons (dVar 1) (dCons (dVar 2) dNil)))) dNil)))
    (sIf (dBool (dOp eqW (dVar 0) (dC (.int 3))))
    (sExpr (dCall 3 d_fewest_steps (dCons (dVar 1) (dCons (dVar 2) (dCons (dVar 3) dNil)))))
    (sIf (dBool (dOp eqW (dVar 0) (dC (.int 4))))
    (sExpr (dCall 3 d_steps (dCons (dVar 1) (dCons (dVar 2) (dCons (dVar 3) dNil)))))
    (sExpr (dCall 4 d_judge_steps (dCons (dVar 1) (dCons (dVar 2) (dCons (dVar 3) (dCons (dLst dNil) dNil))))))))))) (subL [("TreeError", true), ("InvalidNumber", true), ("InvalidSerial", true)]) (fun cN wv => (sAsg (dTup (dCons (dIsExc [("TreeError", false), ("InvalidNumber", false), ("InvalidSerial", true)] cN) (dCons (dIsExc [("TreeError", false), ("InvalidNumber", true), ("InvalidSerial", false)] cN) (dCons (dExc wv) dNil)))) (tName 4))))
    (sRet (dVar 4))))
def d__law_error : List W → Store → Res W := fnDen 6 b__law_error
def fn__law_error (T : Txt P w K mg base) : FnF P w K mg base "_law_error" ["_law_way_here", "_law_first", "_law_second", "_law_third"] 13 4 d__law_error :=
  ⟨T.D__law_error.f, T.D__law_error.fd, fn_ok (k := 12) T.D__law_error.F sc__law_error (fun cdv A outer s H E hr => (is_cons (is_set (i := 4) ExOk.none sc__law_error.nd rfl (.inl rfl) ie_non)
    (is_cons (is_try_as (i := 5) rfl rfl sc__law_error.nd rfl rfl ⟨rfl, by decide, .inl T.E_TreeError.T.mgC⟩ (takes_of rfl rfl rfl rfl) (fun Wb pnb xeb tkb hpb => (is_one (is_if (it_eq hr (ie_var 0) ie_int)
    (is_one (is_expr (ie_callF (fn_newer T) (hr.mono (by decide)) tkb (ia_cons (ie_var 1) (ia_cons (ie_var 2) ia_nil)))))
    (is_one (is_if (it_eq hr (ie_var 0) ie_int)
    (is_one (is_expr (ie_callF (fn_further T) (hr.mono (by decide)) tkb (ia_cons (ie_var 1) (ia_cons (ie_var 3) ia_nil)))))
    (is_one (is_if (it_eq hr (ie_var 0) ie_int)
    (is_one (is_expr (ie_callF (fn_newest T) (hr.mono (by decide)) tkb (ia_cons (ie_lst (ia_cons (ie_var 2) (ia_cons (ie_var 1) (ia_cons (ie_var 2) ia_nil)))) ia_nil))))
    (is_one (is_if (it_eq hr (ie_var 0) ie_int)
    (is_one (is_expr (ie_callF (fn_fewest_steps T) (hr.mono (by decide)) tkb (ia_cons (ie_var 1) (ia_cons (ie_var 2) (ia_cons (ie_var 3) ia_nil))))))
    (is_one (is_if (it_eq hr (ie_var 0) ie_int)
    (is_one (is_expr (ie_callF (fn_steps T) (hr.mono (by decide)) tkb (ia_cons (ie_var 1) (ia_cons (ie_var 2) (ia_cons (ie_var 3) ia_nil))))))
    (is_one (is_expr (ie_callF (fn_judge_steps T) (hr.mono (by decide)) tkb (ia_cons (ie_var 1) (ia_cons (ie_var 2) (ia_cons (ie_var 3) (ia_cons (ie_lst ia_nil) ia_nil)))))))))))))))))) (subL_ok (l := [("TreeError", true), ("InvalidNumber", true), ("InvalidSerial", true)]) T.sub_TreeError) (fun cN C dd a y wv oe pn hsN hmN xf nv hz hfv => (is_one (is_set (i := 4) (fun x h => by cases h; show (5 : Nat) ≠ 4; decide) sc__law_error.nd rfl (.inl rfl) (ie_tup (ia_cons (ie_isExc (l := [("TreeError", false), ("InvalidNumber", false), ("InvalidSerial", true)]) rfl T.n_isinstance xf T.xc_InvalidSerial hmN hsN hz hfv rfl (.inl rfl) (pe_glob (v := .ref T.E_InvalidSerial.C) rfl T.E_InvalidSerial.T.mgC rfl) (fun u h => h)) (ia_cons (ie_isExc (l := [("TreeError", false), ("InvalidNumber", true), ("InvalidSerial", false)]) rfl T.n_isinstance xf T.xc_InvalidNumber hmN hsN hz hfv rfl (.inl rfl) (pe_glob (v := .ref T.E_InvalidNumber.C) rfl T.E_InvalidNumber.T.mgC rfl) (fun u h => h)) (ia_cons (ie_exc xf nv hz hfv rfl (.inl rfl)) ia_nil))))))))
    (is_one (is_ret (ie_var 4)))))), T.D__law_error.m, T.D__law_error.F.kp, T.D__law_error.b⟩
/-! _law_errors_right -/
theorem sc__law_errors_right : FnScope ["_law_deck_here", "_law_one", "_law_other", "_law_bad", "_law_worse", "_law_number", "_law_way_here", "_law_due", "_law_missed"] ["_law_deck_here", "_law_one", "_law_other"] (defScope (top 35)) := ⟨rfl, rfl, rfl, by decide +kernel, rfl, by decide +kernel, by decide +kernel⟩
def b__law_errors_right : DS := (sSeq (sAsg (dOp ixW (dLst (dCons (dUn negW (dC (.int 1))) (dCons (dOp powW (dC (.int 2)) (dC (.int 32))) (dCons (dUn negW (dOp powW (dC (.int 2)) (dC (.int 40)))) (dCons (dOp addW (dOp addW (dOp powW (dC (.int 2)) (dC (.int 32))) (dC (.int 1))) (dCall 2 d__law_draw (dCons (dVar 0) (dCons (dOp powW (dC (.int 2)) (dC (.int 40))) dNil)))) dNil))))) (dCall 2 d__law_draw (dCons (dVar 0) (dCons (dC (.int 4)) dNil)))) (tName 3))
    (sSeq (sAsg (dOp ixW (dLst (dCons (dUn negW (dC (.int 2))) (dCons (dOp powW (dC (.int 2)) (dC (.int 33))) dNil))) (dCall 2 d__law_draw (dCons (dVar 0) (dCons (dC (.int 2)) dNil)))) (tName 4))
    (sSeq (sAsg (dOp ixW (dLst (dCons (dUn negW (dC (.int 1))) (dCons (dOp subW (dUn negW (dC (.int 1))) (dCall 2 d__law_draw (dCons (dVar 0) (dCons (dOp powW (dC (.int 10)) (dC (.int 20))) dNil)))) dNil))) (dCall 2 d__law_draw (dCons (dVar 0) (dCons (dC (.int 2)) dNil)))) (tName 5))
    (sSeq (sFor (dRange1 (dCons (dC (.int 6)) dNil)) (tName 6)
    (sSeq (sIf (dBool (dOp neW (dCall 4 d__law_error (dCons (dVar 6) (dCons (dVar 3) (dCons (dVar 2) (dCons (dC (.int 0)) dNil))))) (dTup (dCons (dC (.bl true)) (dCons (dC (.bl false)) (dCons (dVar 3) dNil))))))
    (sRet (dC (.bl false)))
    sNil)
    (sSeq (sIf (dAnd (dBool (dOp neW (dVar 6) (dC (.int 1)))) (dBool (dOp neW (dCall 4 d__law_error (dCons (dVar 6) (dCons (dVar 1) (dCons (dVar 3) (dCons (dC (.int 0)) dNil))))) (dTup (dCons (dC (.bl true)) (dCons (dC (.bl false)) (dCons (dVar 3) dNil)))))))
    (sRet (dC (.bl false)))
    sNil)
    (sSeq (sAsg (dIf (dBool (dOp neW (dVar 6) (dC (.int 2)))) (dVar 3) (dVar 4)) (tName 7))
    (sSeq (sIf (dBool (dOp neW (dCall 4 d__law_error (dCons (dVar 6) (dCons (dVar 3) (dCons (dVar 4) (dCons (dVar 5) dNil))))) (dTup (dCons (dC (.bl true)) (dCons (dC (.bl false)) (dCons (dVar 7) dNil))))))
    (sRet (dC (.bl false)))
    sNil)
    (sIf (dBool (dOp isNotNW (dCall 4 d__law_error (dCons (dVar 6) (dCons (dVar 1) (dCons (dVar 2) (dCons (dC (.int 0)) dNil))))) (dC .non)))
    (sRet (dC (.bl false)))
    sNil))))))
    (sSeq (sIf (dOr (dBool (dOp neW (dCall 4 d__law_error (dCons (dC (.int 1)) (dCons (dVar 1) (dCons (dVar 2) (dCons (dVar 5) dNil))))) (dTup (dCons (dC (.bl false)) (dCons (dC (.bl true)) (dCons (dVar 5) dNil)))))) (dBool (dOp isNotNW (dCall 4 d__law_error (dCons (dC (.int 1)) (dCons (dVar 1) (dCons (dVar 2) (dCons (dOp powW (dC (.int 10)) (dC (.int 20))) dNil))))) (dC .non))))
    (sRet (dC (.bl false)))
    sNil)
    (sSeq (sFor (dRange2 (dCons (dC (.int 3)) (dCons (dC (.int 6)) dNil))) (tName 6)
    (sSeq (sFor (dIt (dTup (dCons (dVar 5) (dCons (dC (.int 1001)) (dCons (dOp subW (dC (.int 1001)) (dVar 5)) dNil))))) (tName 8)
    (sIf (dBool (dOp neW (dCall 4 d__law_error (dCons (dVar 6) (dCons (dVar 1) (dCons (dVar 2) (dCons (dVar 8) dNil))))) (dTup (dCons (dC (.bl false)) (dCons (dC (.bl true)) (dCons (dVar 8) dNil))))))
    (sRet (dC (.bl false)))
    sNil))
    (sIf (dBool (dOp isNotNW (dCall 4 d__law_error (dCons (dVar 6) (dCons (dVar 1) (dCons (dVar 2) (dCons (dC (.int 1000)) dNil))))) (dC .non)))
    (sRet (dC (.bl false)))
    sNil)))
    (sRet (dC (.bl true)))))))))
def d__law_errors_right : List W → Store → Res W := fnDen 9 b__law_errors_right
def fn__law_errors_right (T : Txt P w K mg base) : FnF P w K mg base "_law_errors_right" ["_law_deck_here", "_law_one", "_law_other"] 14 3 d__law_errors_right :=
  ⟨T.D__law_errors_right.f, T.D__law_errors_right.fd, fn_ok (k := 13) T.D__law_errors_right.F sc__law_errors_right (fun cdv A outer s H E hr => (is_cons (is_set (i := 3) ExOk.none sc__law_errors_right.nd rfl (.inl rfl) (ie_ix (ie_lst (ia_cons (ie_neg ie_int) (ia_cons (ie_pow ie_int ie_int) (ia_cons (ie_neg (ie_pow ie_int ie_int)) (ia_cons (ie_add (ie_add (ie_pow ie_int ie_int) ie_int) (ie_callF (fn__law_draw T) (hr.mono (by decide)) (takes_of rfl rfl rfl rfl) (ia_cons (ie_var 0) (ia_cons (ie_pow ie_int ie_int) ia_nil)))) ia_nil))))) (ie_callF (fn__law_draw T) (hr.mono (by decide)) (takes_of rfl rfl rfl rfl) (ia_cons (ie_var 0) (ia_cons ie_int ia_nil)))))
    (is_cons (is_set (i := 4) ExOk.none sc__law_errors_right.nd rfl (.inl rfl) (ie_ix (ie_lst (ia_cons (ie_neg ie_int) (ia_cons (ie_pow ie_int ie_int) ia_nil))) (ie_callF (fn__law_draw T) (hr.mono (by decide)) (takes_of rfl rfl rfl rfl) (ia_cons (ie_var 0) (ia_cons ie_int ia_nil)))))
    (is_cons (is_set (i := 5) ExOk.none sc__law_errors_right.nd rfl (.inl rfl) (ie_ix (ie_lst (ia_cons (ie_neg ie_int) (ia_cons (ie_sub (ie_neg ie_int) (ie_callF (fn__law_draw T) (hr.mono (by decide)) (takes_of rfl rfl rfl rfl) (ia_cons (ie_var 0) (ia_cons (ie_pow ie_int ie_int) ia_nil)))) ia_nil))) (ie_callF (fn__law_draw T) (hr.mono (by decide)) (takes_of rfl rfl rfl rfl) (ia_cons (ie_var 0) (ia_cons ie_int ia_nil)))))
    (is_cons (is_for (vs := [6]) (passes_of rfl) rfl (ii_range1 rfl T.n_range (ia_cons ie_int ia_nil)) (ig_name (i := 6) (by decide) ExOk.none sc__law_errors_right.nd rfl (.inl rfl))
    (is_cons (is_if (it_ne hr (ie_callF (fn__law_error T) (hr.mono (by decide)) (takes_of rfl rfl rfl rfl) (ia_cons (ie_var 6) (ia_cons (ie_var 3) (ia_cons (ie_var 2) (ia_cons ie_int ia_nil))))) (ie_tup (ia_cons ie_bl (ia_cons ie_bl (ia_cons (ie_var 3) ia_nil)))))
    (is_one (is_ret ie_bl))
    is_nil)
    (is_cons (is_if (it_w (iw_and (it_ne hr (ie_var 6) ie_int) (iw_and1 (it_ne hr (ie_callF (fn__law_error T) (hr.mono (by decide)) (takes_of rfl rfl rfl rfl) (ia_cons (ie_var 6) (ia_cons (ie_var 1) (ia_cons (ie_var 3) (ia_cons ie_int ia_nil))))) (ie_tup (ia_cons ie_bl (ia_cons ie_bl (ia_cons (ie_var 3) ia_nil))))))))
    (is_one (is_ret ie_bl))
    is_nil)
    (is_cons (is_set (i := 7) ExOk.none sc__law_errors_right.nd rfl (.inl rfl) (ie_if (it_ne hr (ie_var 6) ie_int) (ie_var 3) (ie_var 4)))
    (is_cons (is_if (it_ne hr (ie_callF (fn__law_error T) (hr.mono (by decide)) (takes_of rfl rfl rfl rfl) (ia_cons (ie_var 6) (ia_cons (ie_var 3) (ia_cons (ie_var 4) (ia_cons (ie_var 5) ia_nil))))) (ie_tup (ia_cons ie_bl (ia_cons ie_bl (ia_cons (ie_var 7) ia_nil)))))
    (is_one (is_ret ie_bl))
    is_nil)
    (is_one (is_if (it_isNotN (ie_callF (fn__law_error T) (hr.mono (by decide)) (takes_of rfl rfl rfl rfl) (ia_cons (ie_var 6) (ia_cons (ie_var 1) (ia_cons (ie_var 2) (ia_cons ie_int ia_nil))))) ie_non)
    (is_one (is_ret ie_bl))
    is_nil)))))))
    (is_cons (is_if (it_w (iw_or (it_ne hr (ie_callF (fn__law_error T) (hr.mono (by decide)) (takes_of rfl rfl rfl rfl) (ia_cons ie_int (ia_cons (ie_var 1) (ia_cons (ie_var 2) (ia_cons (ie_var 5) ia_nil))))) (ie_tup (ia_cons ie_bl (ia_cons ie_bl (ia_cons (ie_var 5) ia_nil))))) (iw_or1 (it_isNotN (ie_callF (fn__law_error T) (hr.mono (by decide)) (takes_of rfl rfl rfl rfl) (ia_cons ie_int (ia_cons (ie_var 1) (ia_cons (ie_var 2) (ia_cons (ie_pow ie_int ie_int) ia_nil))))) ie_non))))
    (is_one (is_ret ie_bl))
    is_nil)
    (is_cons (is_for (vs := [6]) (passes_of rfl) rfl (ii_range2 rfl T.n_range (ia_cons ie_int (ia_cons ie_int ia_nil))) (ig_name (i := 6) (by decide) ExOk.none sc__law_errors_right.nd rfl (.inl rfl))
    (is_cons (is_for (vs := [8]) (passes_of rfl) rfl (ii_val (ie_tup (ia_cons (ie_var 5) (ia_cons ie_int (ia_cons (ie_sub ie_int (ie_var 5)) ia_nil))))) (ig_name (i := 8) (by decide) ExOk.none sc__law_errors_right.nd rfl (.inl rfl))
    (is_one (is_if (it_ne hr (ie_callF (fn__law_error T) (hr.mono (by decide)) (takes_of rfl rfl rfl rfl) (ia_cons (ie_var 6) (ia_cons (ie_var 1) (ia_cons (ie_var 2) (ia_cons (ie_var 8) ia_nil))))) (ie_tup (ia_cons ie_bl (ia_cons ie_bl (ia_cons (ie_var 8) ia_nil)))))
    (is_one (is_ret ie_bl))
    is_nil)))
    (is_one (is_if (it_isNotN (ie_callF (fn__law_error T) (hr.mono (by decide)) (takes_of rfl rfl rfl rfl) (ia_cons (ie_var 6) (ia_cons (ie_var 1) (ia_cons (ie_var 2) (ia_cons ie_int ia_nil))))) ie_non)
    (is_one (is_ret ie_bl))
    is_nil))))
    (is_one (is_ret ie_bl))))))))), T.D__law_errors_right.m, T.D__law_errors_right.F.kp, T.D__law_errors_right.b⟩
/-! _law_circle_right -/
theorem sc__law_circle_right : FnScope ["_law_deck_here", "_law_one", "_law_other", "_law_count", "_law_found", "_law_some", "_law_row", "_law_best", "_law_copy", "_law_turn", "_law_serial", "_law_two"] ["_law_deck_here", "_law_one", "_law_other"] (defScope (top 36)) := ⟨rfl, rfl, rfl, by decide +kernel, rfl, by decide +kernel, by decide +kernel⟩
def b__law_circle_right : DS := (sSeq (sIf (dBool (dOp neW (dApp reprW (dCons (dCall 2 d_newer (dCons (dVar 1) (dCons (dVar 2) dNil))) dNil)) (dApp reprW (dCons (dCall 2 d__law_is_newer (dCons (dVar 1) (dCons (dVar 2) dNil))) dNil))))
    (sRet (dC (.bl false)))
    sNil)
    (sSeq (sIf (dBool (dOp neW (dApp reprW (dCons (dCallP 2 [1, 0] d_newer (dCons (dVar 1) (dCons (dVar 2) dNil))) dNil)) (dApp reprW (dCons (dCall 2 d__law_is_newer (dCons (dVar 2) (dCons (dVar 1) dNil))) dNil))))
    (sRet (dC (.bl false)))
    sNil)
    (sSeq (sAsg (dOp ixW (dLst (dCons (dCall 2 d__law_draw (dCons (dVar 0) (dCons (dC (.int 5)) dNil))) (dCons (dCall 2 d__law_draw (dCons (dVar 0) (dCons (dOp powW (dC (.int 2)) (dC (.int 32))) dNil))) (dCons (dCall 2 d__law_draw (dCons (dVar 0) (dCons (dOp powW (dC (.int 10)) (dC (.int 40))) dNil))) dNil)))) (dCall 2 d__law_draw (dCons (dVar 0) (dCons (dC (.int 3)) dNil)))) (tName 3))
    (sSeq (sAsg (dCall 2 d_further (dCons (dVar 1) (dCons (dVar 3) dNil))) (tName 4))
    (sSeq (sIf (dOr (dBool (dOp neW (dApp reprW (dCons (dVar 4) dNil)) (dApp reprW (dCons (dOp modW (dApp intOfW (dCons (dOp addW (dVar 1) (dVar 3)) dNil)) (dOp powW (dC (.int 2)) (dC (.int 32)))) dNil)))) (dBool (dOp neW (dCallP 2 [1, 0] d_further (dCons (dVar 3) (dCons (dVar 1) dNil))) (dVar 4))))
    (sRet (dC (.bl false)))
    sNil)
    (sSeq (sAsg (dLst (dCons (dVar 1) (dCons (dVar 2) (dCons (dVar 4) (dCons (dOp modW (dApp intOfW (dCons (dOp addW (dVar 1) (dOp powW (dC (.int 2)) (dC (.int 31)))) dNil)) (dOp powW (dC (.int 2)) (dC (.int 32)))) (dCons (dCall 2 d__law_draw (dCons (dVar 0) (dCons (dOp powW (dC (.int 2)) (dC (.int 32))) dNil))) dNil)))))) (tName 5))
    (sSeq (sAsg (dLc (dRange1 (dCons (dCall 2 d__law_draw (dCons (dVar 0) (dCons (dC (.int 8)) dNil))) dNil)) [9] (tName 9) dYes (dOp ixW (dVar 5) (dCall 2 d__law_draw (dCons (dVar 0) (dCons (dC (.int 5)) dNil))))) (tName 6))
    (sSeq (sAsg (dLc (dIt (dVar 6)) [10] (tName 10) (dBool (dApp allW (dCons (dLc (dIt (dVar 6)) [11] (tName 11) dYes (dOrV (dOp eqW (dVar 10) (dVar 11)) (dCall 2 d__law_is_newer (dCons (dVar 10) (dCons (dVar 11) dNil))))) dNil))) (dVar 10)) (tName 7))
    (sSeq (sAsg (dApp listAW (dCons (dVar 6) dNil)) (tName 8))
    (sRet (dAndV (dOp eqW (dApp reprW (dCons (dCall 1 d_newest (dCons (dVar 6) dNil)) dNil)) (dApp reprW (dCons (dOp ixW (dOp addW (dVar 7) (dLst (dCons (dC .non) dNil))) (dC (.int 0))) dNil))) (dAndV (dOp eqW (dCall 1 d_newest (dCons (dVar 6) dNil)) (dCall 1 d_newest (dCons (dVar 6) dNil))) (dOp eqW (dVar 6) (dVar 8))))))))))))))
def d__law_circle_right : List W → Store → Res W := fnDen 12 b__law_circle_right
def fn__law_circle_right (T : Txt P w K mg base) : FnF P w K mg base "_law_circle_right" ["_law_deck_here", "_law_one", "_law_other"] 12 3 d__law_circle_right :=
  ⟨T.D__law_circle_right.f, T.D__law_circle_right.fd, fn_ok (k := 11) T.D__law_circle_right.F sc__law_circle_right (fun cdv A outer s H E hr => (is_cons (is_if (it_ne hr (ie_repr rfl T.n_repr (ia_cons (ie_callF (fn_newer T) (hr.mono (by decide)) (takes_of rfl rfl rfl rfl) (ia_cons (ie_var 1) (ia_cons (ie_var 2) ia_nil))) ia_nil)) (ie_repr rfl T.n_repr (ia_cons (ie_callF (fn__law_is_newer T) (hr.mono (by decide)) (takes_of rfl rfl rfl rfl) (ia_cons (ie_var 1) (ia_cons (ie_var 2) ia_nil))) ia_nil)))
    (is_one (is_ret ie_bl))
    is_nil)
    (is_cons (is_if (it_ne hr (ie_repr rfl T.n_repr (ia_cons (ie_callFKP (fn_newer T) (hr.mono (by decide)) (takes_of rfl rfl rfl rfl) T.k_newer_1_0 (ik_cons (ie_var 1) (ik_cons (ie_var 2) ik_nil))) ia_nil)) (ie_repr rfl T.n_repr (ia_cons (ie_callF (fn__law_is_newer T) (hr.mono (by decide)) (takes_of rfl rfl rfl rfl) (ia_cons (ie_var 2) (ia_cons (ie_var 1) ia_nil))) ia_nil)))
    (is_one (is_ret ie_bl))
    is_nil)
    (is_cons (is_set (i := 3) ExOk.none sc__law_circle_right.nd rfl (.inl rfl) (ie_ix (ie_lst (ia_cons (ie_callF (fn__law_draw T) (hr.mono (by decide)) (takes_of rfl rfl rfl rfl) (ia_cons (ie_var 0) (ia_cons ie_int ia_nil))) (ia_cons (ie_callF (fn__law_draw T) (hr.mono (by decide)) (takes_of rfl rfl rfl rfl) (ia_cons (ie_var 0) (ia_cons (ie_pow ie_int ie_int) ia_nil))) (ia_cons (ie_callF (fn__law_draw T) (hr.mono (by decide)) (takes_of rfl rfl rfl rfl) (ia_cons (ie_var 0) (ia_cons (ie_pow ie_int ie_int) ia_nil))) ia_nil)))) (ie_callF (fn__law_draw T) (hr.mono (by decide)) (takes_of rfl rfl rfl rfl) (ia_cons (ie_var 0) (ia_cons ie_int ia_nil)))))
    (is_cons (is_set (i := 4) ExOk.none sc__law_circle_right.nd rfl (.inl rfl) (ie_callF (fn_further T) (hr.mono (by decide)) (takes_of rfl rfl rfl rfl) (ia_cons (ie_var 1) (ia_cons (ie_var 3) ia_nil))))
    (is_cons (is_if (it_w (iw_or (it_ne hr (ie_repr rfl T.n_repr (ia_cons (ie_var 4) ia_nil)) (ie_repr rfl T.n_repr (ia_cons (ie_mod (ie_intOf rfl T.n_int (ia_cons (ie_add (ie_var 1) (ie_var 3)) ia_nil)) (ie_pow ie_int ie_int)) ia_nil))) (iw_or1 (it_ne hr (ie_callFKP (fn_further T) (hr.mono (by decide)) (takes_of rfl rfl rfl rfl) T.k_further_1_0 (ik_cons (ie_var 3) (ik_cons (ie_var 1) ik_nil))) (ie_var 4)))))
    (is_one (is_ret ie_bl))
    is_nil)
    (is_cons (is_set (i := 5) ExOk.none sc__law_circle_right.nd rfl (.inr rfl) (ie_lst (ia_cons (ie_var 1) (ia_cons (ie_var 2) (ia_cons (ie_var 4) (ia_cons (ie_mod (ie_intOf rfl T.n_int (ia_cons (ie_add (ie_var 1) (ie_pow ie_int ie_int)) ia_nil)) (ie_pow ie_int ie_int)) (ia_cons (ie_callF (fn__law_draw T) (hr.mono (by decide)) (takes_of rfl rfl rfl rfl) (ia_cons (ie_var 0) (ia_cons (ie_pow ie_int ie_int) ia_nil))) ia_nil)))))))
    (is_cons (is_set (i := 6) ExOk.none sc__law_circle_right.nd rfl (.inr rfl) (ie_lc (own := [("_law_turn", 9)]) rfl sc__law_circle_right.nd (ii_range1 rfl T.n_range (ia_cons (ie_callF (fn__law_draw T) (hr.mono (by decide)) (takes_of rfl rfl rfl rfl) (ia_cons (ie_var 0) (ia_cons ie_int ia_nil))) ia_nil)) (blkOk_by (N := ["_law_deck_here", "_law_one", "_law_other", "_law_count", "_law_found", "_law_some", "_law_row", "_law_best", "_law_copy", "_law_turn", "_law_serial", "_law_two"]) (sc := defScope (top 36)) (own := [("_law_turn", 9)]) (by decide +kernel)) (fun _ _ _ _ _ => (ig_name (i := 9) (by decide) ExOk.none sc__law_circle_right.nd rfl (.inl rfl))) (fun _ _ _ _ _ => (ie_ix (ie_var 5) (ie_callF (fn__law_draw T) (hr.mono (by decide)) takes0 (ia_cons (ie_var 0) (ia_cons ie_int ia_nil)))))))
    (is_cons (is_setLcIf (i := 7) (own := [("_law_serial", 10)]) rfl sc__law_circle_right.nd rfl rfl (sw_true rfl rfl rfl (by decide +kernel)) (ii_val (ie_var 6)) (blkOk_by (N := ["_law_deck_here", "_law_one", "_law_other", "_law_count", "_law_found", "_law_some", "_law_row", "_law_best", "_law_copy", "_law_turn", "_law_serial", "_law_two"]) (sc := defScope (top 36)) (own := [("_law_serial", 10)]) (by decide +kernel)) (fun _ _ _ _ _ => (ig_name (i := 10) (by decide) ExOk.none sc__law_circle_right.nd rfl (.inr rfl))) (fun _ _ _ _ _ => (it_val (ie_all rfl rfl T.n_all (ia_cons (ie_lc (own := [("_law_two", 11)]) rfl sc__law_circle_right.nd (ii_val (ie_var 6)) (blkOk_by (N := ["_law_deck_here", "_law_one", "_law_other", "_law_count", "_law_found", "_law_some", "_law_row", "_law_best", "_law_copy", "_law_turn", "_law_serial", "_law_two"]) (own := [("_law_two", 11)]) (by rfl)) (fun _ _ _ _ _ => (ig_name (i := 11) (by decide) ExOk.none sc__law_circle_right.nd rfl (.inl rfl))) (fun _ _ _ _ _ => (ie_or (ie_eq hr (ie_var 10) (ie_var 11)) (ie_one (ie_callF (fn__law_is_newer T) (hr.mono (by decide)) takes0 (ia_cons (ie_var 10) (ia_cons (ie_var 11) ia_nil))))))) ia_nil)))) (fun _ _ _ _ _ => (ie_var 10)))
    (is_cons (is_set (i := 8) ExOk.none sc__law_circle_right.nd rfl (.inl rfl) (ie_listA rfl rfl T.n_list (ia_cons (ie_var 6) ia_nil)))
    (is_one (is_ret (ie_and (ie_eq hr (ie_repr rfl T.n_repr (ia_cons (ie_callF (fn_newest T) (hr.mono (by decide)) (takes_of rfl rfl rfl rfl) (ia_cons (ie_var 6) ia_nil)) ia_nil)) (ie_repr rfl T.n_repr (ia_cons (ie_ix (ie_add (ie_var 7) (ie_lst (ia_cons ie_non ia_nil))) ie_int) ia_nil))) (ie_and (ie_eq hr (ie_callFK (fn_newest T) (hr.mono (by decide)) (takes_of rfl rfl rfl rfl) T.k_newest (ik_cons (ie_var 6) ik_nil)) (ie_callF (fn_newest T) (hr.mono (by decide)) (takes_of rfl rfl rfl rfl) (ia_cons (ie_var 6) ia_nil))) (ie_one (ie_eq hr (ie_var 6) (ie_var 8))))))))))))))))), T.D__law_circle_right.m, T.D__law_circle_right.F.kp, T.D__law_circle_right.b⟩
/-! _law_spoilt -/
theorem sc__law_spoilt : FnScope ["_law_deck_here", "_law_one", "_law_other", "_law_way_here", "_law_found", "_law_at", "_law_by"] ["_law_deck_here", "_law_one", "_law_other", "_law_way_here"] (defScope (top 37)) := ⟨rfl, rfl, rfl, by decide +kernel, rfl, by decide +kernel, by decide +kernel⟩
def b__law_spoilt : DS := (sSeq (sAsg (dLst (dCons (dOp addW (dVar 3) (dLst (dCons (dVar 2) dNil))) (dCons (dSl (dVar 3) (dPart (dC (.int 1))) dNoPart) (dCons (dSl (dVar 3) dNoPart (dPart (dUn negW (dC (.int 1))))) (dCons (dOp addW (dLst (dCons (dVar 1) dNil)) (dVar 3)) (dCons (dLst (dCons (dVar 1) (dCons (dVar 2) dNil))) (dCons (dUn revW (dVar 3)) dNil))))))) (tName 4))
    (sSeq (sIf (dBool (dOp neW (dVar 3) (dLst dNil)))
    (sSeq (sAsg (dCall 2 d__law_draw (dCons (dVar 0) (dCons (dApp lenW (dCons (dVar 3) dNil)) dNil))) (tName 5))
    (sSeq (sAsg (dOp ixW (dLst (dCons (dC (.int 1)) (dCons (dUn negW (dC (.int 1))) (dCons (dOp powW (dC (.int 2)) (dC (.int 31))) (dCons (dCall 2 d__law_draw (dCons (dVar 0) (dCons (dOp powW (dC (.int 2)) (dC (.int 32))) dNil))) dNil))))) (dCall 2 d__law_draw (dCons (dVar 0) (dCons (dC (.int 4)) dNil)))) (tName 6))
    (sSeq (sExpr (dBm tyL appendW (dVar 4) (dCons (dOp addW (dOp addW (dSl (dVar 3) dNoPart (dPart (dVar 5))) (dLst (dCons (dOp modW (dApp intOfW (dCons (dOp addW (dOp ixW (dVar 3) (dVar 5)) (dVar 6)) dNil)) (dOp powW (dC (.int 2)) (dC (.int 32)))) dNil))) (dSl (dVar 3) (dPart (dOp addW (dVar 5) (dC (.int 1)))) dNoPart)) dNil)))
    (sSeq (sExpr (dBm tyL appendW (dVar 4) (dCons (dOp addW (dOp addW (dSl (dVar 3) dNoPart (dPart (dVar 5))) (dLst (dCons (dOp ixW (dVar 3) (dVar 5)) (dCons (dOp modW (dApp intOfW (dCons (dOp addW (dOp ixW (dVar 3) (dVar 5)) (dC (.int 1))) dNil)) (dOp powW (dC (.int 2)) (dC (.int 32)))) dNil)))) (dSl (dVar 3) (dPart (dOp addW (dVar 5) (dC (.int 1)))) dNoPart)) dNil)))
    (sExpr (dBm tyL appendW (dVar 4) (dCons (dOp addW (dSl (dVar 3) dNoPart (dPart (dVar 5))) (dSl (dVar 3) (dPart (dOp addW (dVar 5) (dC (.int 1)))) dNoPart)) dNil)))))))
    sNil)
    (sRet (dVar 4))))
def d__law_spoilt : List W → Store → Res W := fnDen 7 b__law_spoilt
def fn__law_spoilt (T : Txt P w K mg base) : FnF P w K mg base "_law_spoilt" ["_law_deck_here", "_law_one", "_law_other", "_law_way_here"] 2 4 d__law_spoilt :=
  ⟨T.D__law_spoilt.f, T.D__law_spoilt.fd, fn_ok (k := 1) T.D__law_spoilt.F sc__law_spoilt (fun cdv A outer s H E hr => (is_cons (is_set (i := 4) ExOk.none sc__law_spoilt.nd rfl (.inl rfl) (ie_lst (ia_cons (ie_add (ie_var 3) (ie_lst (ia_cons (ie_var 2) ia_nil))) (ia_cons (ie_slice (ie_var 3) (io_some ie_int) io_none) (ia_cons (ie_slice (ie_var 3) io_none (io_some (ie_neg ie_int))) (ia_cons (ie_add (ie_lst (ia_cons (ie_var 1) ia_nil)) (ie_var 3)) (ia_cons (ie_lst (ia_cons (ie_var 1) (ia_cons (ie_var 2) ia_nil))) (ia_cons (ie_rev (ie_var 3)) ia_nil))))))))
    (is_cons (is_if (it_ne hr (ie_var 3) (ie_lst ia_nil))
    (is_cons (is_set (i := 5) ExOk.none sc__law_spoilt.nd rfl (.inl rfl) (ie_callF (fn__law_draw T) (hr.mono (by decide)) (takes_of rfl rfl rfl rfl) (ia_cons (ie_var 0) (ia_cons (ie_len rfl T.n_len (ia_cons (ie_var 3) ia_nil)) ia_nil))))
    (is_cons (is_set (i := 6) ExOk.none sc__law_spoilt.nd rfl (.inl rfl) (ie_ix (ie_lst (ia_cons ie_int (ia_cons (ie_neg ie_int) (ia_cons (ie_pow ie_int ie_int) (ia_cons (ie_callF (fn__law_draw T) (hr.mono (by decide)) (takes_of rfl rfl rfl rfl) (ia_cons (ie_var 0) (ia_cons (ie_pow ie_int ie_int) ia_nil))) ia_nil))))) (ie_callF (fn__law_draw T) (hr.mono (by decide)) (takes_of rfl rfl rfl rfl) (ia_cons (ie_var 0) (ia_cons ie_int ia_nil)))))
    (is_cons (is_expr (ie_append (ie_var 4) (ia_cons (ie_add (ie_add (ie_slice (ie_var 3) io_none (io_some (ie_var 5))) (ie_lst (ia_cons (ie_mod (ie_intOf rfl T.n_int (ia_cons (ie_add (ie_ix (ie_var 3) (ie_var 5)) (ie_var 6)) ia_nil)) (ie_pow ie_int ie_int)) ia_nil))) (ie_slice (ie_var 3) (io_some (ie_add (ie_var 5) ie_int)) io_none)) ia_nil)))
    (is_cons (is_expr (ie_append (ie_var 4) (ia_cons (ie_add (ie_add (ie_slice (ie_var 3) io_none (io_some (ie_var 5))) (ie_lst (ia_cons (ie_ix (ie_var 3) (ie_var 5)) (ia_cons (ie_mod (ie_intOf rfl T.n_int (ia_cons (ie_add (ie_ix (ie_var 3) (ie_var 5)) ie_int) ia_nil)) (ie_pow ie_int ie_int)) ia_nil)))) (ie_slice (ie_var 3) (io_some (ie_add (ie_var 5) ie_int)) io_none)) ia_nil)))
    (is_one (is_expr (ie_append (ie_var 4) (ia_cons (ie_add (ie_slice (ie_var 3) io_none (io_some (ie_var 5))) (ie_slice (ie_var 3) (io_some (ie_add (ie_var 5) ie_int)) io_none)) ia_nil))))))))
    is_nil)
    (is_one (is_ret (ie_var 4)))))), T.D__law_spoilt.m, T.D__law_spoilt.F.kp, T.D__law_spoilt.b⟩
/-! _law_steps_right -/
theorem sc__law_steps_right : FnScope ["_law_deck_here", "_law_one", "_law_other", "_law_missed", "_law_due", "_law_found", "_law_way_here", "_law_spoilt_here", "_law_beyond", "_law_at", "_law_thing", "_law_good", "_law_by", "_law_serial"] ["_law_deck_here", "_law_one", "_law_other", "_law_missed"] (defScope (top 38)) := ⟨rfl, rfl, rfl, by decide +kernel, rfl, by decide +kernel, by decide +kernel⟩
def b__law_steps_right : DS := (sSeq (sAsg (dCall 3 d__law_fewest (dCons (dVar 1) (dCons (dVar 2) (dCons (dVar 3) dNil)))) (tName 4))
    (sSeq (sAsg (dCall 3 d_fewest_steps (dCons (dVar 1) (dCons (dVar 2) (dCons (dVar 3) dNil)))) (tName 5))
    (sSeq (sAsg (dCall 3 d_steps (dCons (dVar 1) (dCons (dVar 2) (dCons (dVar 3) dNil)))) (tName 6))
    (sSeq (sIf (dOr (dBool (dOp neW (dApp reprW (dCons (dVar 5) dNil)) (dApp reprW (dCons (dVar 4) dNil)))) (dOr (dNot (dBool (dApp isiW (dCons (dVar 6) (dCons (dC (.gl (.ty "list"))) dNil))))) (dBool (dOp neW (dApp lenW (dCons (dVar 6) dNil)) (dVar 4)))))
    (sRet (dC (.bl false)))
    sNil)
    (sSeq (sIf (dNot (dBool (dApp allW (dCons (dLc (dIt (dVar 6)) [13] (tName 13) dYes (dAndV (dApp isiW (dCons (dVar 13) (dCons (dC (.gl (.ty "int"))) dNil))) (dNotV (dApp isiW (dCons (dVar 13) (dCons (dC (.gl (.ty "bool"))) dNil)))))) dNil))))
    (sRet (dC (.bl false)))
    sNil)
    (sSeq (sIf (dOr (dNot (dBool (dApp allW (dCons (dLc (dIt (dVar 6)) [13] (tName 13) dYes (dChain leW ltW (dC (.int 0)) (dVar 13) (dOp powW (dC (.int 2)) (dC (.int 32))))) dNil)))) (dNot (dBool (dCall 4 d__law_is_way (dCons (dVar 1) (dCons (dVar 2) (dCons (dVar 3) (dCons (dVar 6) dNil))))))))
    (sRet (dC (.bl false)))
    sNil)
    (sSeq (sIf (dBool (dOp (isBW true) (dCall 4 d_judge_steps (dCons (dVar 1) (dCons (dVar 2) (dCons (dVar 3) (dCons (dVar 6) dNil))))) (dC (.bl true))))
    (sRet (dC (.bl false)))
    sNil)
    (sSeq (sIf (dBool (dOp (isBW true) (dCallP 4 [3, 2, 1, 0] d_judge_steps (dCons (dApp listAW (dCons (dVar 6) dNil)) (dCons (dVar 3) (dCons (dVar 2) (dCons (dVar 1) dNil))))) (dC (.bl true))))
    (sRet (dC (.bl false)))
    sNil)
    (sSeq (sFor (dIt (dCall 4 d__law_spoilt (dCons (dVar 0) (dCons (dVar 1) (dCons (dVar 2) (dCons (dVar 6) dNil)))))) (tName 7)
    (sSeq (sAsg (dAndV (dOp eqW (dApp lenW (dCons (dVar 7) dNil)) (dVar 4)) (dCall 4 d__law_is_way (dCons (dVar 1) (dCons (dVar 2) (dCons (dVar 3) (dCons (dVar 7) dNil)))))) (tName 11))
    (sIf (dBool (dOp neW (dApp reprW (dCons (dCall 4 d_judge_steps (dCons (dVar 1) (dCons (dVar 2) (dCons (dVar 3) (dCons (dVar 7) dNil))))) dNil)) (dApp reprW (dCons (dVar 11) dNil))))
    (sRet (dC (.bl false)))
    sNil)))
    (sSeq (sAsg (dLst dNil) (tName 8))
    (sSeq (sFor (dRange1 (dCons (dApp minW (dCons (dC (.int 3)) (dCons (dApp lenW (dCons (dVar 6) dNil)) dNil))) dNil)) (tName 9)
    (sFor (dIt (dTup (dCons (dOp powW (dC (.int 2)) (dC (.int 32))) (dCons (dUn negW (dOp powW (dC (.int 2)) (dC (.int 32)))) dNil)))) (tName 12)
    (sSeq (sExpr (dBm tyL appendW (dVar 8) (dCons (dOp addW (dOp addW (dSl (dVar 6) dNoPart (dPart (dVar 9))) (dLst (dCons (dOp addW (dOp ixW (dVar 6) (dVar 9)) (dVar 12)) dNil))) (dSl (dVar 6) (dPart (dOp addW (dVar 9) (dC (.int 1)))) dNoPart)) dNil)))
    (sExpr (dBm tyL appendW (dVar 8) (dCons (dOp addW (dOp addW (dSl (dVar 6) dNoPart (dPart (dOp subW (dUn negW (dC (.int 1))) (dVar 9)))) (dLst (dCons (dOp addW (dOp ixW (dVar 6) (dOp subW (dUn negW (dC (.int 1))) (dVar 9))) (dVar 12)) dNil))) (dSl (dVar 6) (dPart (dOp subW (dApp lenW (dCons (dVar 6) dNil)) (dVar 9))) dNoPart)) dNil))))))
    (sSeq (sFor (dIt (dOp addW (dLst (dCons (dC .non) (dCons (dC (.str "way")) (dCons (dApp tupleW (dCons (dVar 6) dNil)) (dCons (dOp addW (dVar 6) (dLst (dCons (dC .non) dNil))) (dCons (dOp addW (dSl (dVar 6) dNoPart (dPart (dUn negW (dC (.int 1))))) (dLst (dCons (dC (.bl true)) dNil))) (dCons (dLst (dCons (dVar 6) dNil)) (dCons (dC (.int 7)) dNil)))))))) (dVar 8))) (tName 10)
    (sIf (dBool (dOp (isBW true) (dCall 4 d_judge_steps (dCons (dVar 1) (dCons (dVar 2) (dCons (dVar 3) (dCons (dVar 10) dNil))))) (dC (.bl false))))
    (sRet (dC (.bl false)))
    sNil))
    (sSeq (sExpr (dBm tyL appendW (dVar 6) (dCons (dC (.int 7)) dNil)))
    (sSeq (sIf (dBool (dOp neW (dCallP 3 [2, 1, 0] d_fewest_steps (dCons (dVar 3) (dCons (dVar 2) (dCons (dVar 1) dNil)))) (dVar 4)))
    (sRet (dC (.bl false)))
    sNil)
    (sRet (dOp eqW (dApp lenW (dCons (dCallP 3 [2, 0, 1] d_steps (dCons (dVar 2) (dCons (dVar 3) (dCons (dVar 1) dNil)))) dNil)) (dVar 4)))))))))))))))))
def d__law_steps_right : List W → Store → Res W := fnDen 14 b__law_steps_right
def fn__law_steps_right (T : Txt P w K mg base) : FnF P w K mg base "_law_steps_right" ["_law_deck_here", "_law_one", "_law_other", "_law_missed"] 13 4 d__law_steps_right :=
  ⟨T.D__law_steps_right.f, T.D__law_steps_right.fd, fn_ok (k := 12) T.D__law_steps_right.F sc__law_steps_right (fun cdv A outer s H E hr => (is_cons (is_set (i := 4) ExOk.none sc__law_steps_right.nd rfl (.inl rfl) (ie_callF (fn__law_fewest T) (hr.mono (by decide)) (takes_of rfl rfl rfl rfl) (ia_cons (ie_var 1) (ia_cons (ie_var 2) (ia_cons (ie_var 3) ia_nil)))))
    (is_cons (is_set (i := 5) ExOk.none sc__law_steps_right.nd rfl (.inl rfl) (ie_callF (fn_fewest_steps T) (hr.mono (by decide)) (takes_of rfl rfl rfl rfl) (ia_cons (ie_var 1) (ia_cons (ie_var 2) (ia_cons (ie_var 3) ia_nil)))))
    (is_cons (is_set (i := 6) ExOk.none sc__law_steps_right.nd rfl (.inl rfl) (ie_callF (fn_steps T) (hr.mono (by decide)) (takes_of rfl rfl rfl rfl) (ia_cons (ie_var 1) (ia_cons (ie_var 2) (ia_cons (ie_var 3) ia_nil)))))
    (is_cons (is_if (it_w (iw_or (it_ne hr (ie_repr rfl T.n_repr (ia_cons (ie_var 5) ia_nil)) (ie_repr rfl T.n_repr (ia_cons (ie_var 4) ia_nil))) (iw_or (it_not (it_val (ie_isi rfl T.n_isinstance (ia_cons (ie_var 6) (ia_cons (ie_ty (T := "list") rfl T.n_list (by decide +kernel)) ia_nil))))) (iw_or1 (it_ne hr (ie_len rfl T.n_len (ia_cons (ie_var 6) ia_nil)) (ie_var 4))))))
    (is_one (is_ret ie_bl))
    is_nil)
    (is_cons (is_if (it_not (it_val (ie_all rfl rfl T.n_all (ia_cons (ie_lc (own := [("_law_serial", 13)]) rfl sc__law_steps_right.nd (ii_val (ie_var 6)) (blkOk_by (N := ["_law_deck_here", "_law_one", "_law_other", "_law_missed", "_law_due", "_law_found", "_law_way_here", "_law_spoilt_here", "_law_beyond", "_law_at", "_law_thing", "_law_good", "_law_by", "_law_serial"]) (sc := defScope (top 38)) (own := [("_law_serial", 13)]) (by decide +kernel)) (fun _ _ _ _ _ => (ig_name (i := 13) (by decide) ExOk.none sc__law_steps_right.nd rfl (.inl rfl))) (fun _ _ _ _ _ => (ie_and (ie_isi rfl T.n_isinstance (ia_cons (ie_var 13) (ia_cons (ie_ty (T := "int") rfl T.n_int (by decide +kernel)) ia_nil))) (ie_one (ie_notV (ie_isi rfl T.n_isinstance (ia_cons (ie_var 13) (ia_cons (ie_ty (T := "bool") rfl T.n_bool (by decide +kernel)) ia_nil)))))))) ia_nil))))
    (is_one (is_ret ie_bl))
    is_nil)
    (is_cons (is_if (it_w (iw_or (it_not (it_val (ie_all rfl rfl T.n_all (ia_cons (ie_lc (own := [("_law_serial", 13)]) rfl sc__law_steps_right.nd (ii_val (ie_var 6)) (blkOk_by (N := ["_law_deck_here", "_law_one", "_law_other", "_law_missed", "_law_due", "_law_found", "_law_way_here", "_law_spoilt_here", "_law_beyond", "_law_at", "_law_thing", "_law_good", "_law_by", "_law_serial"]) (sc := defScope (top 38)) (own := [("_law_serial", 13)]) (by decide +kernel)) (fun _ _ _ _ _ => (ig_name (i := 13) (by decide) ExOk.none sc__law_steps_right.nd rfl (.inl rfl))) (fun _ _ _ _ _ => (ie_lelt ie_int (ie_var 13) (ie_pow ie_int ie_int)))) ia_nil)))) (iw_or1 (it_not (it_val (ie_callF (fn__law_is_way T) (hr.mono (by decide)) (takes_of rfl rfl rfl rfl) (ia_cons (ie_var 1) (ia_cons (ie_var 2) (ia_cons (ie_var 3) (ia_cons (ie_var 6) ia_nil))))))))))
    (is_one (is_ret ie_bl))
    is_nil)
    (is_cons (is_if (it_isNotB (ie_callF (fn_judge_steps T) (hr.mono (by decide)) (takes_of rfl rfl rfl rfl) (ia_cons (ie_var 1) (ia_cons (ie_var 2) (ia_cons (ie_var 3) (ia_cons (ie_var 6) ia_nil))))) ie_bl)
    (is_one (is_ret ie_bl))
    is_nil)
    (is_cons (is_if (it_isNotB (ie_callFKP (fn_judge_steps T) (hr.mono (by decide)) (takes_of rfl rfl rfl rfl) T.k_judge_steps_3_2_1_0 (ik_cons (ie_listA rfl rfl T.n_list (ia_cons (ie_var 6) ia_nil)) (ik_cons (ie_var 3) (ik_cons (ie_var 2) (ik_cons (ie_var 1) ik_nil))))) ie_bl)
    (is_one (is_ret ie_bl))
    is_nil)
    (is_cons (is_for (vs := [7]) (passes_of rfl) rfl (ii_val (ie_callF (fn__law_spoilt T) (hr.mono (by decide)) (takes_of rfl rfl rfl rfl) (ia_cons (ie_var 0) (ia_cons (ie_var 1) (ia_cons (ie_var 2) (ia_cons (ie_var 6) ia_nil)))))) (ig_name (i := 7) (by decide) ExOk.none sc__law_steps_right.nd rfl (.inl rfl))
    (is_cons (is_set (i := 11) ExOk.none sc__law_steps_right.nd rfl (.inl rfl) (ie_and (ie_eq hr (ie_len rfl T.n_len (ia_cons (ie_var 7) ia_nil)) (ie_var 4)) (ie_one (ie_callF (fn__law_is_way T) (hr.mono (by decide)) (takes_of rfl rfl rfl rfl) (ia_cons (ie_var 1) (ia_cons (ie_var 2) (ia_cons (ie_var 3) (ia_cons (ie_var 7) ia_nil))))))))
    (is_one (is_if (it_ne hr (ie_repr rfl T.n_repr (ia_cons (ie_callF (fn_judge_steps T) (hr.mono (by decide)) (takes_of rfl rfl rfl rfl) (ia_cons (ie_var 1) (ia_cons (ie_var 2) (ia_cons (ie_var 3) (ia_cons (ie_var 7) ia_nil))))) ia_nil)) (ie_repr rfl T.n_repr (ia_cons (ie_var 11) ia_nil)))
    (is_one (is_ret ie_bl))
    is_nil))))
    (is_cons (is_set (i := 8) ExOk.none sc__law_steps_right.nd rfl (.inl rfl) (ie_lst ia_nil))
    (is_cons (is_for (vs := [9]) (passes_of rfl) rfl (ii_range1 rfl T.n_range (ia_cons (ie_min rfl rfl T.n_min (ia_cons ie_int (ia_cons (ie_len rfl T.n_len (ia_cons (ie_var 6) ia_nil)) ia_nil))) ia_nil)) (ig_name (i := 9) (by decide) ExOk.none sc__law_steps_right.nd rfl (.inl rfl))
    (is_one (is_for (vs := [12]) (passes_of rfl) rfl (ii_val (ie_tup (ia_cons (ie_pow ie_int ie_int) (ia_cons (ie_neg (ie_pow ie_int ie_int)) ia_nil)))) (ig_name (i := 12) (by decide) ExOk.none sc__law_steps_right.nd rfl (.inl rfl))
    (is_cons (is_expr (ie_append (ie_var 8) (ia_cons (ie_add (ie_add (ie_slice (ie_var 6) io_none (io_some (ie_var 9))) (ie_lst (ia_cons (ie_add (ie_ix (ie_var 6) (ie_var 9)) (ie_var 12)) ia_nil))) (ie_slice (ie_var 6) (io_some (ie_add (ie_var 9) ie_int)) io_none)) ia_nil)))
    (is_one (is_expr (ie_append (ie_var 8) (ia_cons (ie_add (ie_add (ie_slice (ie_var 6) io_none (io_some (ie_sub (ie_neg ie_int) (ie_var 9)))) (ie_lst (ia_cons (ie_add (ie_ix (ie_var 6) (ie_sub (ie_neg ie_int) (ie_var 9))) (ie_var 12)) ia_nil))) (ie_slice (ie_var 6) (io_some (ie_sub (ie_len rfl T.n_len (ia_cons (ie_var 6) ia_nil)) (ie_var 9))) io_none)) ia_nil))))))))
    (is_cons (is_for (vs := [10]) (passes_of rfl) rfl (ii_val (ie_add (ie_lst (ia_cons ie_non (ia_cons ie_str (ia_cons (ie_tuple rfl T.n_tuple (ia_cons (ie_var 6) ia_nil)) (ia_cons (ie_add (ie_var 6) (ie_lst (ia_cons ie_non ia_nil))) (ia_cons (ie_add (ie_slice (ie_var 6) io_none (io_some (ie_neg ie_int))) (ie_lst (ia_cons ie_bl ia_nil))) (ia_cons (ie_lst (ia_cons (ie_var 6) ia_nil)) (ia_cons ie_int ia_nil)))))))) (ie_var 8))) (ig_name (i := 10) (by decide) ExOk.none sc__law_steps_right.nd rfl (.inl rfl))
    (is_one (is_if (it_isNotB (ie_callF (fn_judge_steps T) (hr.mono (by decide)) (takes_of rfl rfl rfl rfl) (ia_cons (ie_var 1) (ia_cons (ie_var 2) (ia_cons (ie_var 3) (ia_cons (ie_var 10) ia_nil))))) ie_bl)
    (is_one (is_ret ie_bl))
    is_nil)))
    (is_cons (is_expr (ie_append (ie_var 6) (ia_cons ie_int ia_nil)))
    (is_cons (is_if (it_ne hr (ie_callFKP (fn_fewest_steps T) (hr.mono (by decide)) (takes_of rfl rfl rfl rfl) T.k_fewest_steps_2_1_0 (ik_cons (ie_var 3) (ik_cons (ie_var 2) (ik_cons (ie_var 1) ik_nil)))) (ie_var 4))
    (is_one (is_ret ie_bl))
    is_nil)
    (is_one (is_ret (ie_eq hr (ie_len rfl T.n_len (ia_cons (ie_callFKP (fn_steps T) (hr.mono (by decide)) (takes_of rfl rfl rfl rfl) T.k_steps_2_0_1 (ik_cons (ie_var 2) (ik_cons (ie_var 3) (ik_cons (ie_var 1) ik_nil)))) ia_nil)) (ie_var 4))))))))))))))))))), T.D__law_steps_right.m, T.D__law_steps_right.F.kp, T.D__law_steps_right.b⟩
/-! law -/
theorem sc_law : FnScope ["_law_script", "_law_deck_here", "_law_turn", "_law_one", "_law_other", "_law_missed"] ["_law_script"] (defScope (top 39)) := ⟨rfl, rfl, rfl, by decide +kernel, rfl, by decide +kernel, by decide +kernel⟩
def b_law : DS := (sSeq (sAsg (dCall 1 d__law_deck (dCons (dVar 0) dNil)) (tName 1))
    (sSeq (sFor (dRange1 (dCons (dApp maxW (dCons (dC (.int 1)) (dCons (dApp minW (dCons (dC (.int 3)) (dCons (dOp fdivW (dApp lenW (dCons (dVar 0) dNil)) (dC (.int 12))) dNil))) dNil))) dNil)) (tName 2)
    (sSeq (sAsg (dCall 1 d__law_serials (dCons (dVar 1) dNil)) (tTupT [(tName 3), (tName 4), (tName 5)]))
    (sSeq (sIf (dOr (dNot (dBool (dCall 3 d__law_circle_right (dCons (dVar 1) (dCons (dVar 3) (dCons (dVar 4) dNil)))))) (dNot (dBool (dCall 4 d__law_steps_right (dCons (dVar 1) (dCons (dVar 3) (dCons (dVar 4) (dCons (dVar 5) dNil))))))))
    (sRet (dC (.bl false)))
    sNil)
    (sIf (dNot (dBool (dCall 3 d__law_errors_right (dCons (dVar 1) (dCons (dVar 3) (dCons (dVar 4) dNil))))))
    (sRet (dC (.bl false)))
    sNil))))
    (sRet (dC (.bl true)))))
def d_law : List W → Store → Res W := fnDen 6 b_law
def fn_law (T : Txt P w K mg base) : FnF P w K mg base "law" ["_law_script"] 15 1 d_law :=
  ⟨T.D_law.f, T.D_law.fd, fn_ok (k := 14) T.D_law.F sc_law (fun cdv A outer s H E hr => (is_cons (is_set (i := 1) ExOk.none sc_law.nd rfl (.inl rfl) (ie_callF (fn__law_deck T) (hr.mono (by decide)) (takes_of rfl rfl rfl rfl) (ia_cons (ie_var 0) ia_nil)))
    (is_cons (is_for (vs := [2]) (passes_of rfl) rfl (ii_range1 rfl T.n_range (ia_cons (ie_max rfl rfl T.n_max (ia_cons ie_int (ia_cons (ie_min rfl rfl T.n_min (ia_cons ie_int (ia_cons (ie_fdiv (ie_len rfl T.n_len (ia_cons (ie_var 0) ia_nil)) ie_int) ia_nil))) ia_nil))) ia_nil)) (ig_name (i := 2) (by decide) ExOk.none sc_law.nd rfl (.inl rfl))
    (is_cons (is_asg (vs := [3, 4, 5]) (ie_callF (fn__law_serials T) (hr.mono (by decide)) (takes_of rfl rfl rfl rfl) (ia_cons (ie_var 1) ia_nil)) (ig_tup rfl (igs_cons (ig_name (i := 3) (by decide) ExOk.none sc_law.nd rfl (.inl rfl)) (igs_cons (ig_name (i := 4) (by decide) ExOk.none sc_law.nd rfl (.inl rfl)) (igs_cons (ig_name (i := 5) (by decide) ExOk.none sc_law.nd rfl (.inl rfl)) igs_nil)))))
    (is_cons (is_if (it_w (iw_or (it_not (it_val (ie_callF (fn__law_circle_right T) (hr.mono (by decide)) (takes_of rfl rfl rfl rfl) (ia_cons (ie_var 1) (ia_cons (ie_var 3) (ia_cons (ie_var 4) ia_nil)))))) (iw_or1 (it_not (it_val (ie_callF (fn__law_steps_right T) (hr.mono (by decide)) (takes_of rfl rfl rfl rfl) (ia_cons (ie_var 1) (ia_cons (ie_var 3) (ia_cons (ie_var 4) (ia_cons (ie_var 5) ia_nil))))))))))
    (is_one (is_ret ie_bl))
    is_nil)
    (is_one (is_if (it_not (it_val (ie_callF (fn__law_errors_right T) (hr.mono (by decide)) (takes_of rfl rfl rfl rfl) (ia_cons (ie_var 1) (ia_cons (ie_var 3) (ia_cons (ie_var 4) ia_nil))))))
    (is_one (is_ret ie_bl))
    is_nil)))))
    (is_one (is_ret ie_bl))))), T.D_law.m, T.D_law.F.kp, T.D_law.b⟩
end
end
end K25
namespace K25
open PySem PySem.Spec PyProof.Rows L2 MP
open Classical
noncomputable section
@[simp] theorem geW_i {i j : Int} {st : Store} : geW (.int i) (.int j) st = .ok (.bl (decide (j ≤ i))) st := rfl
theorem pw {b e : Int} {st : Store} (r : Int) (h : CPowW b e) (hr : b ^ e.toNat = r) : powW (.int b) (.int e) st = .ok (.int r) st := by rw [pow_okQ h, hr]
theorem pow2 (k : Int) (h0 : 0 ≤ k) (h : k ≤ 100) : CPowW 2 k := ⟨h0, by
  have : (Builtin.Int.intBits 2 : Int) = 2 := by decide +kernel
  rw [this]; omega⟩
theorem p32 {st : Store} : powW (.int 2) (.int 32) st = .ok (.int 4294967296) st := pw _ (pow2 32 (by decide) (by decide)) (by decide)
theorem p31 {st : Store} : powW (.int 2) (.int 31) st = .ok (.int 2147483648) st := pw _ (pow2 31 (by decide) (by decide)) (by decide)
theorem p33 {st : Store} : powW (.int 2) (.int 33) st = .ok (.int 8589934592) st := pw _ (pow2 33 (by decide) (by decide)) (by decide)
theorem p40 {st : Store} : powW (.int 2) (.int 40) st = .ok (.int 1099511627776) st := pw _ (pow2 40 (by decide) (by decide)) (by decide)
def serB : W → Bool
  | .int z => decide (0 ≤ z) && decide (z ≤ 4294967295)
  | _ => false
theorem serB_i (z : Int) : serB (.int z) = (decide (0 ≤ z) && decide (z ≤ 4294967295)) := rfl
@[simp] theorem kCall_3 (den : List W → Store → Res W) {a b c : W} {st : Store} : kCall 3 den [a, b, c] st = den [a, b, c] st := rfl
@[simp] theorem kCall_4 (den : List W → Store → Res W) {a b c d : W} {st : Store} : kCall 4 den [a, b, c, d] st = den [a, b, c, d] st := rfl
def isI : W → Bool
  | .int _ => true
  | _ => false
theorem whole_ok {w u : W} {st : Store} (h : Pic st w u) : d_is_whole [w] st = .ok (.bl (isI u)) st := by
  have h1 := isi_of h.ty (kB_int u)
  have h2 := isi_of h.ty (kB_bool u)
  unfold d_is_whole; rw [fnDen_ap]; unfold b_is_whole
  cases u <;> simp -implicitDefEqProofs [h1, h2, isI]
theorem serial_ok {w u : W} {st : Store} (h : Pic st w u) : d_is_serial [w] st = .ok (.bl (serB u)) st := by
  have h1 := whole_ok h
  have key : d_is_between [w, .int 0, .int 4294967295] st = .ok (.bl (serB u)) st := by
    unfold d_is_between; rw [fnDen_ap]; unfold b_is_between
    cases u with
    | int z =>
      have hw : w = .int z := by cases h with | pu _ h => rfl
      subst hw
      have h1 : d_is_whole [.int z] st = .ok (.bl true) st := h1
      rw [serB_i]
      by_cases h0 : (0 : Int) ≤ z
      · rw [decide_eq_true h0]
        simp -implicitDefEqProofs [h1, h0]
      · rw [decide_eq_false h0]
        simp -implicitDefEqProofs [h1, h0]
    | _ => simp -implicitDefEqProofs [h1, serB, isI]
  unfold d_is_serial; rw [fnDen_ap]; unfold b_is_serial
  simp -implicitDefEqProofs [key]
abbrev Ser (z : Int) : Prop := 0 ≤ z ∧ z ≤ 4294967295
theorem ser_true {z : Int} (h : Ser z) : serB (.int z) = true := by
  rw [serB_i, decide_eq_true h.1, decide_eq_true h.2]; rfl
theorem ser_false {z : Int} (h : ¬ Ser z) : serB (.int z) = false := by
  rw [serB_i]
  by_cases h0 : (0 : Int) ≤ z
  · rw [decide_eq_false (fun q => h ⟨h0, q⟩), Bool.and_false]
  · rw [decide_eq_false h0, Bool.false_and]
theorem rebuilt_i {z : Int} {st : Store} : d_rebuilt 8 [.int z] st = .ok (.int z) st := by
  have h1 : isiW [.int z, .gl (.ty "list")] st = .ok (.bl false) st := isi_of (t := "int") rfl (kB_list (.int z))
  have h2 : isiW [.int z, .gl (.ty "tuple")] st = .ok (.bl false) st := isi_of (t := "int") rfl (kB_tup (.int z))
  unfold d_rebuilt; rw [fnDen_ap]; unfold b_rebuilt
  simp -implicitDefEqProofs [h1, h2]
theorem check_ok {z : Int} {st : Store} (h : Ser z) : d_check_serial [.int z] st = .ok .non st := by
  have h1 := serial_ok (st := st) (.pu (.int z) rfl)
  rw [ser_true h] at h1
  unfold d_check_serial; rw [fnDen_ap]; unfold b_check_serial
  simp -implicitDefEqProofs [h1]
theorem check_bad {z : Int} {st : Store} (h : ¬ Ser z) : d_check_serial [.int z] st = .err "InvalidSerial" (.int z) st := by
  have h1 := serial_ok (st := st) (.pu (.int z) rfl)
  rw [ser_false h] at h1
  unfold d_check_serial; rw [fnDen_ap]; unfold b_check_serial
  simp -implicitDefEqProofs [h1, rebuilt_i]
def dst (a b : Int) : Int := (b - a) % 4294967296
def newB (x y : Int) : Bool := decide (1 ≤ dst y x) && decide (dst y x ≤ 2147483647)
theorem dst_pos (a b : Int) : 0 ≤ dst a b ∧ dst a b < 4294967296 := ⟨Int.emod_nonneg _ (by decide), Int.emod_lt_of_pos _ (by decide)⟩
theorem round_ok {a b : Int} {st : Store} : d__way_round [.int a, .int b] st = .ok (.int (dst a b)) st := by
  have h1 : modW (.int (b - a)) (.int 4294967296) st = .ok (.int (dst a b)) st := mod_okQ (by decide)
  unfold d__way_round; rw [fnDen_ap]; unfold b__way_round
  simp -implicitDefEqProofs [h1]
theorem lway_ok {a b : Int} {st : Store} : d__law_way [.int a, .int b] st = .ok (.int (dst b a)) st := by
  have h1 : modW (.int (a - b)) (.int 4294967296) st = .ok (.int (dst b a)) st := mod_okQ (by decide)
  unfold d__law_way; rw [fnDen_ap]; unfold b__law_way
  simp -implicitDefEqProofs [p32, h1]
theorem newer_ok {x y : Int} {st : Store} (hx : Ser x) (hy : Ser y) : d_newer [.int x, .int y] st = .ok (.bl (newB x y)) st := by
  unfold d_newer; rw [fnDen_ap]; unfold b_newer
  unfold newB
  cases h1 : decide (1 ≤ dst y x) <;> simp -implicitDefEqProofs [check_ok hx, check_ok hy, round_ok, h1]
theorem lnewer_ok {x y : Int} {st : Store} : d__law_is_newer [.int x, .int y] st = .ok (.bl (newB x y)) st := by
  have hd : decide (dst y x < 2147483648) = decide (dst y x ≤ 2147483647) := by
    rw [Bool.eq_iff_iff, decide_eq_true_iff, decide_eq_true_iff]; omega
  unfold d__law_is_newer; rw [fnDen_ap]; unfold b__law_is_newer
  unfold newB
  rw [← hd]
  cases h1 : decide (1 ≤ dst y x) <;> simp -implicitDefEqProofs [lway_ok, h1, p31]
theorem newer_bad1 {x : Int} {v : W} {st : Store} (hx : ¬ Ser x) : d_newer [.int x, v] st = .err "InvalidSerial" (.int x) st := by
  unfold d_newer; rw [fnDen_ap]; unfold b_newer
  simp -implicitDefEqProofs [check_bad hx]
theorem newer_bad2 {x y : Int} {st : Store} (hx : Ser x) (hy : ¬ Ser y) : d_newer [.int x, .int y] st = .err "InvalidSerial" (.int y) st := by
  unfold d_newer; rw [fnDen_ap]; unfold b_newer
  simp -implicitDefEqProofs [check_ok hx, check_bad hy]
theorem further_ok {x n : Int} {st : Store} (hx : Ser x) (hn : 0 ≤ n) : d_further [.int x, .int n] st = .ok (.int ((x + n) % 4294967296)) st := by
  have l0 : decide (n < 0) = false := decide_eq_false (by omega)
  have h1 : modW (.int (x + n)) (.int 4294967296) st = .ok (.int ((x + n) % 4294967296)) st := mod_okQ (by decide)
  unfold d_further; rw [fnDen_ap]; unfold b_further
  simp -implicitDefEqProofs only [sSeq_ap, sExpr_ap, dCall_ap, dCons_ap, dVar_ap, List.map_cons, List.map_nil, List.length_cons, List.length_nil, Nat.reduceAdd, Nat.reduceSub, List.replicate_succ, List.replicate_zero, List.cons_append, List.nil_append, List.append_nil, List.getElem?_cons_zero, List.getElem?_cons_succ, Res.bind_ok, kCons1_ap, dNil_ap, kCons2_ap, kCall_1, check_ok hx, Res.then_ok, kExpr_ap, RsS.next_nx, sIf_ap, dBool_ap, dOp_ap, dC_ap, kOp1_ap, ltW_i, l0, kBool_ap, kSIf_f, sNil_ap, sRet_ap, addW_i, h1, kRet_ap, fnR_rt, gc_i]
theorem further_bad {x : Int} {v : W} {st : Store} (hx : ¬ Ser x) : d_further [.int x, v] st = .err "InvalidSerial" (.int x) st := by
  unfold d_further; rw [fnDen_ap]; unfold b_further
  simp -implicitDefEqProofs [check_bad hx]
theorem further_neg {x n : Int} {st : Store} (hx : Ser x) (hn : n < 0) : d_further [.int x, .int n] st = .err "InvalidNumber" (.int n) st := by
  have l0 : decide (n < 0) = true := decide_eq_true hn
  unfold d_further; rw [fnDen_ap]; unfold b_further
  simp -implicitDefEqProofs [check_ok hx, l0]
theorem ends_ok {x y m : Int} {st : Store} (hx : Ser x) (hy : Ser y) (h0 : 0 ≤ m) (h1 : m ≤ 1000) : d__check_ends [.int x, .int y, .int m] st = .ok .non st := by
  unfold d__check_ends; rw [fnDen_ap]; unfold b__check_ends
  simp -implicitDefEqProofs [check_ok hx, check_ok hy, h0, h1]
theorem ends_bad1 {x : Int} {v w : W} {st : Store} (hx : ¬ Ser x) : d__check_ends [.int x, v, w] st = .err "InvalidSerial" (.int x) st := by
  unfold d__check_ends; rw [fnDen_ap]; unfold b__check_ends
  simp -implicitDefEqProofs [check_bad hx]
theorem ends_bad2 {x y : Int} {w : W} {st : Store} (hx : Ser x) (hy : ¬ Ser y) : d__check_ends [.int x, .int y, w] st = .err "InvalidSerial" (.int y) st := by
  unfold d__check_ends; rw [fnDen_ap]; unfold b__check_ends
  simp -implicitDefEqProofs [check_ok hx, check_bad hy]
theorem ends_bad3 {x y m : Int} {st : Store} (hx : Ser x) (hy : Ser y) (hm : ¬ (0 ≤ m ∧ m ≤ 1000)) : d__check_ends [.int x, .int y, .int m] st = .err "InvalidNumber" (.int m) st := by
  unfold d__check_ends; rw [fnDen_ap]; unfold b__check_ends
  by_cases h0 : 0 ≤ m
  · have h1 : ¬ m ≤ 1000 := fun h1 => hm ⟨h0, h1⟩
    simp -implicitDefEqProofs [check_ok hx, check_ok hy, h0, h1]
  · simp -implicitDefEqProofs [check_ok hx, check_ok hy, h0]
/-! how far so many steps lead -/
def farZ (n t : Int) : Int := if n ≤ t then 2147483647 else if n % t = 0 then n / t * 2147483647 else n / t * 2147483647 + 2147483647 - (t - n % t)
theorem mulS {a b : Int} {st : Store} (h : -2 ^ 64 < b) (h' : b < 2 ^ 64) : mulW (.int a) (.int b) st = .ok (.int (a * b)) st := mul_okQ (IntMulOk.of_right (intBits_le_64 h h'))
theorem mulL {a b : Int} {st : Store} (h : -2 ^ 64 < a) (h' : a < 2 ^ 64) : mulW (.int a) (.int b) st = .ok (.int (a * b)) st := mul_okQ (IntMulOk.of_left (intBits_le_64 h h'))
theorem dmZ {n t : Int} {st : Store} (h : 0 < t) (h' : t ≤ 2000) : divmodW [.int n, .int t] st = .ok (.tup [.int (n / t), .int (n % t)]) st := by
  have : CDiv n t := ⟨h, by omega⟩
  unfold divmodW
  simp only [if_pos this]
theorem kAsg_2 {i j : Nat} {a b : W} {env : EnvW} {st : Store} : kAsg (tTupT [tName i, tName j]) env (.tup [a, b]) st = .go .nx ((env.set i (some a)).set j (some b)) st := rfl
theorem farthest_ok {n t : Int} {st : Store} (h : 0 < t) (h' : t ≤ 2000) : d__farthest [.int n, .int t] st = .ok (.int (farZ n t)) st := by
  have m1 : ∀ a, mulW (.int a) (.int 2147483647) st = .ok (.int (a * 2147483647)) st := fun a => mulS (by decide) (by decide)
  have d1 := dmZ (n := n) (st := st) h h'
  unfold d__farthest; rw [fnDen_ap]; unfold b__farthest
  unfold farZ
  by_cases h1 : n ≤ t
  · rw [if_pos h1]; simp -implicitDefEqProofs [h1]
  · rw [if_neg h1]
    by_cases h2 : n % t = 0
    · have q : (n % t == 0) = true := by rw [h2]; rfl
      rw [if_pos h2]
      generalize n % t = r at *
      generalize n / t = k at *
      simp -implicitDefEqProofs [h1, d1, kAsg_2, q, m1]
    · have q : (n % t == 0) = false := beq_false_of_ne h2
      rw [if_neg h2]
      generalize n % t = r at *
      generalize n / t = k at *
      simp -implicitDefEqProofs [h1, d1, kAsg_2, q, m1]
theorem longest_ok {n t : Int} {st : Store} (h : 0 < t) (h' : t ≤ 2000) (h0 : 0 ≤ n) (hb : n ≤ 100000) : d__law_longest [.int n, .int t] st = .ok (.int (if n = 0 then 0 else farZ n t)) st := by
  have m1 : ∀ a, mulW (.int a) (.int 2147483647) st = .ok (.int (a * 2147483647)) st := fun a => mulS (by decide) (by decide)
  have m2 : ∀ a, mulW (.int 2147483647) (.int a) st = .ok (.int (2147483647 * a)) st := fun a => mulL (by decide) (by decide)
  have m3 : ∀ a, mulW (.int 1) (.int a) st = .ok (.int (1 * a)) st := fun a => mulL (by decide) (by decide)
  have m4 : ∀ a, mulW (.int 0) (.int a) st = .ok (.int (0 * a)) st := fun a => mulL (by decide) (by decide)
  have d1 : fdivW (.int n) (.int t) st = .ok (.int (n / t)) st := div_ok h (by omega)
  have d2 : modW (.int n) (.int t) st = .ok (.int (n % t)) st := mod_okQ h
  have hr0 := Int.emod_nonneg n (show t ≠ 0 by omega)
  unfold d__law_longest; rw [fnDen_ap]; unfold b__law_longest
  unfold farZ
  by_cases h1 : n ≤ t
  · by_cases h2 : n = 0
    · subst h2
      have : (0 : Int) ≤ t := by omega
      simp -implicitDefEqProofs [p31, m2, this]
    · have h3 : 0 < n := by omega
      rw [if_neg h2, if_pos h1]
      simp -implicitDefEqProofs [p31, m2, h1, h3]
  · have hn : n ≠ 0 := by omega
    rw [if_neg hn, if_neg h1]
    by_cases h2 : n % t = 0
    · rw [if_pos h2]
      have q : decide (0 < n % t) = false := decide_eq_false (by omega)
      generalize n % t = r at *
      generalize n / t = k at *
      simp -implicitDefEqProofs [p31, h1, d1, d2, q, m1, m4]
    · rw [if_neg h2]
      have q : decide (0 < n % t) = true := decide_eq_true (by omega)
      have e : n / t * 2147483647 + (2147483647 - t + n % t) = n / t * 2147483647 + 2147483647 - (t - n % t) := by omega
      generalize n % t = r at *
      generalize n / t = k at *
      simp -implicitDefEqProofs [p31, h1, d1, d2, q, m1, m3, e]
end
end K25
namespace K25
open PySem PySem.Spec PyProof.Rows L2 MP
open Classical
noncomputable section
/-! the fewest steps -/
theorem farZ_big {t : Nat} (h1 : 1 ≤ t) (h2 : t ≤ 1001) : 4294967296 ≤ farZ ((2 * t + 1 : Nat) : Int) (t : Int) := by
  unfold farZ
  rw [if_neg (by omega)]
  have hm : ((2 * t + 1 : Nat) : Int) % (t : Int) = ((1 % t : Nat) : Int) := by
    have : (2 * t + 1) % t = 1 % t := by rw [Nat.mul_comm, Nat.mul_add_mod]
    rw [← Int.natCast_emod, this]
  have hd : ((2 * t + 1 : Nat) : Int) / (t : Int) = ((2 + 1 / t : Nat) : Int) := by
    have : (2 * t + 1) / t = 2 + 1 / t := by rw [Nat.mul_comm, Nat.mul_add_div (by omega)]
    rw [← Int.natCast_ediv, this]
  rw [hm, hd]
  by_cases e : t = 1
  · subst e; decide
  · have e1 : 1 % t = 1 := Nat.mod_eq_of_lt (by omega)
    have e2 : 1 / t = 0 := Nat.div_eq_of_lt (by omega)
    rw [e1, e2, if_neg (by decide)]
    omega
/-- n is the number of steps for the distance D -/
structure Few (D : Int) (t n : Nat) : Prop where
  zero : D = 0 → n = 0
  pos : D ≠ 0 → 1 ≤ n ∧ n ≤ 2 * t + 1 ∧ D ≤ farZ (n : Int) (t : Int) ∧ ∀ j : Nat, 1 ≤ j → j < n → farZ (j : Int) (t : Int) < D
theorem few_ex (D : Int) (t : Nat) (hD : D < 4294967296) (h1 : 1 ≤ t) (h2 : t ≤ 1001) : ∃ n, Few D t n := by
  by_cases h : D = 0
  · exact ⟨0, fun _ => rfl, fun q => absurd h q⟩
  · obtain ⟨n, hn, ⟨p1, p2⟩, p3⟩ := least (P := fun i => 1 ≤ i ∧ D ≤ farZ (i : Int) (t : Int)) (2 * t + 2) ⟨2 * t + 1, by omega, by omega, by have := farZ_big h1 h2; omega⟩
    refine ⟨n, fun q => absurd q h, fun _ => ⟨p1, by omega, p2, fun j j1 jn => ?_⟩⟩
    have := p3 j jn
    by_cases q : D ≤ farZ (j : Int) (t : Int)
    · exact absurd ⟨j1, q⟩ this
    · omega
theorem fewest_ok {x y : Int} {m n : Nat} {st : Store} (hx : Ser x) (hy : Ser y) (hm : m ≤ 1000) (hf : Few (dst x y) (m + 1) n) : d_fewest_steps [.int x, .int y, .int (m : Int)] st = .ok (.int (n : Int)) st := by
  have hc := ends_ok (st := st) hx hy (show (0 : Int) ≤ m by omega) (show (m : Int) ≤ 1000 by omega)
  unfold d_fewest_steps; rw [fnDen_ap]; unfold b_fewest_steps
  by_cases h : dst x y = 0
  · have hn := hf.zero h
    subst hn
    have hr : d__way_round [.int x, .int y] st = .ok (.int (dst x y)) st := round_ok
    simp -implicitDefEqProofs [hc, hr, h]
  · obtain ⟨n1, n2, n3, n4⟩ := hf.pos h
    have q : (dst x y == 0) = false := beq_false_of_ne h
    have hr : d__way_round [.int x, .int y] st = .ok (.int (dst x y)) st := round_ok
    obtain ⟨D, hD⟩ : ∃ D, D = dst x y := ⟨_, rfl⟩
    rw [← hD] at hr q n3 n4
    have cond : ∀ k : Nat, (dBool (dOp ltW (dCall 2 d__farthest (dCons (dVar 4) (dCons (dOp addW (dVar 2) (dC (.int 1))) dNil))) (dVar 3))) [some (.int x), some (.int y), some (.int (m : Int)), some (.int D), some (.int (k : Int))] st = .ok (decide (farZ (k : Int) ((m + 1 : Nat) : Int) < D)) st := fun k => by
      have e : (m : Int) + 1 = ((m + 1 : Nat) : Int) := by omega
      have hk := farthest_ok (n := (k : Int)) (t := ((m + 1 : Nat) : Int)) (st := st) (by omega) (by omega)
      simp -implicitDefEqProofs only [dBool_ap, dOp_ap, dCall_ap, dCons_ap, dVar_ap, dC_ap, List.getElem?_cons_zero, List.getElem?_cons_succ, Res.bind_ok, kCons1_ap, kOp1_ap, addW_i, e, dNil_ap, kCons2_ap, kCall_2, hk, ltW_i, kBool_ap]
    obtain ⟨env', S, e, rfl, rfl⟩ := while_inv (c := dBool (dOp ltW (dCall 2 d__farthest (dCons (dVar 4) (dCons (dOp addW (dVar 2) (dC (.int 1))) dNil))) (dVar 3))) (b := sAug 4 addI (dC (.int 1)))
      (fun k env S => env = [some (.int x), some (.int y), some (.int (m : Int)), some (.int D), some (.int ((k + 1 : Nat) : Int))] ∧ S = st) (n - 1)
      (fun k env S hk hI => by
        obtain ⟨rfl, rfl⟩ := hI
        refine ⟨_, _, ?_, rfl, ?_, rfl⟩
        · rw [cond (k + 1), decide_eq_true (n4 (k + 1) (by omega) (by omega))]
        · rfl)
      (fun env S hI => by
        obtain ⟨rfl, rfl⟩ := hI
        have hn : n - 1 + 1 = n := by omega
        rw [cond (n - 1 + 1), hn, decide_eq_false (by omega)])
      (env := [some (.int x), some (.int y), some (.int (m : Int)), some (.int D), some (.int 1)]) (st := st) ⟨rfl, rfl⟩
    have hn : n - 1 + 1 = n := by omega
    rw [hn] at e
    simp -implicitDefEqProofs only [sSeq_ap, sExpr_ap, dCall_ap, dCons_ap, dVar_ap, List.map_cons, List.map_nil, List.length_cons, List.length_nil, Nat.reduceAdd, Nat.reduceSub, List.replicate_succ, List.replicate_zero, List.cons_append, List.nil_append, List.getElem?_cons_zero, List.getElem?_cons_succ, Res.bind_ok, kCons1_ap, dNil_ap, kCons2_ap, kCall_3, hc, Res.then_ok, kExpr_ap, RsS.next_nx, sAsg_ap, kCall_2, hr, kAsg_n, List.set_cons_succ, List.set_cons_zero, sIf_ap, dBool_ap, dOp_ap, dC_ap, kOp1_ap, eqW_int, q, kBool_ap, kSIf_f, sNil_ap]
    rw [e]
    simp -implicitDefEqProofs only [RsS.next_nx, sRet_ap, dVar_ap, List.getElem?_cons_zero, List.getElem?_cons_succ, Res.then_ok, kRet_ap, fnR_rt, gc_i]
theorem lfewest_ok {x y : Int} {m n : Nat} {st : Store} (hm : m ≤ 1000) (hf : Few (dst x y) (m + 1) n) : d__law_fewest [.int x, .int y, .int (m : Int)] st = .ok (.int (n : Int)) st := by
  have hr : d__law_way [.int y, .int x] st = .ok (.int (dst x y)) st := lway_ok
  have hp := dst_pos x y
  obtain ⟨D, hD⟩ : ∃ D, D = dst x y := ⟨_, rfl⟩
  rw [← hD] at hr hf hp
  have hn : n ≤ 2 * (m + 1) + 1 := by
    by_cases h : D = 0
    · rw [hf.zero h]; omega
    · exact (hf.pos h).2.1
  have cond : ∀ k : Nat, k ≤ n → (dAnd (dBool (dOp ltW (dVar 4) (dC (.int 2100)))) (dBool (dOp ltW (dCall 2 d__law_longest (dCons (dVar 4) (dCons (dOp addW (dVar 2) (dC (.int 1))) dNil))) (dVar 3)))) [some (.int x), some (.int y), some (.int (m : Int)), some (.int D), some (.int (k : Int))] st = .ok (decide (k < n)) st := fun k hk => by
    have e : (m : Int) + 1 = ((m + 1 : Nat) : Int) := by omega
    have hl := longest_ok (n := (k : Int)) (t := ((m + 1 : Nat) : Int)) (st := st) (by omega) (by omega) (by omega) (by omega)
    have l1 : decide ((k : Int) < 2100) = true := decide_eq_true (by omega)
    have l2 : decide ((if (k : Int) = 0 then 0 else farZ (k : Int) ((m + 1 : Nat) : Int)) < D) = decide (k < n) := by
      rw [Bool.eq_iff_iff, decide_eq_true_iff, decide_eq_true_iff]
      by_cases h : D = 0
      · have := hf.zero h
        have hk0 : k = 0 := by omega
        subst hk0
        have z : ((0 : Nat) : Int) = 0 := rfl
        rw [if_pos z, h, this]; omega
      · obtain ⟨n1, n2, n3, n4⟩ := hf.pos h
        by_cases hk0 : k = 0
        · subst hk0
          have z : ((0 : Nat) : Int) = 0 := rfl
          rw [if_pos z]; omega
        · rw [if_neg (by omega)]
          by_cases hkn : k < n
          · have := n4 k (by omega) hkn; omega
          · have : k = n := by omega
            subst this; omega
    rw [← l2]
    simp -implicitDefEqProofs only [dAnd_ap, dBool_ap, dOp_ap, dCall_ap, dCons_ap, dVar_ap, dC_ap, List.getElem?_cons_zero, List.getElem?_cons_succ, Res.bind_ok, kCons1_ap, kOp1_ap, ltW_i, l1, kBool_ap, kAnd_t, addW_i, e, dNil_ap, kCons2_ap, kCall_2, hl]
  obtain ⟨env', S, e, rfl, rfl⟩ := while_inv (c := (dAnd (dBool (dOp ltW (dVar 4) (dC (.int 2100)))) (dBool (dOp ltW (dCall 2 d__law_longest (dCons (dVar 4) (dCons (dOp addW (dVar 2) (dC (.int 1))) dNil))) (dVar 3))))) (b := sAsg (dOp addW (dVar 4) (dC (.int 1))) (tName 4))
    (fun k env S => env = [some (.int x), some (.int y), some (.int (m : Int)), some (.int D), some (.int (k : Int))] ∧ S = st) n
    (fun k env S hk hI => by
      obtain ⟨rfl, rfl⟩ := hI
      refine ⟨_, _, ?_, rfl, ?_, rfl⟩
      · rw [cond k (by omega), decide_eq_true hk]
      · rfl)
    (fun env S hI => by
      obtain ⟨rfl, rfl⟩ := hI
      rw [cond n (Nat.le_refl _), decide_eq_false (by omega)])
    (env := [some (.int x), some (.int y), some (.int (m : Int)), some (.int D), some (.int 0)]) (st := st) ⟨rfl, rfl⟩
  unfold d__law_fewest; rw [fnDen_ap]; unfold b__law_fewest
  rw [sSeq_ap]
  have s1 : sAsg (dCall 2 d__law_way (dCons (dVar 1) (dCons (dVar 0) dNil))) (tName 3) (List.map some [W.int x, .int y, .int (m : Int)] ++ List.replicate (5 - [W.int x, .int y, .int (m : Int)].length) none) S = .go .nx [some (.int x), some (.int y), some (.int (m : Int)), some (.int D), none] S := by
    simp -implicitDefEqProofs [hr]
  rw [s1, RsS.next_nx, sSeq_ap]
  have s2 : sAsg (dC (.int 0)) (tName 4) [some (.int x), some (.int y), some (.int (m : Int)), some (.int D), none] S = .go .nx [some (.int x), some (.int y), some (.int (m : Int)), some (.int D), some (.int 0)] S := rfl
  rw [s2, RsS.next_nx, sSeq_ap, e, RsS.next_nx]
  simp -implicitDefEqProofs only [sRet_ap, dVar_ap, List.getElem?_cons_zero, List.getElem?_cons_succ, Res.then_ok, kRet_ap, fnR_rt, gc_i]
end
end K25
namespace K25
open PySem PySem.Spec PyProof.Rows L2 MP
open Classical
noncomputable section
/-! where the steps lead -/
def cap (n t : Nat) : Int := 2147483647 - ((min n t : Nat) : Int)
def cN (t k : Nat) : Nat := (k + t - 1) / t
theorem cN_succ {t k : Nat} (h : 1 ≤ t) : cN t (k + 1) = cN t k + (if k % t = 0 then 1 else 0) := by
  unfold cN
  have e1 : (k + 1 + t - 1) / t = k / t + 1 := by rw [show k + 1 + t - 1 = k + t by omega, Nat.add_div_right _ (by omega)]
  rw [e1]
  have hk := Nat.div_add_mod k t
  by_cases q : k % t = 0
  · rw [if_pos q]
    have : k + t - 1 = t * (k / t) + (t - 1) := by omega
    have h0 : (t - 1) / t = 0 := Nat.div_eq_of_lt (by omega)
    rw [this, Nat.mul_add_div (by omega), h0]
  · rw [if_neg q]
    have hr := Nat.mod_lt k (show t > 0 by omega)
    have : k + t - 1 = t * (k / t) + (t + (k % t - 1)) := by omega
    have h0 : (k % t - 1) / t = 0 := Nat.div_eq_of_lt (by omega)
    rw [this, Nat.mul_add_div (by omega), Nat.add_div_left _ (by omega), h0]
theorem cN_win {t k : Nat} (h : 1 ≤ t) (hk : t ≤ k) : cN t k = cN t (k - t) + 1 := by
  unfold cN
  rw [show k + t - 1 = (k - t + t - 1) + t by omega, Nat.add_div_right _ (by omega)]
theorem cN_small {t k : Nat} (h : 1 ≤ t) (hk : k ≤ t) : cN t k ≤ 1 := by
  unfold cN
  have : (k + t - 1) / t < 2 := by rw [Nat.div_lt_iff_lt_mul (by omega)]; omega
  omega
theorem cN_zero {t : Nat} (h : 1 ≤ t) : cN t 0 = 0 := by
  unfold cN; exact Nat.div_eq_of_lt (by omega)
theorem far_eq {n t : Nat} (h : 1 ≤ t) (hn : 1 ≤ n) : farZ (n : Int) (t : Int) = n + (cN t n : Int) * cap n t := by
  unfold farZ
  by_cases h1 : n ≤ t
  · rw [if_pos (by omega)]
    have h2 := cN_small h h1
    have h3 : cN t n ≠ 0 := by
      unfold cN
      have := Nat.div_pos (a := n + t - 1) (b := t) (by omega) (by omega)
      omega
    have : cN t n = 1 := by omega
    rw [this]
    unfold cap
    rw [Nat.min_eq_left h1]; omega
  · rw [if_neg (by omega)]
    have hd : (n : Int) / (t : Int) = ((n / t : Nat) : Int) := rfl
    have hm : (n : Int) % (t : Int) = ((n % t : Nat) : Int) := rfl
    have hk := Nat.div_add_mod n t
    have hr := Nat.mod_lt n (show t > 0 by omega)
    unfold cap
    rw [Nat.min_eq_right (by omega), hd, hm]
    have hc : cN t n = n / t + (if n % t = 0 then 0 else 1) := by
      have := cN_succ (t := t) (k := n) h
      have e1 : cN t (n + 1) = n / t + 1 := by unfold cN; rw [show n + 1 + t - 1 = n + t by omega, Nat.add_div_right _ (by omega)]
      by_cases q : n % t = 0
      · rw [if_pos q] at this ⊢; omega
      · rw [if_neg q] at this ⊢; omega
    have ht : ((n / t : Nat) : Int) * (2147483647 - (t : Int)) = ((n / t : Nat) : Int) * 2147483647 - ((t * (n / t) : Nat) : Int) := by
      rw [Int.mul_sub, Int.natCast_mul, Int.mul_comm (t : Int)]
    by_cases q : n % t = 0
    · rw [if_pos (by omega), hc, if_pos q, Nat.add_zero, ht]
      rw [q] at hk
      generalize n / t = a at *
      generalize t * a = b at *
      omega
    · rw [if_neg (by omega), hc, if_neg q]
      have e2 : (((n / t + 1 : Nat)) : Int) * (2147483647 - (t : Int)) = ((n / t : Nat) : Int) * (2147483647 - (t : Int)) + (2147483647 - (t : Int)) := by
        rw [Int.natCast_add, Int.add_mul]; simp
      rw [e2, ht]
      generalize n / t = a at *
      generalize t * a = b at *
      omega
def Gm (D : Int) (n t k : Nat) : Int := min (D - n) ((cN t k : Int) * cap n t)
def PP (D : Int) (n t k : Nat) : Int := k + Gm D n t k
section
variable {D : Int} {n t : Nat}
/-- what is known of D, n, t -/
structure Ok (D : Int) (n t : Nat) : Prop where
  t1 : 1 ≤ t
  t2 : t ≤ 1001
  n1 : 1 ≤ n
  nD : (n : Int) ≤ D
  far : D - n ≤ (cN t n : Int) * cap n t
theorem cap_pos (h2 : t ≤ 1001) : 0 ≤ cap n t := by unfold cap; omega
theorem Few.ok (h : Few D t n) (hD : D ≠ 0) (h0 : 0 ≤ D) (h1 : 1 ≤ t) (h2 : t ≤ 1001) : Ok D n t := by
  obtain ⟨n1, n2, n3, n4⟩ := h.pos hD
  refine ⟨h1, h2, n1, ?_, by rw [far_eq h1 n1] at n3; omega⟩
  by_cases e : n = 1
  · subst e; omega
  · have := n4 (n - 1) (by omega) (by omega)
    rw [far_eq h1 (by omega)] at this
    have hc := Int.mul_nonneg (show (0 : Int) ≤ (cN t (n - 1) : Int) by omega) (cap_pos (n := n - 1) h2)
    omega
theorem Gm_zero (h : Ok D n t) : Gm D n t 0 = 0 := by
  unfold Gm; rw [cN_zero h.t1]
  have := h.nD
  simp; omega
theorem Gm_succ (h : Ok D n t) (k : Nat) : Gm D n t (k + 1) - Gm D n t k = if k % t = 0 then min (D - n - Gm D n t k) (cap n t) else 0 := by
  unfold Gm
  rw [cN_succ h.t1]
  have hc := cap_pos (n := n) h.t2
  by_cases q : k % t = 0
  · rw [if_pos q, if_pos q]
    have e : ((cN t k + 1 : Nat) : Int) * cap n t = (cN t k : Int) * cap n t + cap n t := by
      rw [Int.natCast_add, Int.add_mul]; simp
    rw [e]
    generalize (cN t k : Int) * cap n t = z at *
    omega
  · rw [if_neg q, if_neg q, Nat.add_zero]; omega
theorem Gm_le (h : Ok D n t) (k : Nat) : Gm D n t k ≤ D - n ∧ 0 ≤ Gm D n t k := by
  unfold Gm
  have hc := Int.mul_nonneg (show (0 : Int) ≤ (cN t k : Int) by omega) (cap_pos (n := n) h.t2)
  have := h.nD
  omega
theorem PP_zero (h : Ok D n t) : PP D n t 0 = 0 := by unfold PP; rw [Gm_zero h]; rfl
theorem PP_end (h : Ok D n t) : PP D n t n = D := by
  unfold PP Gm
  have := h.far
  generalize (cN t n : Int) * cap n t = z at *
  omega
theorem PP_step (h : Ok D n t) (k : Nat) : 1 ≤ PP D n t (k + 1) - PP D n t k ∧ PP D n t (k + 1) - PP D n t k ≤ 2147483647 := by
  have hs := Gm_succ h k
  have hl := Gm_le h k
  have hc := cap_pos (n := n) h.t2
  have hc2 : cap n t ≤ 2147483646 := by
    have := h.n1; have := h.t1
    unfold cap; omega
  unfold PP
  by_cases q : k % t = 0
  · rw [if_pos q] at hs; omega
  · rw [if_neg q] at hs; omega
theorem PP_win (h : Ok D n t) {k : Nat} (hk : k ≤ n) : PP D n t k - PP D n t (k - t) ≤ 2147483647 := by
  unfold PP
  have hc := cap_pos (n := n) h.t2
  by_cases q : t ≤ k
  · have e : Gm D n t k - Gm D n t (k - t) ≤ cap n t := by
      unfold Gm
      rw [cN_win h.t1 q]
      have e : ((cN t (k - t) + 1 : Nat) : Int) * cap n t = (cN t (k - t) : Int) * cap n t + cap n t := by
        rw [Int.natCast_add, Int.add_mul]; simp
      rw [e]
      generalize (cN t (k - t) : Int) * cap n t = z at *
      omega
    have : cap n t = 2147483647 - (t : Int) := by unfold cap; rw [Nat.min_eq_right (by omega)]
    omega
  · have hz : k - t = 0 := by omega
    rw [hz, Gm_zero h]
    have hb := cN_small h.t1 (show k ≤ t by omega)
    have e : Gm D n t k ≤ cap n t := by
      unfold Gm
      have : (cN t k : Int) * cap n t ≤ 1 * cap n t := Int.mul_le_mul_of_nonneg_right (by omega) hc
      omega
    have : cap n t ≤ 2147483647 - (k : Int) := by unfold cap; omega
    omega
end
/-! ways -/
def GS (L : List Int) : Nat → Int
  | 0 => 0
  | i + 1 => GS L i + dst (L.getD i 0) (L.getD (i + 1) 0)
def nwB (L : List Int) (i : Nat) : Bool := newB (L.getD (i + 1) 0) (L.getD i 0)
def wiB (L : List Int) (t i : Nat) : Bool := decide (GS L i - GS L (i - t) ≤ 2147483647)
def wayB (L : List Int) (t : Nat) : Bool := (List.range (L.length - 1)).all fun i => nwB L i && wiB L t (i + 1)
theorem wayB_eq (L : List Int) (t : Nat) (h : 1 ≤ L.length) : ((List.range (L.length - 1)).all (nwB L) && (List.range L.length).all (wiB L t)) = wayB L t := by
  unfold wayB
  rw [Bool.eq_iff_iff]
  simp only [Bool.and_eq_true, List.all_eq_true, List.mem_range]
  constructor
  · rintro ⟨h1, h2⟩ i hi
    exact ⟨h1 i hi, h2 (i + 1) (by omega)⟩
  · intro h3
    refine ⟨fun i hi => (h3 i hi).1, fun i hi => ?_⟩
    cases i with
    | zero => unfold wiB; simp [GS]
    | succ i => exact (h3 i (by omega)).2
/-- the way that is told -/
def WY (x D : Int) (n t : Nat) : List Int := (List.range (n + 1)).map fun k => (x + PP D n t k) % 4294967296
theorem WY_get {x D : Int} {n t k : Nat} (h : k ≤ n) : (WY x D n t).getD k 0 = (x + PP D n t k) % 4294967296 := by
  unfold WY
  rw [List.getD_eq_getElem?_getD, List.getElem?_map, List.getElem?_range (by omega)]; rfl
theorem WY_dst {x D : Int} {n t k : Nat} (h : Ok D n t) (hk : k < n) : dst ((WY x D n t).getD k 0) ((WY x D n t).getD (k + 1) 0) = PP D n t (k + 1) - PP D n t k := by
  obtain ⟨h1, h2⟩ := PP_step h k
  rw [WY_get (by omega), WY_get (by omega)]
  unfold dst
  generalize PP D n t (k + 1) = a at *
  generalize PP D n t k = b at *
  omega
theorem WY_GS {x D : Int} {n t : Nat} (h : Ok D n t) : ∀ k, k ≤ n → GS (WY x D n t) k = PP D n t k
  | 0, _ => (PP_zero h).symm
  | k + 1, hk => by
    rw [GS, WY_GS h k (by omega), WY_dst h (by omega)]; omega
theorem WY_way {x D : Int} {n t : Nat} (h : Ok D n t) : wayB (WY x D n t) t = true := by
  unfold wayB
  have hl : (WY x D n t).length - 1 = n := by simp [WY]
  rw [hl, List.all_eq_true]
  intro k hk
  have hk : k < n := by simpa using hk
  rw [Bool.and_eq_true]
  constructor
  · unfold nwB newB
    obtain ⟨h1, h2⟩ := PP_step h k
    rw [WY_dst h hk, decide_eq_true h1, decide_eq_true h2]; rfl
  · unfold wiB
    rw [WY_GS h _ (by omega), WY_GS h _ (by omega)]
    exact decide_eq_true (PP_win h (by omega))
end
end K25
namespace K25
open PySem PySem.Spec PyProof.Rows L2 MP
open Classical
noncomputable section
/-! loops that may end early -/
theorem forW_or {chk : Store → Prop} {t : DT} {b : DS} (I : Nat → EnvW → Store → Prop) (J : Store → Prop) (q : Nat → Bool) (v : W) (hc : ∀ i env st, I i env st → chk st) : ∀ (ws : List W) (k : Nat) (env : EnvW) (st : Store),
    (∀ i w env st, ws[i]? = some w → I (k + i) env st → ∃ env1 st1, t w env st = some (env1, st1) ∧ ((q (k + i) = true ∧ ∃ env2 st2, b env1 st1 = .go .nx env2 st2 ∧ I (k + i + 1) env2 st2) ∨ (q (k + i) = false ∧ ∃ env2 st2, b env1 st1 = .go (.rt v) env2 st2 ∧ J st2))) → I k env st →
    (∃ env' st', forW chk t b ws env st = .go .nx env' st' ∧ I (k + ws.length) env' st' ∧ ∀ i, i < ws.length → q (k + i) = true) ∨ (∃ i, i < ws.length ∧ q (k + i) = false ∧ ∃ env' st', forW chk t b ws env st = .go (.rt v) env' st' ∧ J st')
  | [], k, env, st, _, h => .inl ⟨env, st, by unfold forW; rw [if_pos (hc _ _ _ h)], h, fun i hi => absurd hi (Nat.not_lt_zero _)⟩
  | w :: ws, k, env, st, hs, h => by
    obtain ⟨env1, st1, e1, r⟩ := hs 0 w env st rfl h
    rcases r with ⟨hq, env2, st2, e2, h2⟩ | ⟨hq, env2, st2, e2, h2⟩
    · have ih := forW_or I J q v hc ws (k + 1) env2 st2 (fun i w env st hw hI => by
        have := hs (i + 1) w env st (by simpa using hw) (by rwa [show k + (i + 1) = k + 1 + i by omega])
        rwa [show k + (i + 1) = k + 1 + i by omega] at this) h2
      have run : forW chk t b (w :: ws) env st = forW chk t b ws env2 st2 := by
        conv => lhs; unfold forW
        rw [if_pos (hc _ _ _ h), e1]
        dsimp only
        rw [e2]
      rw [run]
      rcases ih with ⟨env', st', e3, h3, h4⟩ | ⟨i, hi, hq', env', st', e3, h3⟩
      · refine .inl ⟨env', st', e3, by rw [List.length_cons, show k + (ws.length + 1) = k + 1 + ws.length by omega]; exact h3, fun i hi => ?_⟩
        cases i with
        | zero => exact hq
        | succ i =>
          have := h4 i (by simpa using hi)
          rwa [show k + (i + 1) = k + 1 + i by omega]
      · exact .inr ⟨i + 1, by simpa using hi, by rwa [show k + (i + 1) = k + 1 + i by omega], env', st', e3, h3⟩
    · refine .inr ⟨0, by simp, hq, env2, st2, ?_, h2⟩
      unfold forW
      rw [if_pos (hc _ _ _ h), e1]
      dsimp only
      rw [e2]
theorem gcB {p : Nat} {b : Bool} {st st' : Store} (h : Ext p st st') (hp : st.length ≤ p) : gc st (.bl b) st' = .ok (.bl b) st := by
  rw [gcx_ok (p := p) h (fun o q _ => absurd q (by omega)) rfl, Ext.takeEq h hp]
theorem ix_last {S : Store} {q : Nat} {l : List Int} (h : S[q]? = some (.lst (l.map W.int))) (h1 : 1 ≤ l.length) : ixW (.loc q) (.int (-1)) S = .ok (.int (l.getD (l.length - 1) 0)) S := by
  unfold ixW seqW
  simp only [h]
  rw [MP.atI_last (by rw [List.length_map]; omega), List.getElem?_map, List.length_map, List.getElem?_eq_getElem (by omega)]
  simp only [Option.map_some]
  rw [List.getD_eq_getElem?_getD, List.getElem?_eq_getElem (by omega)]; rfl
theorem sl_drop {S : Store} {k n : Nat} {ws : List W} (h : S[k]? = some (.lst ws)) : slW (.loc k) (some (n : Int)) none S = .ok (.loc S.length) (S ++ [.lst (ws.drop n)]) := by
  unfold slW lstW
  simp only [h]
  rw [cut_from]
def gonL (L : List Int) (k : Nat) : List Int := (List.range (k + 1)).map (GS L)
theorem gonL_len (L : List Int) (k : Nat) : (gonL L k).length = k + 1 := by simp [gonL]
theorem gonL_get {L : List Int} {k i : Nat} (h : i ≤ k) : (gonL L k).getD i 0 = GS L i := by
  unfold gonL
  rw [List.getD_eq_getElem?_getD, List.getElem?_map, List.getElem?_range (by omega)]; rfl
theorem gonL_succ (L : List Int) (k : Nat) : gonL L (k + 1) = gonL L k ++ [GS L (k + 1)] := by
  unfold gonL
  rw [List.range_succ, List.map_append]; rfl
/-- the windows, as a list comprehension tells them -/
theorem wins_ok {S : Store} {L : List Int} {g n t : Nat} {e : D W} {env : EnvW} {i : Nat} (hg : S[g]? = some (.lst ((gonL L n).map W.int))) (hn : n ≤ 100000)
    (he : ∀ j : Nat, j < n + 1 → e (env.set i (some (.int (j : Int)))) S = .ok (.bl (wiB L t j)) S) : ∃ st', (kLc env (tName i) dYes e ⟨intsW 0 (n + 1), none⟩ S = .ok (.loc S.length) st') ∧ allW [.loc S.length] st' = .ok (.bl ((List.range (n + 1)).all (wiB L t))) st' ∧ st' = S ++ [.lst ((List.range (n + 1)).map fun j => W.bl (wiB L t j))] := by
  have := kLc_mapB (env := env) (i := i) (e := e) (st := S) (src := none) (fun j : Nat => W.int (j : Int)) (fun j : Nat => W.bl (wiB L t j)) (List.range (n + 1)) (by simp) (fun j hj => he j (by simpa using hj)) (by simp; exact Nat.le_trans (show n + 1 ≤ 100001 by omega) (by decide))
  refine ⟨_, by rw [ints0']; exact this, ?_, rfl⟩
  exact all_here
where
  ints0' : intsW 0 (n + 1) = (List.range (n + 1)).map fun j : Nat => W.int (j : Int) := by simp [intsW]
theorem is_way_ok {S : Store} {a t : Nat} {L : List Int} (ha : S[a]? = some (.lst (L.map W.int))) (h1 : 1 ≤ L.length) (hL : L.length ≤ 10000) (hs : ∀ z ∈ L, Ser z) (ht : t ≤ 5000) : d__is_way [.loc a, .int (t : Int)] S = .ok (.bl (wayB L t)) S := by
  obtain ⟨n, hn⟩ : ∃ n, L.length = n + 1 := ⟨L.length - 1, by omega⟩
  have haS : a < S.length := (List.getElem?_eq_some_iff.mp ha).1
  have kl : kLst [W.int 0] S = .ok (.loc S.length) (S ++ [.lst ((gonL L 0).map W.int)]) := lst5 (by simp)
  obtain ⟨S1, hS1⟩ : ∃ S1, S1 = S ++ [Ob.lst ((gonL L 0).map W.int)] := ⟨_, rfl⟩
  have ha1 : S1[a]? = some (.lst (L.map W.int)) := by rw [hS1]; exact get_app _ ha
  have sl := sl_drop (n := 1) ha1
  rw [← List.map_drop] at sl
  have l1 : S1.length = S.length + 1 := by rw [hS1]; simp
  rw [← hS1] at kl
  obtain ⟨S2, hS2⟩ : ∃ S2, S2 = S1 ++ [Ob.lst ((L.drop 1).map W.int)] := ⟨_, rfl⟩
  rw [← hS2, l1] at sl
  have c1 : (((1 : Nat) : Int)) = 1 := rfl
  rw [c1] at sl
  have ha2 : S2[a]? = some (.lst (L.map W.int)) := by rw [hS2]; exact get_app _ ha1
  have hd2 : S2[S.length + 1]? = some (.lst ((L.drop 1).map W.int)) := by rw [hS2, ← l1]; simp
  have hg2 : S2[S.length]? = some (.lst ((gonL L 0).map W.int)) := by rw [hS2, hS1]; simp
  have zp : zipOf [.loc (S.length + 1), .loc a] S2 = .ok ⟨zipW ((L.drop 1).map W.int) (L.map W.int), fun st => st[S.length + 1]? = some (.lst ((L.drop 1).map W.int)) ∧ st[a]? = some (.lst (L.map W.int))⟩ S2 := by
    unfold zipOf lst2
    simp only [hd2, ha2]
  have zl : (zipW ((L.drop 1).map W.int) (L.map W.int)).length = n := by
    unfold zipW; rw [List.length_zipWith, List.length_map, List.length_map, List.length_drop]; omega
  have zg : ∀ i w, (zipW ((L.drop 1).map W.int) (L.map W.int))[i]? = some w → i < n ∧ w = .tup [.int (L.getD (i + 1) 0), .int (L.getD i 0)] := fun i w hw => by
    have hi : i < n := by rw [← zl]; exact (List.getElem?_eq_some_iff.mp hw).1
    refine ⟨hi, ?_⟩
    unfold zipW at hw
    rw [List.getElem?_zipWith, List.getElem?_map, List.getElem?_map, List.getElem?_drop, List.getElem?_eq_getElem (show 1 + i < L.length by omega), List.getElem?_eq_getElem (show i < L.length by omega)] at hw
    simp only [Option.map_some, Option.some.injEq] at hw
    rw [← hw, List.getD_eq_getElem?_getD, List.getElem?_eq_getElem (show i + 1 < L.length by omega), List.getD_eq_getElem?_getD, List.getElem?_eq_getElem (show i < L.length by omega)]
    simp [Nat.add_comm]
  have sr : ∀ i, i ≤ n → Ser (L.getD i 0) := fun i hi => by
    rw [List.getD_eq_getElem?_getD, List.getElem?_eq_getElem (show i < L.length by omega)]
    exact hs _ (List.getElem_mem _)
  obtain ⟨bb, hbb⟩ : ∃ bb : DS, bb = (sSeq (sIf (dNot (dBool (dCall 2 d_newer (dCons (dVar 3) (dCons (dVar 4) dNil)))))
    (sRet (dC (.bl false)))
    sNil)
    (sExpr (dBm tyL appendW (dVar 2) (dCons (dOp addW (dOp ixW (dVar 2) (dUn negW (dC (.int 1)))) (dCall 2 d__way_round (dCons (dVar 4) (dCons (dVar 3) dNil)))) dNil)))) := ⟨_, rfl⟩
  have loop := forW_or (chk := fun st => st[S.length + 1]? = some (.lst ((L.drop 1).map W.int)) ∧ st[a]? = some (.lst (L.map W.int))) (t := tTupT [tName 3, tName 4]) (b := bb)
    (fun i env st => (∃ c3 c4, env = [some (.loc a), some (.int (t : Int)), some (.loc S.length), c3, c4, none]) ∧ st[S.length + 1]? = some (.lst ((L.drop 1).map W.int)) ∧ st[a]? = some (.lst (L.map W.int)) ∧ st[S.length]? = some (.lst ((gonL L i).map W.int)) ∧ Ext S.length S st) (fun st => Ext S.length S st) (nwB L) (.bl false)
    (fun i env st h => ⟨h.2.1, h.2.2.1⟩) (zipW ((L.drop 1).map W.int) (L.map W.int)) 0 [some (.loc a), some (.int (t : Int)), some (.loc S.length), none, none, none] S2
    (fun i w env st hw hI => by
      obtain ⟨⟨c3, c4, rfl⟩, h1, h2, h3, h4⟩ := hI
      rw [Nat.zero_add] at *
      obtain ⟨hi, rfl⟩ := zg i w hw
      have nw := newer_ok (st := st) (sr (i + 1) (by omega)) (sr i (by omega))
      refine ⟨_, _, rfl, ?_⟩
      cases q : nwB L i with
      | false =>
        have q' : newB (L.getD (i + 1) 0) (L.getD i 0) = false := q
        rw [q'] at nw
        refine .inr ⟨rfl, [some (.loc a), some (.int (t : Int)), some (.loc S.length), some (.int (L.getD (i + 1) 0)), some (.int (L.getD i 0)), none], st, ?_, h4⟩
        rw [hbb]
        generalize L.getD i 0 = X at *
        generalize L.getD (i + 1) 0 = Y at *
        simp -implicitDefEqProofs [nw]
      | true =>
        have q' : newB (L.getD (i + 1) 0) (L.getD i 0) = true := q
        rw [q'] at nw
        have il := ix_last h3 (by rw [gonL_len]; omega)
        rw [gonL_len, Nat.add_sub_cancel, gonL_get (Nat.le_refl _)] at il
        have kb : ∀ r env, kBm tyL appendW r env (.loc S.length) st = (r env st).bind (appendW (.loc S.length)) := fun r env => kBm_l appendW h3
        have ap := app_nums (w := .int (GS L i + dst (L.getD i 0) (L.getD (i + 1) 0))) h3 (by rw [List.length_map, gonL_len]; exact Nat.lt_of_le_of_lt (show i + 1 ≤ 10000 by omega) (by decide))
        have hlt : S.length < st.length := (List.getElem?_eq_some_iff.mp h3).1
        obtain ⟨T, hT⟩ : ∃ T, T = st.set S.length (.lst ((gonL L i).map W.int ++ [.int (GS L i + dst (L.getD i 0) (L.getD (i + 1) 0))])) := ⟨_, rfl⟩
        rw [← hT] at ap
        refine .inl ⟨rfl, [some (.loc a), some (.int (t : Int)), some (.loc S.length), some (.int (L.getD (i + 1) 0)), some (.int (L.getD i 0)), none], T, ?_, ⟨_, _, rfl⟩, ?_, ?_, ?_, ?_⟩
        rotate_left
        · rw [hT, List.getElem?_set_ne (by omega)]; exact h1
        · rw [hT, List.getElem?_set_ne (by omega)]; exact h2
        · rw [hT, List.getElem?_set_self hlt, gonL_succ, List.map_append]; rfl
        · rw [hT]; exact h4.set (Nat.le_refl _)
        · rw [hbb]
          clear hT
          generalize GS L i = G at *
          generalize L.getD i 0 = X at *
          generalize L.getD (i + 1) 0 = Y at *
          simp -implicitDefEqProofs [nw, kb, il, round_ok, ap]
          ) ⟨⟨none, none, rfl⟩, hd2, ha2, hg2, by rw [hS2, hS1]; exact (Ext.app _).trans (.app _)⟩
  have way := wayB_eq L t h1
  rw [hn, Nat.add_sub_cancel] at way
  rw [zl] at loop
  unfold d__is_way; rw [fnDen_ap]; unfold b__is_way
  rw [← hbb]
  simp -implicitDefEqProofs only [sSeq_ap (a := sAsg _ _), sAsg_ap, dLst_ap, dCons_ap, dC_ap, dNil_ap, Res.bind_ok, kCons1_ap, kCons2_ap, kl, Res.then_ok, kAsg_n, List.map_cons, List.map_nil, List.length_cons, List.length_nil, Nat.reduceAdd, Nat.reduceSub, List.replicate_succ, List.replicate_zero, List.cons_append, List.nil_append, List.set_cons_succ, List.set_cons_zero, RsS.next_nx]
  rw [sSeq_ap]
  have hz : ∀ env : EnvW, env = [some (.loc a), some (.int (t : Int)), some (.loc S.length), none, none, none] → sForG (dZip (dCons (dSl (dVar 0) (dPart (dC (.int 1))) dNoPart) (dCons (dVar 0) dNil))) (tTupT [tName 3, tName 4]) bb env S1 = forW (fun st => st[S.length + 1]? = some (.lst ((L.drop 1).map W.int)) ∧ st[a]? = some (.lst (L.map W.int))) (tTupT [tName 3, tName 4]) bb (zipW ((L.drop 1).map W.int) (L.map W.int)) env S2 := fun env he => by
    subst he
    unfold sForG dZip
    simp -implicitDefEqProofs only [dCons_ap, dSl_ap, dVar_ap, List.getElem?_cons_zero, Res.bind_ok, kSl1_ap, dPart_ap, dC_ap, kPart_ap, kSl2_ap, dNoPart_ap, sl, kCons1_ap, dNil_ap, kCons2_ap, zp, Res.then_ok]
  rw [hz _ rfl]
  rcases loop with ⟨env', S3, e3, ⟨⟨c3, c4, rfl⟩, _, _, hg3, X3⟩, hq⟩ | ⟨i, hi, hq, env', S3, e3, X3⟩
  · rw [e3, RsS.next_nx]
    rw [Nat.zero_add] at hg3
    have hlen := len_nums hg3
    rw [gonL_len] at hlen
    have hr := kR1_ok (st := S3) (j := ((n + 1 : Nat) : Int)) (Int.le_trans (by decide) (show (0 : Int) ≤ ((n + 1 : Nat) : Int) by omega)) (Int.lt_of_le_of_lt (show ((n + 1 : Nat) : Int) ≤ 100000 by omega) (by decide))
    rw [Int.toNat_natCast] at hr
    obtain ⟨S4, e4, e5, hS4⟩ := wins_ok (S := S3) (L := L) (g := S.length) (n := n) (t := t) (env := [some (.loc a), some (.int (t : Int)), some (.loc S.length), c3, c4, none]) (i := 5) (e := dOp leW (dOp subW (dOp ixW (dVar 2) (dVar 5)) (dOp ixW (dVar 2) (dApp maxW (dCons (dC (.int 0)) (dCons (dOp subW (dVar 5) (dVar 1)) dNil))))) (dC (.int 2147483647))) hg3 (by omega)
      (fun j hj => by
        have i1 := ix_nums hg3 (j := j) (by rw [gonL_len]; exact hj)
        rw [gonL_get (by omega)] at i1
        have i2 := ix_nums hg3 (j := j - t) (by rw [gonL_len]; omega)
        rw [gonL_get (by omega)] at i2
        have mx : maxW [.int 0, .int ((j : Int) - (t : Int))] S3 = .ok (.int ((j - t : Nat) : Int)) S3 := by
          have e : (if (j : Int) - (t : Int) > 0 then (j : Int) - (t : Int) else 0) = ((j - t : Nat) : Int) := by split <;> omega
          rw [maxW_i, e]
        unfold wiB
        simp -implicitDefEqProofs only [List.set_cons_succ, List.set_cons_zero, dOp_ap, dVar_ap, List.getElem?_cons_zero, List.getElem?_cons_succ, Res.bind_ok, kOp1_ap, i1, dApp_ap, dCons_ap, dC_ap, kCons1_ap, subW_i, dNil_ap, kCons2_ap, mx, i2, leW_i])
    have hall : (List.range n).all (nwB L) = true := by
      rw [List.all_eq_true]
      intro i hi
      have := hq i (by simpa using hi)
      rwa [Nat.zero_add] at this
    rw [hall, Bool.true_and] at way
    rw [way] at e5
    have X4 : Ext S.length S S4 := by rw [hS4]; exact X3.trans (.app _)
    simp -implicitDefEqProofs only [sRet_ap, dApp_ap, dCons_ap, dLc_ap, dRange1_ap, dVar_ap, List.getElem?_cons_zero, List.getElem?_cons_succ, Res.bind_ok, kCons1_ap, dNil_ap, kCons2_ap, hlen, hr, wipeW, List.set_cons_succ, List.set_cons_zero]
    rw [e4]
    simp -implicitDefEqProofs only [Res.bind_ok, kCons1_ap, dNil_ap, kCons2_ap, e5, Res.then_ok, kRet_ap, fnR_rt, gcB X4 (Nat.le_refl _)]
  · rw [e3]
    have hall : (List.range n).all (nwB L) = false := by
      rw [Bool.eq_false_iff]
      intro hh
      rw [List.all_eq_true] at hh
      have := hh i (by simpa using hi)
      rw [Nat.zero_add] at hq
      rw [hq] at this; cases this
    rw [hall, Bool.false_and] at way
    rw [← way]
    simp -implicitDefEqProofs only [RsS.next_rt, fnR_rt, gcB X3 (Nat.le_refl _)]
end
end K25
namespace K25
open PySem PySem.Spec PyProof.Rows L2 MP
open Classical
noncomputable section
theorem getD_cons_succ (x : Int) (l : List Int) (i : Nat) : (x :: l).getD (i + 1) 0 = l.getD i 0 := rfl
def lwB : DS := (sSeq (sIf (dNot (dBool (dCall 2 d__law_is_newer (dCons (dVar 6) (dCons (dVar 5) dNil)))))
    (sRet (dC (.bl false)))
    sNil)
    (sSeq (sExpr (dBm tyL appendW (dVar 4) (dCons (dOp addW (dOp ixW (dVar 4) (dUn negW (dC (.int 1)))) (dCall 2 d__law_way (dCons (dVar 6) (dCons (dVar 5) dNil)))) dNil)))
    (sSeq (sIf (dBool (dOp geW (dOp subW (dOp ixW (dVar 4) (dUn negW (dC (.int 1)))) (dOp ixW (dVar 4) (dApp maxW (dCons (dC (.int 0)) (dCons (dOp subW (dOp subW (dApp lenW (dCons (dVar 4) dNil)) (dC (.int 2))) (dVar 2)) dNil))))) (dOp powW (dC (.int 2)) (dC (.int 31)))))
    (sRet (dC (.bl false)))
    sNil)
    (sAsg (dVar 6) (tName 5)))))
theorem law_is_way_ok {S : Store} {a m : Nat} {x y : Int} {l : List Int} (ha : S[a]? = some (.lst (l.map W.int))) (hL : l.length ≤ 9000) (hm : m ≤ 1000) :
    d__law_is_way [.int x, .int y, .int (m : Int), .loc a] S = .ok (.bl (wayB (x :: l) (m + 1) && ((x :: l).getD l.length 0 == y))) S := by
  obtain ⟨L, hLL⟩ : ∃ L, L = x :: l := ⟨_, rfl⟩
  have haS : a < S.length := (List.getElem?_eq_some_iff.mp ha).1
  have kl : kLst [W.int 0] S = .ok (.loc S.length) (S ++ [.lst ((gonL L 0).map W.int)]) := lst5 (by simp)
  obtain ⟨S1, hS1⟩ : ∃ S1, S1 = S ++ [Ob.lst ((gonL L 0).map W.int)] := ⟨_, rfl⟩
  have ha1 : S1[a]? = some (.lst (l.map W.int)) := by rw [hS1]; exact get_app _ ha
  have hg1 : S1[S.length]? = some (.lst ((gonL L 0).map W.int)) := by rw [hS1]; simp
  rw [← hS1] at kl
  have it := itOf_loc ha1
  have loop := forW_or (chk := (ItW.mk (l.map W.int) (some a)).Chk) (t := tName 6) (b := lwB)
    (fun i env st => (∃ c6, env = [some (.int x), some (.int y), some (.int (m : Int)), some (.loc a), some (.loc S.length), some (.int (L.getD i 0)), c6]) ∧ st[a]? = some (.lst (l.map W.int)) ∧ st[S.length]? = some (.lst ((gonL L i).map W.int)) ∧ Ext S.length S st) (fun st => Ext S.length S st) (fun i => nwB L i && wiB L (m + 1) (i + 1)) (.bl false)
    (fun i env st h => by simpa using h.2.1) (l.map W.int) 0 [some (.int x), some (.int y), some (.int (m : Int)), some (.loc a), some (.loc S.length), some (.int x), none] S1
    (fun i w env st hw hI => by
      obtain ⟨⟨c6, rfl⟩, h2, h3, h4⟩ := hI
      rw [Nat.zero_add] at *
      have hi : i < l.length := by have := (List.getElem?_eq_some_iff.mp hw).1; simpa using this
      have ew : w = .int (L.getD (i + 1) 0) := by
        rw [List.getElem?_map, List.getElem?_eq_getElem hi] at hw
        rw [hLL, getD_cons_succ, List.getD_eq_getElem?_getD, List.getElem?_eq_getElem hi]
        simpa using hw.symm
      subst ew
      have nw := lnewer_ok (x := L.getD (i + 1) 0) (y := L.getD i 0) (st := st)
      refine ⟨_, _, rfl, ?_⟩
      cases q : nwB L i with
      | false =>
        have q' : newB (L.getD (i + 1) 0) (L.getD i 0) = false := q
        rw [q'] at nw
        refine .inr ⟨rfl, [some (.int x), some (.int y), some (.int (m : Int)), some (.loc a), some (.loc S.length), some (.int (L.getD i 0)), some (.int (L.getD (i + 1) 0))], st, ?_, h4⟩
        unfold lwB
        generalize L.getD i 0 = X at *
        generalize L.getD (i + 1) 0 = Y at *
        simp -implicitDefEqProofs [nw]
      | true =>
        have q' : newB (L.getD (i + 1) 0) (L.getD i 0) = true := q
        rw [q'] at nw
        have il := ix_last h3 (by rw [gonL_len]; omega)
        rw [gonL_len, Nat.add_sub_cancel, gonL_get (Nat.le_refl _)] at il
        have kb : ∀ r env, kBm tyL appendW r env (.loc S.length) st = (r env st).bind (appendW (.loc S.length)) := fun r env => kBm_l appendW h3
        have ap := app_nums (w := .int (GS L i + dst (L.getD i 0) (L.getD (i + 1) 0))) h3 (by rw [List.length_map, gonL_len]; exact Nat.lt_of_le_of_lt (show i + 1 ≤ 10000 by omega) (by decide))
        have hlt : S.length < st.length := (List.getElem?_eq_some_iff.mp h3).1
        obtain ⟨T, hT⟩ : ∃ T, T = st.set S.length (.lst ((gonL L i).map W.int ++ [.int (GS L i + dst (L.getD i 0) (L.getD (i + 1) 0))])) := ⟨_, rfl⟩
        rw [← hT] at ap
        have hTg : T[S.length]? = some (.lst ((gonL L (i + 1)).map W.int)) := by rw [hT, List.getElem?_set_self hlt, gonL_succ, List.map_append]; rfl
        have hTa : T[a]? = some (.lst (l.map W.int)) := by rw [hT, List.getElem?_set_ne (by omega)]; exact h2
        have hTX : Ext S.length S T := by rw [hT]; exact h4.set (Nat.le_refl _)
        have il2 := ix_last hTg (by rw [gonL_len]; omega)
        rw [gonL_len, Nat.add_sub_cancel, gonL_get (Nat.le_refl _)] at il2
        have hln := len_nums hTg
        rw [gonL_len] at hln
        have mx : maxW [.int 0, .int (((i + 1 + 1 : Nat) : Int) - 2 - (m : Int))] T = .ok (.int ((i + 1 - (m + 1) : Nat) : Int)) T := by
          have e : (if ((i + 1 + 1 : Nat) : Int) - 2 - (m : Int) > 0 then ((i + 1 + 1 : Nat) : Int) - 2 - (m : Int) else 0) = ((i + 1 - (m + 1) : Nat) : Int) := by split <;> omega
          rw [maxW_i, e]
        have ig := ix_nums hTg (j := i + 1 - (m + 1)) (by rw [gonL_len]; omega)
        rw [gonL_get (by omega)] at ig
        have dw : decide (2147483648 ≤ GS L (i + 1) - GS L (i + 1 - (m + 1))) = !wiB L (m + 1) (i + 1) := by
          unfold wiB
          rw [Bool.eq_iff_iff]
          simp only [Bool.not_eq_true', decide_eq_true_eq, decide_eq_false_iff_not]; omega
        clear hT hw hLL
        generalize GS L (i + 1 - (m + 1)) = G2 at *
        generalize GS L (i + 1) = G1 at *
        generalize GS L i = G at *
        generalize ((i + 1 - (m + 1) : Nat) : Int) = I2 at *
        generalize ((i + 1 + 1 : Nat) : Int) = I1 at *
        cases q2 : wiB L (m + 1) (i + 1) with
        | true =>
          rw [q2] at dw
          refine .inl ⟨rfl, [some (.int x), some (.int y), some (.int (m : Int)), some (.loc a), some (.loc S.length), some (.int (L.getD (i + 1) 0)), some (.int (L.getD (i + 1) 0))], T, ?_, ⟨_, rfl⟩, hTa, hTg, hTX⟩
          unfold lwB
          generalize L.getD i 0 = X at *
          generalize L.getD (i + 1) 0 = Y at *
          simp -implicitDefEqProofs [nw, kb, il, lway_ok, ap, il2, hln, mx, ig, p31, dw]
        | false =>
          rw [q2] at dw
          refine .inr ⟨rfl, [some (.int x), some (.int y), some (.int (m : Int)), some (.loc a), some (.loc S.length), some (.int (L.getD i 0)), some (.int (L.getD (i + 1) 0))], T, ?_, hTX⟩
          unfold lwB
          generalize L.getD i 0 = X at *
          generalize L.getD (i + 1) 0 = Y at *
          simp -implicitDefEqProofs [nw, kb, il, lway_ok, ap, il2, hln, mx, ig, p31, dw]) ⟨⟨none, by rw [hLL]; rfl⟩, ha1, hg1, by rw [hS1]; exact .app _⟩
  have hw : wayB L (m + 1) = (List.range l.length).all fun i => nwB L i && wiB L (m + 1) (i + 1) := by
    unfold wayB; rw [hLL, List.length_cons, Nat.add_sub_cancel]
  rw [List.length_map] at loop
  unfold d__law_is_way; rw [fnDen_ap]
  have hb : b__law_is_way = sSeq (sAsg (dLst (dCons (dC (.int 0)) dNil)) (tName 4)) (sSeq (sAsg (dVar 0) (tName 5)) (sSeq (sFor (dIt (dVar 3)) (tName 6) lwB) (sRet (dOp eqW (dVar 5) (dVar 1))))) := rfl
  rw [hb, ← hLL, hw]
  simp -implicitDefEqProofs only [sSeq_ap (a := sAsg _ _), sAsg_ap, dLst_ap, dCons_ap, dC_ap, dNil_ap, Res.bind_ok, kCons1_ap, kCons2_ap, kl, Res.then_ok, kAsg_n, List.map_cons, List.map_nil, List.length_cons, List.length_nil, Nat.reduceAdd, Nat.reduceSub, List.replicate_succ, List.replicate_zero, List.cons_append, List.nil_append, List.set_cons_succ, List.set_cons_zero, RsS.next_nx, dVar_ap, List.getElem?_cons_zero, List.getElem?_cons_succ]
  rw [sSeq_ap, sFor_ap]
  simp -implicitDefEqProofs only [dIt_ap, dVar_ap, List.getElem?_cons_zero, List.getElem?_cons_succ, Res.bind_ok, it, Res.then_ok, kFor]
  rcases loop with ⟨env', S3, e3, ⟨⟨c6, rfl⟩, _, _, X3⟩, hq⟩ | ⟨i, hi, hq, env', S3, e3, X3⟩
  · rw [e3]
    have hall : (List.range l.length).all (fun i => nwB L i && wiB L (m + 1) (i + 1)) = true := by
      rw [List.all_eq_true]
      intro i hi
      have := hq i (by simpa using hi)
      rwa [Nat.zero_add] at this
    rw [hall, Nat.zero_add, Bool.true_and]
    generalize L.getD l.length 0 = Z at *
    simp -implicitDefEqProofs only [RsS.next_nx, sRet_ap, dOp_ap, dVar_ap, List.getElem?_cons_zero, List.getElem?_cons_succ, Res.bind_ok, kOp1_ap, eqW_int, Res.then_ok, kRet_ap, fnR_rt, gcB X3 (Nat.le_refl _)]
  · rw [e3]
    have hall : (List.range l.length).all (fun i => nwB L i && wiB L (m + 1) (i + 1)) = false := by
      rw [Bool.eq_false_iff]
      intro hh
      rw [List.all_eq_true] at hh
      have := hh i (by simpa using hi)
      rw [Nat.zero_add] at hq
      rw [hq] at this; cases this
    rw [hall, Bool.false_and]
    simp -implicitDefEqProofs only [RsS.next_rt, fnR_rt, gcB X3 (Nat.le_refl _)]
end
end K25
namespace K25
open PySem PySem.Spec PyProof.Rows L2 MP
open Classical
noncomputable section
def WAY (x D : Int) (n t : Nat) : List Int := (List.range n).map fun k => (x + PP D n t (k + 1)) % 4294967296
theorem WAY_len (x D : Int) (n t : Nat) : (WAY x D n t).length = n := by simp [WAY]
theorem WY_cons {x D : Int} {n t : Nat} (hx : Ser x) (h : Ok D n t) : x :: WAY x D n t = WY x D n t := by
  unfold WY WAY
  rw [List.range_succ_eq_map, List.map_cons, PP_zero h, List.map_map]
  have : (x + 0) % 4294967296 = x := by have := hx.1; have := hx.2; omega
  rw [this]; rfl
theorem WAY_ser {x D : Int} {n t : Nat} : ∀ z ∈ WAY x D n t, Ser z := fun z hz => by
  unfold WAY at hz
  obtain ⟨k, _, rfl⟩ := List.mem_map.mp hz
  constructor <;> omega
/-- the way for a distance, none for none -/
def WAYx (x y : Int) (n t : Nat) : List Int := if dst x y = 0 then [] else WAY x (dst x y) n t
theorem WAYx_len {x y : Int} {n t : Nat} (hf : Few (dst x y) t n) : (WAYx x y n t).length = n := by
  unfold WAYx
  by_cases h : dst x y = 0
  · rw [if_pos h, hf.zero h]; rfl
  · rw [if_neg h, WAY_len]
theorem WAYx_ser {x y : Int} {n t : Nat} : ∀ z ∈ WAYx x y n t, Ser z := fun z hz => by
  unfold WAYx at hz
  by_cases h : dst x y = 0
  · rw [if_pos h] at hz; cases hz
  · rw [if_neg h] at hz; exact WAY_ser z hz
theorem WAYx_way {x y : Int} {n t : Nat} (hx : Ser x) (hy : Ser y) (h1 : 1 ≤ t) (h2 : t ≤ 1001) (hf : Few (dst x y) t n) : wayB (x :: WAYx x y n t) t = true ∧ ((x :: WAYx x y n t).getD n 0 == y) = true := by
  unfold WAYx
  by_cases h : dst x y = 0
  · rw [if_pos h, hf.zero h]
    refine ⟨rfl, beq_iff_eq.mpr ?_⟩
    have hh : (y - x) % 4294967296 = 0 := h
    have := hx.1; have := hx.2; have := hy.1; have := hy.2
    show x = y
    omega
  · have ok := hf.ok h (dst_pos x y).1 h1 h2
    rw [if_neg h, WY_cons hx ok]
    refine ⟨WY_way ok, beq_iff_eq.mpr ?_⟩
    rw [WY_get (Nat.le_refl _), PP_end ok]
    have := hy.1; have := hy.2
    unfold dst
    omega
theorem steps_ok {x y : Int} {m n : Nat} {st : Store} (hx : Ser x) (hy : Ser y) (hm : m ≤ 1000) (hf : Few (dst x y) (m + 1) n) : d_steps [.int x, .int y, .int (m : Int)] st = .ok (.loc st.length) (st ++ [.lst ((WAYx x y n (m + 1)).map W.int)]) := by
  have hfe := fewest_ok (st := st) hx hy hm hf
  have hr : d__way_round [.int x, .int y] st = .ok (.int (dst x y)) st := round_ok
  have kl : kLst [] st = .ok (.loc st.length) (st ++ [.lst []]) := lst5 (by simp)
  have et : (m : Int) + 1 = ((m + 1 : Nat) : Int) := by omega
  have hn : n ≤ 2 * (m + 1) + 1 := by
    by_cases h : dst x y = 0
    · rw [hf.zero h]; omega
    · exact (hf.pos h).2.1
  obtain ⟨S0, hS0⟩ : ∃ S0, S0 = st ++ [Ob.lst []] := ⟨_, rfl⟩
  rw [← hS0] at kl
  have hr1 := kR1_ok (st := S0) (j := (n : Int)) (Int.le_trans (by decide) (show (0 : Int) ≤ n by omega)) (Int.lt_of_le_of_lt (show (n : Int) ≤ 3000 by omega) (by decide))
  rw [Int.toNat_natCast] at hr1
  obtain ⟨bb, hbb⟩ : ∃ bb : DS, bb = (sSeq (sAsg (dIf (dBool (dOp eqW (dOp modW (dVar 8) (dVar 4)) (dC (.int 0)))) (dApp minW (dCons (dVar 5) (dCons (dOp subW (dC (.int 2147483647)) (dApp minW (dCons (dVar 3) (dCons (dVar 4) dNil)))) dNil))) (dC (.int 0))) (tName 9))
    (sSeq (sAsg (dOp subW (dVar 5) (dVar 9)) (tName 5))
    (sSeq (sAsg (dCall 2 d_further (dCons (dVar 7) (dCons (dOp addW (dC (.int 1)) (dVar 9)) dNil))) (tName 7))
    (sExpr (dBm tyL appendW (dVar 6) (dCons (dVar 7) dNil)))))) := ⟨_, rfl⟩
  have loop : ∃ (c5 c7 c8 c9 : Option W) (S : Store), forW (ItW.mk (intsW 0 n) none).Chk (tName 8) bb (intsW 0 n) [some (.int x), some (.int y), some (.int (m : Int)), some (.int (n : Int)), some (.int ((m + 1 : Nat) : Int)), some (.int (dst x y - n)), some (.loc st.length), some (.int x), none, none] S0 = .go .nx [some (.int x), some (.int y), some (.int (m : Int)), some (.int (n : Int)), some (.int ((m + 1 : Nat) : Int)), c5, some (.loc st.length), c7, c8, c9] S ∧ S = st ++ [.lst ((WAYx x y n (m + 1)).map W.int)] := by
    by_cases h : dst x y = 0
    · have hn0 := hf.zero h
      subst hn0
      refine ⟨some (.int (dst x y - ((0 : Nat) : Int))), some (.int x), none, none, S0, by simp [intsW, forW], ?_⟩
      unfold WAYx
      rw [if_pos h, hS0]; rfl
    · have ok := hf.ok h (dst_pos x y).1 (by omega) (by omega)
      obtain ⟨D, hD⟩ : ∃ D, D = dst x y := ⟨_, rfl⟩
      rw [← hD] at ok h
      have hW : WAYx x y n (m + 1) = WAY x D n (m + 1) := by unfold WAYx; rw [← hD, if_neg h]
      rw [hW, ← hD]
      obtain ⟨t, htm⟩ : ∃ t, t = m + 1 := ⟨_, rfl⟩
      rw [← htm] at ok ⊢
      obtain ⟨env', S, e, ⟨c8, c9, rfl⟩, hS⟩ := forW_ok (chk := (ItW.mk (intsW 0 n) none).Chk) (t := tName 8) (b := bb)
        (fun k env S => (∃ c8 c9, env = [some (.int x), some (.int y), some (.int (m : Int)), some (.int (n : Int)), some (.int (t : Int)), some (.int (D - n - Gm D n t k)), some (.loc st.length), some (.int ((x + PP D n t k) % 4294967296)), c8, c9]) ∧ S = st ++ [.lst (((List.range k).map fun k => (x + PP D n t (k + 1)) % 4294967296).map W.int)]) (fun _ _ _ _ => by simp) (intsW 0 n) 0
        [some (.int x), some (.int y), some (.int (m : Int)), some (.int (n : Int)), some (.int (t : Int)), some (.int (D - n)), some (.loc st.length), some (.int x), none, none] S0
        (fun k w env S hw hI => by
          obtain ⟨⟨c8, c9, rfl⟩, rfl⟩ := hI
          rw [Nat.zero_add] at *
          obtain ⟨hk, rfl⟩ := ints_get hw
          rw [Int.zero_add]
          have hs := Gm_succ ok k
          have hg := Gm_le ok k
          have hst := PP_step ok k
          have hP : PP D n t (k + 1) = PP D n t k + 1 + (Gm D n t (k + 1) - Gm D n t k) := by unfold PP; omega
          have hcap : (2147483647 : Int) - (if (t : Int) < (n : Int) then (t : Int) else (n : Int)) = cap n t := by unfold cap; split <;> omega
          obtain ⟨more, hmore⟩ : ∃ q, q = Gm D n t (k + 1) - Gm D n t k := ⟨_, rfl⟩
          have hroom : D - n - Gm D n t k - more = D - n - Gm D n t (k + 1) := by omega
          have hm0 : 0 ≤ 1 + more := by rw [hP] at hst; omega
          have hms : more = if ((k : Int) % (t : Int) == 0) = true then (if cap n t < D - n - Gm D n t k then cap n t else D - n - Gm D n t k) else 0 := by
            rw [hmore, hs]
            have hc : (k : Int) % (t : Int) = ((k % t : Nat) : Int) := rfl
            by_cases q : k % t = 0
            · rw [if_pos q, if_pos (by rw [hc, q]; rfl)]
              split <;> omega
            · rw [if_neg q, if_neg (by rw [hc]; simp; omega)]
          have fu := further_ok (x := (x + PP D n t k) % 4294967296) (n := 1 + more) (st := st ++ [.lst (((List.range k).map fun k => (x + PP D n t (k + 1)) % 4294967296).map W.int)]) (by constructor <;> omega) hm0
          have eN : ((x + PP D n t k) % 4294967296 + (1 + more)) % 4294967296 = (x + PP D n t (k + 1)) % 4294967296 := by rw [hP, ← hmore]; omega
          rw [eN] at fu
          have md : modW (.int (k : Int)) (.int (t : Int)) (st ++ [.lst (((List.range k).map fun k => (x + PP D n t (k + 1)) % 4294967296).map W.int)]) = .ok (.int ((k : Int) % (t : Int))) _ := mod_okQ (by have := ok.t1; omega)
          obtain ⟨T, hT⟩ : ∃ T, T = st ++ [Ob.lst (((List.range k).map fun k => (x + PP D n t (k + 1)) % 4294967296).map W.int)] := ⟨_, rfl⟩
          have hTg : T[st.length]? = some (.lst (((List.range k).map fun k => (x + PP D n t (k + 1)) % 4294967296).map W.int)) := by rw [hT]; simp
          have kb : ∀ r env, kBm tyL appendW r env (.loc st.length) T = (r env T).bind (appendW (.loc st.length)) := fun r env => kBm_l appendW hTg
          have ap := app_nums (w := .int ((x + PP D n t (k + 1)) % 4294967296)) hTg (by simp; exact Nat.lt_of_le_of_lt (show k ≤ 3000 by omega) (by decide))
          have eT : T.set st.length (.lst (((List.range k).map fun k => (x + PP D n t (k + 1)) % 4294967296).map W.int ++ [.int ((x + PP D n t (k + 1)) % 4294967296)])) = st ++ [.lst (((List.range (k + 1)).map fun k => (x + PP D n t (k + 1)) % 4294967296).map W.int)] := by
            rw [hT, List.range_succ]; simp
          rw [eT] at ap
          rw [← hT] at fu md ⊢
          refine ⟨_, _, [some (.int x), some (.int y), some (.int (m : Int)), some (.int (n : Int)), some (.int (t : Int)), some (.int (D - n - Gm D n t (k + 1))), some (.loc st.length), some (.int ((x + PP D n t (k + 1)) % 4294967296)), some (.int (k : Int)), some (.int more)], _, rfl, ?_, ⟨_, _, rfl⟩, rfl⟩
          rw [hbb]
          have s1 : ∀ c9, (sAsg (dIf (dBool (dOp eqW (dOp modW (dVar 8) (dVar 4)) (dC (.int 0)))) (dApp minW (dCons (dVar 5) (dCons (dOp subW (dC (.int 2147483647)) (dApp minW (dCons (dVar 3) (dCons (dVar 4) dNil)))) dNil))) (dC (.int 0))) (tName 9)) [some (.int x), some (.int y), some (.int (m : Int)), some (.int (n : Int)), some (.int (t : Int)), some (.int (D - n - Gm D n t k)), some (.loc st.length), some (.int ((x + PP D n t k) % 4294967296)), some (.int (k : Int)), c9] T
              = .go .nx [some (.int x), some (.int y), some (.int (m : Int)), some (.int (n : Int)), some (.int (t : Int)), some (.int (D - n - Gm D n t k)), some (.loc st.length), some (.int ((x + PP D n t k) % 4294967296)), some (.int (k : Int)), some (.int more)] T := fun c9 => by
            generalize (x + PP D n t k) % 4294967296 = SE at *
            generalize D - n - Gm D n t k = RO at *
            cases q : ((k : Int) % (t : Int) == 0) with
            | true =>
              rw [q, if_pos rfl] at hms
              rw [hms]
              simp -implicitDefEqProofs only [sAsg_ap, dIf_ap, dBool_ap, dOp_ap, dVar_ap, dC_ap, List.getElem?_cons_zero, List.getElem?_cons_succ, Res.bind_ok, kOp1_ap, md, eqW_int, q, kBool_ap, kIf_t, dApp_ap, dCons_ap, kCons1_ap, dNil_ap, kCons2_ap, minW_i, subW_i, hcap, Res.then_ok, kAsg_n, List.set_cons_succ, List.set_cons_zero]
            | false =>
              rw [q, if_neg (by decide)] at hms
              rw [hms]
              simp -implicitDefEqProofs only [sAsg_ap, dIf_ap, dBool_ap, dOp_ap, dVar_ap, dC_ap, List.getElem?_cons_zero, List.getElem?_cons_succ, Res.bind_ok, kOp1_ap, md, eqW_int, q, kBool_ap, kIf_f, Res.then_ok, kAsg_n, List.set_cons_succ, List.set_cons_zero]
          simp -implicitDefEqProofs only [List.set_cons_succ, List.set_cons_zero]
          rw [sSeq_ap, s1, RsS.next_nx]
          simp -implicitDefEqProofs only [sSeq_ap, sAsg_ap, dOp_ap, dVar_ap, dC_ap, List.getElem?_cons_zero, List.getElem?_cons_succ, Res.bind_ok, kOp1_ap, subW_i, hroom, Res.then_ok, kAsg_n, List.set_cons_succ, List.set_cons_zero, RsS.next_nx, dCall_ap, dCons_ap, kCons1_ap, addW_i, dNil_ap, kCons2_ap, kCall_2, fu, sExpr_ap, dBm_ap, kb, ap, kExpr_ap]) ⟨⟨none, none, by
            rw [Gm_zero ok, PP_zero ok]
            have : (x + 0) % 4294967296 = x := by have := hx.1; have := hx.2; omega
            rw [this, Int.sub_zero]⟩, by rw [hS0]; rfl⟩
      have hlen : (intsW 0 n).length = n := by simp [intsW]
      rw [hlen, Nat.zero_add] at hS e
      exact ⟨_, _, _, _, S, e, hS⟩
  obtain ⟨c5, c7, c8, c9, S, e, hS⟩ := loop
  have hg : gc st (.loc st.length) S = .ok (.loc st.length) (st ++ [.lst ((WAYx x y n (m + 1)).map W.int)]) := by
    rw [hS]; exact gc_newA (Nat.le_refl _) (by simp) nums_cl
  unfold d_steps; rw [fnDen_ap]; unfold b_steps
  rw [← hbb]
  simp -implicitDefEqProofs only [sSeq_ap (a := sAsg _ _), sAsg_ap, dCall_ap, dCons_ap, dVar_ap, List.map_cons, List.map_nil, List.length_cons, List.length_nil, Nat.reduceAdd, Nat.reduceSub, List.replicate_succ, List.replicate_zero, List.cons_append, List.nil_append, List.getElem?_cons_zero, List.getElem?_cons_succ, Res.bind_ok, kCons1_ap, dNil_ap, kCons2_ap, kCall_3, hfe, Res.then_ok, kAsg_n, List.set_cons_succ, List.set_cons_zero, RsS.next_nx, dOp_ap, dC_ap, kOp1_ap, addW_i, et, kCall_2, hr, subW_i, dLst_ap, kl]
  rw [sSeq_ap, sFor_ap]
  simp -implicitDefEqProofs only [dRange1_ap, dCons_ap, dVar_ap, dNil_ap, List.getElem?_cons_zero, List.getElem?_cons_succ, Res.bind_ok, kCons1_ap, kCons2_ap, hr1, Res.then_ok, kFor]
  rw [e]
  simp -implicitDefEqProofs only [RsS.next_nx, sRet_ap, dVar_ap, List.getElem?_cons_zero, List.getElem?_cons_succ, Res.then_ok, kRet_ap, fnR_rt, hg]
theorem fewest_err {x y w : W} {c : Str} {z : W} {st : Store} (h : d__check_ends [x, y, w] st = .err c z st) : d_fewest_steps [x, y, w] st = .err c z st := by
  unfold d_fewest_steps; rw [fnDen_ap]; unfold b_fewest_steps
  simp -implicitDefEqProofs [h]
theorem steps_err {x y w : W} {c : Str} {z : W} {st : Store} (h : d_fewest_steps [x, y, w] st = .err c z st) : d_steps [x, y, w] st = .err c z st := by
  unfold d_steps; rw [fnDen_ap]; unfold b_steps
  simp -implicitDefEqProofs [h]
theorem judge_err {x y w v : W} {c : Str} {z : W} {st : Store} (h : d_fewest_steps [x, y, w] st = .err c z st) : d_judge_steps [x, y, w, v] st = .err c z st := by
  unfold d_judge_steps; rw [fnDen_ap]; unfold b_judge_steps
  simp -implicitDefEqProofs [h]
/-! judge_steps -/
section
variable {x y : Int} {m n : Nat} {st : Store}
theorem judge_no {v : W} (hfe : d_fewest_steps [.int x, .int y, .int (m : Int)] st = .ok (.int (n : Int)) st) (h : isiW [v, .gl (.ty "list")] st = .ok (.bl false) st) : d_judge_steps [.int x, .int y, .int (m : Int), v] st = .ok (.bl false) st := by
  unfold d_judge_steps; rw [fnDen_ap]; unfold b_judge_steps
  simp -implicitDefEqProofs [hfe, h]
theorem isi_list {a : Nat} {ws : List W} (h : st[a]? = some (.lst ws)) : isiW [.loc a, .gl (.ty "list")] st = .ok (.bl true) st := isi_of (t := "list") (by simp [tyN, h]) (by decide)
theorem judge_len {a : Nat} {ws : List W} (hfe : d_fewest_steps [.int x, .int y, .int (m : Int)] st = .ok (.int (n : Int)) st) (h : st[a]? = some (.lst ws)) (hl : ws.length ≠ n) : d_judge_steps [.int x, .int y, .int (m : Int), .loc a] st = .ok (.bl false) st := by
  have ln : lenW [.loc a] st = .ok (.int (ws.length : Int)) st := len_seq (seq_loc h)
  have q : ((ws.length : Int) == (n : Int)) = false := beq_false_of_ne (by omega)
  have il := isi_list h
  generalize (ws.length : Int) = k at *
  unfold d_judge_steps; rw [fnDen_ap]; unfold b_judge_steps
  simp -implicitDefEqProofs only [sSeq_ap, sAsg_ap, dCall_ap, dCons_ap, dVar_ap, List.map_cons, List.map_nil, List.length_cons, List.length_nil, Nat.reduceAdd, Nat.reduceSub, List.replicate_succ, List.replicate_zero, List.cons_append, List.nil_append, List.getElem?_cons_zero, List.getElem?_cons_succ, Res.bind_ok, kCons1_ap, dNil_ap, kCons2_ap, kCall_3, hfe, Res.then_ok, kAsg_n, List.set_cons_succ, List.set_cons_zero, RsS.next_nx, sIf_ap, dOr_ap, dNot_ap, dBool_ap, dApp_ap, dC_ap, il, kBool_ap, kNot_ap, Bool.not_true, Bool.not_false, kOr_f, kOr_t, dOp_ap, kOp1_ap, ln, neW_i, q, kSIf_t, sRet_ap, kRet_ap, RsS.next_rt, fnR_rt, gc_b]
/-- the items, each a serial or not -/
theorem sers_ok {a : Nat} {l : List (W × W)} {env : EnvW} (h : st[a]? = some (.lst (l.map Prod.fst))) (hl : l.length ≤ 10000) (hp : ∀ p ∈ l, Pic st p.1 p.2) (he : 5 < env.length) : ∃ T, kLc env (tName 5) dYes (dCall 1 d_is_serial (dCons (dVar 5) dNil)) ⟨l.map Prod.fst, some a⟩ st = .ok (.loc st.length) T ∧ allW [.loc st.length] T = .ok (.bl (l.all fun p => serB p.2)) T ∧ ∃ g, T = st ++ g := by
  have := kLc_mapB (env := env) (i := 5) (e := dCall 1 d_is_serial (dCons (dVar 5) dNil)) (st := st) (src := some a) Prod.fst (fun p : W × W => W.bl (serB p.2)) l (by simpa using h) (fun p hp' => by
    have hs := serial_ok (hp p hp')
    have hg : (env.set 5 (some p.1))[5]? = some (some p.1) := by rw [List.getElem?_set_self he]
    simp -implicitDefEqProofs only [dCall_ap, dCons_ap, dVar_ap, hg, Res.bind_ok, kCons1_ap, dNil_ap, kCons2_ap, kCall_1, hs]) (Nat.le_trans hl (by decide))
  exact ⟨_, this, all_here, _, rfl⟩
theorem judge_bad {a : Nat} {l : List (W × W)} (hfe : d_fewest_steps [.int x, .int y, .int (m : Int)] st = .ok (.int (n : Int)) st) (h : st[a]? = some (.lst (l.map Prod.fst))) (hl : l.length ≤ 10000) (hp : ∀ p ∈ l, Pic st p.1 p.2) (hb : (l.all fun p => serB p.2) = false) : d_judge_steps [.int x, .int y, .int (m : Int), .loc a] st = .ok (.bl false) st := by
  by_cases hn : (l.map Prod.fst).length = n
  · have ln : lenW [.loc a] st = .ok (.int (n : Int)) st := by rw [len_seq (seq_loc h), hn]
    have il := isi_list h
    obtain ⟨T, e1, e2, g, hT⟩ := sers_ok (env := [some (.int x), some (.int y), some (.int (m : Int)), some (.loc a), some (.int (n : Int)), none]) h hl hp (by simp)
    rw [hb] at e2
    have it := itOf_loc h
    have hg : gc st (.bl false) T = .ok (.bl false) st := by rw [hT]; exact gc_app rfl
    unfold d_judge_steps; rw [fnDen_ap]; unfold b_judge_steps
    simp -implicitDefEqProofs only [sSeq_ap, sAsg_ap, dCall_ap, dCons_ap, dVar_ap, List.map_cons, List.map_nil, List.length_cons, List.length_nil, Nat.reduceAdd, Nat.reduceSub, List.replicate_succ, List.replicate_zero, List.cons_append, List.nil_append, List.getElem?_cons_zero, List.getElem?_cons_succ, Res.bind_ok, kCons1_ap, dNil_ap, kCons2_ap, kCall_3, hfe, Res.then_ok, kAsg_n, List.set_cons_succ, List.set_cons_zero, RsS.next_nx, sIf_ap, dOr_ap, dNot_ap, dBool_ap, dApp_ap, dC_ap, il, kBool_ap, kNot_ap, Bool.not_true, Bool.not_false, kOr_f, kOr_t, dOp_ap, kOp1_ap, ln, neW_i, beq_self_eq_true, dLc_ap, dIt_ap, it, wipeW]
    rw [e1]
    simp -implicitDefEqProofs only [Res.bind_ok, kCons1_ap, dNil_ap, kCons2_ap, e2, kBool_ap, kNot_ap, Bool.not_false, Res.then_ok, kSIf_t, sRet_ap, dC_ap, kRet_ap, RsS.next_rt, fnR_rt, hg]
  · exact judge_len hfe h hn
theorem judge_good {a : Nat} {l : List Int} (hx : Ser x) (hfe : ∀ st, d_fewest_steps [.int x, .int y, .int (m : Int)] st = .ok (.int (n : Int)) st) (hm : m ≤ 1000) (h : st[a]? = some (.lst (l.map W.int))) (hl : l.length ≤ 8000) (hs : ∀ z ∈ l, Ser z) (hn : l.length = n) : d_judge_steps [.int x, .int y, .int (m : Int), .loc a] st = .ok (.bl (((x :: l).getD l.length 0 == y) && wayB (x :: l) (m + 1))) st := by
  have hP : (l.map fun z => (W.int z, W.int z)).map Prod.fst = l.map W.int := by rw [List.map_map]; rfl
  have h' : st[a]? = some (.lst ((l.map fun z => (W.int z, W.int z)).map Prod.fst)) := by rw [hP]; exact h
  have ln : lenW [.loc a] st = .ok (.int (n : Int)) st := by rw [len_seq (seq_loc h), List.length_map, hn]
  have il := isi_list h
  obtain ⟨T, e1, e2, g, hT⟩ := sers_ok (env := [some (.int x), some (.int y), some (.int (m : Int)), some (.loc a), some (.int (n : Int)), none]) h' (by simp; omega) (fun p hp => by
    obtain ⟨z, _, rfl⟩ := List.mem_map.mp hp
    exact .pu _ rfl) (by simp)
  have ha : ((l.map fun z => (W.int z, W.int z)).all fun p => serB p.2) = true := by
    rw [List.all_map, List.all_eq_true]
    intro z hz
    exact ser_true (hs z hz)
  rw [ha] at e2
  rw [hP] at e1
  have it := itOf_loc h
  have hTa : T[a]? = some (.lst (l.map W.int)) := by rw [hT]; exact get_app _ h
  have hTs : st.length ≤ T.length := by rw [hT]; simp
  -- [one] + value, twice
  have k1 : kLst [W.int x] T = .ok (.loc T.length) (T ++ [.lst [.int x]]) := lst5 (by simp)
  obtain ⟨T1, hT1⟩ : ∃ T1, T1 = T ++ [Ob.lst [W.int x]] := ⟨_, rfl⟩
  have l1 : T1.length = T.length + 1 := by rw [hT1]; simp
  have a1 : addW (.loc T.length) (.loc a) T1 = .ok (.loc (T.length + 1)) (T1 ++ [.lst ((x :: l).map W.int)]) := by
    rw [← l1]
    exact addW_l (xs := [.int x]) (ys := l.map W.int) (by rw [hT1]; simp) (by rw [hT1]; exact get_app _ hTa) (by simp; omega)
  rw [← hT1] at k1
  obtain ⟨T2, hT2⟩ : ∃ T2, T2 = T1 ++ [Ob.lst ((x :: l).map W.int)] := ⟨_, rfl⟩
  rw [← hT2] at a1
  have l2 : T2.length = T.length + 2 := by rw [hT2]; simp [l1]
  have hl2 : T2[T.length + 1]? = some (.lst ((x :: l).map W.int)) := by rw [hT2, ← l1]; simp
  have il2 := ix_last hl2 (by simp)
  have hT2a : T2[a]? = some (.lst (l.map W.int)) := by rw [hT2, hT1]; exact get_app _ (get_app _ hTa)
  have k2 : kLst [W.int x] T2 = .ok (.loc (T.length + 2)) (T2 ++ [.lst [.int x]]) := by rw [← l2]; exact lst5 (by simp)
  obtain ⟨T3, hT3⟩ : ∃ T3, T3 = T2 ++ [Ob.lst [W.int x]] := ⟨_, rfl⟩
  have l3 : T3.length = T.length + 3 := by rw [hT3]; simp [l2]
  rw [← hT3] at k2
  have a3 : addW (.loc (T.length + 2)) (.loc a) T3 = .ok (.loc (T.length + 3)) (T3 ++ [.lst ((x :: l).map W.int)]) := by
    rw [← l3]
    exact addW_l (xs := [.int x]) (ys := l.map W.int) (by rw [hT3, ← l2]; simp) (by rw [hT3]; exact get_app _ hT2a) (by simp; omega)
  obtain ⟨T4, hT4⟩ : ∃ T4, T4 = T3 ++ [Ob.lst ((x :: l).map W.int)] := ⟨_, rfl⟩
  rw [← hT4] at a3
  have hl4 : T4[T.length + 3]? = some (.lst ((x :: l).map W.int)) := by rw [hT4, ← l3]; simp
  have iw := is_way_ok (t := m + 1) hl4 (by simp) (by simp; omega) (fun z hz => by
    rcases List.mem_cons.mp hz with rfl | hz
    · exact hx
    · exact hs z hz) (by omega)
  have et : (m : Int) + 1 = ((m + 1 : Nat) : Int) := by omega
  have hll : (x :: l).length - 1 = l.length := by simp
  rw [hll] at il2
  have g2 : ∀ b : Bool, gc st (.bl b) T2 = .ok (.bl b) st := fun b => by rw [hT2, hT1, hT]; simp only [List.append_assoc]; exact gc_app rfl
  have g4 : ∀ b : Bool, gc st (.bl b) T4 = .ok (.bl b) st := fun b => by rw [hT4, hT3, hT2, hT1, hT]; simp only [List.append_assoc]; exact gc_app rfl
  unfold d_judge_steps; rw [fnDen_ap]; unfold b_judge_steps
  generalize (x :: l).getD l.length 0 = Z at *
  generalize wayB (x :: l) (m + 1) = B at *
  simp -implicitDefEqProofs only [sSeq_ap, sAsg_ap, dCall_ap, dCons_ap, dVar_ap, List.map_cons, List.map_nil, List.length_cons, List.length_nil, Nat.reduceAdd, Nat.reduceSub, List.replicate_succ, List.replicate_zero, List.cons_append, List.nil_append, List.getElem?_cons_zero, List.getElem?_cons_succ, Res.bind_ok, kCons1_ap, dNil_ap, kCons2_ap, kCall_3, hfe, Res.then_ok, kAsg_n, List.set_cons_succ, List.set_cons_zero, RsS.next_nx, sIf_ap, dOr_ap, dNot_ap, dBool_ap, dApp_ap, dC_ap, il, kBool_ap, kNot_ap, Bool.not_true, Bool.not_false, kOr_f, kOr_t, dOp_ap, kOp1_ap, ln, neW_i, beq_self_eq_true, dLc_ap, dIt_ap, it, wipeW]
  rw [e1]
  simp -implicitDefEqProofs only [Res.bind_ok, kCons1_ap, dNil_ap, kCons2_ap, e2, kBool_ap, kNot_ap, Bool.not_true, Res.then_ok, kSIf_f, sNil_ap, RsS.next_nx, sRet_ap, dAndV_ap, dOp_ap, dLst_ap, dCons_ap, dVar_ap, List.getElem?_cons_zero, List.getElem?_cons_succ, k1, kOp1_ap, a1, dUn_ap, dC_ap, negW_i, il2, eqW_int]
  cases Z == y with
  | true =>
    simp -implicitDefEqProofs only [kAndV_t, dCall_ap, dCons_ap, dOp_ap, dLst_ap, dVar_ap, List.getElem?_cons_zero, List.getElem?_cons_succ, Res.bind_ok, kCons1_ap, dNil_ap, kCons2_ap, k2, kOp1_ap, a3, dC_ap, addW_i, et, kCall_2, iw, Res.then_ok, kRet_ap, fnR_rt, g4, Bool.true_and]
  | false =>
    simp -implicitDefEqProofs only [kAndV_f, Res.then_ok, kRet_ap, fnR_rt, g2, Bool.false_and]
end
end
end K25
namespace K25
open PySem PySem.Spec PyProof.Rows L2 MP
open Classical
noncomputable section
/-! decks -/
structure Deck (d k : Nat) (ns : List Int) (b : Nat) (B : Int) (S : Store) : Prop where
  ex : ∃ i x y z : Int, S[d]? = some (.lst [.loc k, .int i, .int x, .int y, .int z]) ∧ 0 ≤ i ∧ 0 ≤ x ∧ 0 ≤ y ∧ y < B ∧ 0 ≤ z ∧ z ≤ b
  sc : S[k]? = some (.lst (ns.map W.int))
  ne : k ≠ d
abbrev Y0 : Int := 100000000000000000000000000000000
section
variable {d k b : Nat} {ns : List Int} {B : Int} {S S' : Store}
theorem Deck.lt (h : Deck d k ns b B S) : d < S.length ∧ k < S.length := by
  obtain ⟨i, x, y, z, e, _⟩ := h.ex
  exact ⟨(List.getElem?_eq_some_iff.mp e).1, (List.getElem?_eq_some_iff.mp h.sc).1⟩
theorem Deck.mono {c : Nat} (h : Deck d k ns b B S) (hc : b ≤ c) : Deck d k ns c B S := by
  obtain ⟨i, x, y, z, e, h1, h2, h3, h4, h5, h6⟩ := h.ex
  exact ⟨⟨i, x, y, z, e, h1, h2, h3, h4, h5, by omega⟩, h.sc, h.ne⟩
theorem Deck.of (h : Deck d k ns b B S) (e1 : S'[d]? = S[d]?) (e2 : S'[k]? = S[k]?) : Deck d k ns b B S' := by
  obtain ⟨i, x, y, z, e, r⟩ := h.ex
  exact ⟨⟨i, x, y, z, by rw [e1]; exact e, r⟩, by rw [e2]; exact h.sc, h.ne⟩
theorem Deck.app (g : Store) (h : Deck d k ns b B S) : Deck d k ns b B (S ++ g) := h.of (List.getElem?_append_left h.lt.1) (List.getElem?_append_left h.lt.2)
theorem Deck.take {n : Nat} (h : Deck d k ns b B S) (h1 : d < n) (h2 : k < n) : Deck d k ns b B (S.take n) := h.of (by rw [List.getElem?_take, if_pos h1]) (by rw [List.getElem?_take, if_pos h2])
theorem Deck.set {n : Nat} {o : Ob} (h : Deck d k ns b B S) (h1 : d ≠ n) (h2 : k ≠ n) : Deck d k ns b B (S.set n o) := h.of (List.getElem?_set_ne (Ne.symm h1)) (List.getElem?_set_ne (Ne.symm h2))
end
theorem gcx2 {p : Nat} {st st' : Store} {v : W} (h : Ext p st st') (hp : ∀ o, p < st.length → st'[p]? = some o → clO st.length o = true) : GcOk st st' := fun i hi => by
  by_cases e : i = p
  · subst e
    have hl : i < st'.length := Nat.lt_of_lt_of_le hi h.le
    exact .inr ⟨st'[i], List.getElem?_eq_getElem hl, hp _ hi (List.getElem?_eq_getElem hl)⟩
  · exact .inl (h.keep i hi e)
section
variable {d k b : Nat} {ns : List Int} {B : Int} {st st' : Store} {v : W}
theorem Deck.cl (h : Deck d k ns b B st') (hk : k < st.length) : ∀ o, d < st.length → st'[d]? = some o → clO st.length o = true := fun o _ ho => by
  obtain ⟨i, x, y, z, e, _⟩ := h.ex
  rw [e] at ho
  cases ho
  simp [clO, clBs, clB, hk]
theorem gc_deck (h : Ext d st st') (hd : Deck d k ns b B st') (hl : d < st.length) (hk : k < st.length) (hv : clB st.length v = true) : gc st v st' = .ok v (st'.take st.length) ∧ Kp d st (st'.take st.length) ∧ Deck d k ns b B (st'.take st.length) := by
  have g := gcx2 (v := v) h (hd.cl hk)
  refine ⟨?_, h.take, hd.take hl hk⟩
  unfold gc; rw [if_pos g, if_pos hv]
end
theorem ixI {S : Store} {q j : Nat} {ws : List W} {w : W} (h : S[q]? = some (.lst ws)) (hw : ws[j]? = some w) : ixW (.loc q) (.int (j : Int)) S = .ok w S := by
  have hj := (List.getElem?_eq_some_iff.mp hw).1
  unfold ixW
  simp only [seq_loc h]
  rw [atI_nat hj, hw]
theorem p18 {st : Store} : powW (.int 10) (.int 18) st = .ok (.int 1000000000000000000) st := pw _ (pow10 18 (by decide) (by decide)) (by decide)
def dP1 : DS := (sIf (dAnd (dBool (dOp eqW (dOp ixW (dVar 0) (dC (.int 2))) (dC (.int 0)))) (dBool (dOp ltW (dOp ixW (dVar 0) (dC (.int 1))) (dApp lenW (dCons (dOp ixW (dVar 0) (dC (.int 0))) dNil)))))
    (sSeq (sAsg (dApp absW (dCons (dOp ixW (dOp ixW (dVar 0) (dC (.int 0))) (dOp ixW (dVar 0) (dC (.int 1)))) dNil)) (tName 3))
    (sSeq (sAsg (dOp addW (dOp ixW (dVar 0) (dC (.int 1))) (dC (.int 1))) (MP.tSub (dVar 0) (dC (.int 1))))
    (sIf (dBool (dOp geW (dVar 3) (dOp powW (dC (.int 10)) (dC (.int 18)))))
    (sAsg (dOp subW (dVar 3) (dOp powW (dC (.int 10)) (dC (.int 18)))) (MP.tSub (dVar 0) (dC (.int 2))))
    (sAsg (dOp addW (dOp addW (dOp ixW (dVar 0) (dC (.int 3))) (dOp mulW (dC (.int 7)) (dVar 3))) (dC (.int 1))) (MP.tSub (dVar 0) (dC (.int 3)))))))
    sNil)
theorem kp_set {d : Nat} {S : Store} {o : Ob} : Kp d S (S.set d o) := ⟨by simp, fun i hi => List.getElem?_set_ne (Ne.symm hi)⟩
theorem set5 {S : Store} {d j : Nat} {ws : List W} {v : W} (h : S[d]? = some (.lst ws)) (hj : j < ws.length) (env : EnvW) (mi : D W) (he : ∀ T, dVar 0 env T = .ok (.loc d) T) (hi : ∀ T, mi env T = .ok (.int (j : Int)) T) : kAsg (MP.tSub (dVar 0) mi) env v S = .go .nx env (S.set d (.lst (ws.set j v))) :=
  kAsg_sub (he S) (hi S) (setW_of h (by unfold ixN; rw [if_pos (by omega), if_pos (by omega)]; rfl))
theorem draw_part {d k b : Nat} {ns : List Int} {m : Int} {S : Store} (h : Deck d k ns b Y0 S) (hY : Y0 = 100000000000000000000000000000000 := by rfl) : ∃ (c3 : Option W) (S' : Store), dP1 [some (.loc d), some (.int m), none, none, none] S = .go .nx [some (.loc d), some (.int m), none, c3, none] S' ∧ (∃ i x y z : Int, S'[d]? = some (.lst [.loc k, .int i, .int x, .int y, .int z]) ∧ 0 ≤ i ∧ 0 ≤ x ∧ 0 ≤ y ∧ y < 2 * Y0 ∧ 0 ≤ z ∧ z ≤ b ∧ (0 < x → y < Y0)) ∧ S'[k]? = some (.lst (ns.map W.int)) ∧ Kp d S S' := by
  obtain ⟨i, x, y, z, e, hi, hx, hy, hyB, hz, hzb⟩ := h.ex
  have i0 : ixW (.loc d) (.int 0) S = .ok (.loc k) S := ixI (j := 0) e rfl
  have i1 : ixW (.loc d) (.int 1) S = .ok (.int i) S := ixI (j := 1) e rfl
  have i2 : ixW (.loc d) (.int 2) S = .ok (.int x) S := ixI (j := 2) e rfl
  have i3 : ixW (.loc d) (.int 3) S = .ok (.int y) S := ixI (j := 3) e rfl
  have hlen : lenW [.loc k] S = .ok (.int (ns.length : Int)) S := by rw [len_seq (seq_loc h.sc)]; simp
  have same : ∃ i x y z : Int, S[d]? = some (.lst [.loc k, .int i, .int x, .int y, .int z]) ∧ 0 ≤ i ∧ 0 ≤ x ∧ 0 ≤ y ∧ y < 2 * Y0 ∧ 0 ≤ z ∧ z ≤ b ∧ (0 < x → y < Y0) := ⟨i, x, y, z, e, hi, hx, hy, by omega, hz, hzb, fun _ => hyB⟩
  by_cases qx : x = 0
  · subst qx
    by_cases qi : i < (ns.length : Int)
    · obtain ⟨j, rfl⟩ : ∃ j : Nat, i = (j : Int) := ⟨i.toNat, by omega⟩
      have hj : j < ns.length := by omega
      have sj := ix_nums h.sc hj
      obtain ⟨c, hc, hc0⟩ : ∃ c : Int, (if ns.getD j 0 < 0 then -ns.getD j 0 else ns.getD j 0) = c ∧ 0 ≤ c := ⟨_, rfl, by split <;> omega⟩
      have ab : absW [.int (ns.getD j 0)] S = .ok (.int c) S := by rw [absW_i, hc]
      have l1 : decide ((j : Int) < (ns.length : Int)) = true := decide_eq_true qi
      generalize ns.getD j 0 = cz at *
      have k1 := set5 (v := .int ((j : Int) + 1)) (j := 1) e (by simp) [some (.loc d), some (.int m), none, some (.int c), none] (dC (.int 1)) (fun _ => rfl) (fun _ => rfl)
      simp only [List.set_cons_succ, List.set_cons_zero] at k1
      have hl := h.lt
      obtain ⟨T, hT⟩ : ∃ T, T = S.set d (.lst [.loc k, .int ((j : Int) + 1), .int 0, .int y, .int z]) := ⟨_, rfl⟩
      rw [← hT] at k1
      have eT : T[d]? = some (.lst [.loc k, .int ((j : Int) + 1), .int 0, .int y, .int z]) := by rw [hT, List.getElem?_set_self hl.1]
      have scT : T[k]? = some (.lst (ns.map W.int)) := by rw [hT, List.getElem?_set_ne (Ne.symm h.ne)]; exact h.sc
      have lT : d < T.length := (List.getElem?_eq_some_iff.mp eT).1
      have i3T : ixW (.loc d) (.int 3) T = .ok (.int y) T := ixI (j := 3) eT rfl
      have KT : Kp d S T := by rw [hT]; exact kp_set
      by_cases qc : (1000000000000000000 : Int) ≤ c
      · have k2 := set5 (v := .int (c - 1000000000000000000)) (j := 2) eT (by simp) [some (.loc d), some (.int m), none, some (.int c), none] (dC (.int 2)) (fun _ => rfl) (fun _ => rfl)
        simp only [List.set_cons_succ, List.set_cons_zero] at k2
        have l2 : decide ((1000000000000000000 : Int) ≤ c) = true := decide_eq_true qc
        refine ⟨some (.int c), _, ?_, ⟨(j : Int) + 1, c - 1000000000000000000, y, z, by rw [List.getElem?_set_self lT], by omega, by omega, hy, by omega, hz, hzb, fun _ => hyB⟩, by rw [List.getElem?_set_ne (Ne.symm h.ne)]; exact scT, KT.trans kp_set⟩
        unfold dP1
        generalize (j : Int) = J at *
        generalize (ns.length : Int) = N at *
        simp -implicitDefEqProofs only [sIf_ap, dAnd_ap, dBool_ap, dOp_ap, dVar_ap, dC_ap, List.getElem?_cons_zero, List.getElem?_cons_succ, Res.bind_ok, kOp1_ap, i2, eqW_int, beq_self_eq_true, kBool_ap, kAnd_t, i1, dApp_ap, dCons_ap, i0, kCons1_ap, dNil_ap, kCons2_ap, hlen, ltW_i, l1, Res.then_ok, kSIf_t, sSeq_ap, sAsg_ap, sj, ab, kAsg_n, List.set_cons_succ, List.set_cons_zero, RsS.next_nx, addW_i, k1, p18, geW_i, l2, subW_i, k2]
      · have m7 : mulW (.int 7) (.int c) T = .ok (.int (7 * c)) T := mulL (by decide) (by decide)
        have k2 := set5 (v := .int (y + 7 * c + 1)) (j := 3) eT (by simp) [some (.loc d), some (.int m), none, some (.int c), none] (dC (.int 3)) (fun _ => rfl) (fun _ => rfl)
        simp only [List.set_cons_succ, List.set_cons_zero] at k2
        have l2 : decide ((1000000000000000000 : Int) ≤ c) = false := decide_eq_false qc
        refine ⟨some (.int c), _, ?_, ⟨(j : Int) + 1, 0, y + 7 * c + 1, z, by rw [List.getElem?_set_self lT], by omega, by omega, by omega, by omega, hz, hzb, fun q => absurd q (Int.lt_irrefl 0)⟩, by rw [List.getElem?_set_ne (Ne.symm h.ne)]; exact scT, KT.trans kp_set⟩
        unfold dP1
        generalize (j : Int) = J at *
        generalize (ns.length : Int) = N at *
        simp -implicitDefEqProofs only [sIf_ap, dAnd_ap, dBool_ap, dOp_ap, dVar_ap, dC_ap, List.getElem?_cons_zero, List.getElem?_cons_succ, Res.bind_ok, kOp1_ap, i2, eqW_int, beq_self_eq_true, kBool_ap, kAnd_t, i1, dApp_ap, dCons_ap, i0, kCons1_ap, dNil_ap, kCons2_ap, hlen, ltW_i, l1, Res.then_ok, kSIf_t, sSeq_ap, sAsg_ap, sj, ab, kAsg_n, List.set_cons_succ, List.set_cons_zero, RsS.next_nx, addW_i, k1, p18, geW_i, l2, kSIf_f, i3T, m7, k2]
    · have l1 : decide (i < (ns.length : Int)) = false := decide_eq_false qi
      refine ⟨none, S, ?_, same, h.sc, .refl⟩
      unfold dP1
      generalize (ns.length : Int) = N at *
      simp -implicitDefEqProofs only [sIf_ap, dAnd_ap, dBool_ap, dOp_ap, dVar_ap, dC_ap, List.getElem?_cons_zero, List.getElem?_cons_succ, Res.bind_ok, kOp1_ap, i2, eqW_int, beq_self_eq_true, kBool_ap, kAnd_t, i1, dApp_ap, dCons_ap, i0, kCons1_ap, dNil_ap, kCons2_ap, hlen, ltW_i, l1, Res.then_ok, kSIf_f, sNil_ap]
  · have q0 : (x == 0) = false := beq_false_of_ne qx
    refine ⟨none, S, ?_, same, h.sc, .refl⟩
    unfold dP1
    simp -implicitDefEqProofs only [sIf_ap, dAnd_ap, dBool_ap, dOp_ap, dVar_ap, dC_ap, List.getElem?_cons_zero, List.getElem?_cons_succ, Res.bind_ok, kOp1_ap, i2, eqW_int, q0, kBool_ap, kAnd_f, Res.then_ok, kSIf_f, sNil_ap]
theorem pb {x : Int} (h0 : 0 ≤ x) (h : x < 340282366920938463463374607431768211456) : CPowW x 3 := ⟨by decide, by
  have hb : Builtin.Int.intBits x ≤ 128 := intBits_le (by
    have e : (2 ^ 128 : Nat) = 340282366920938463463374607431768211456 := by decide
    rw [e]; omega)
  have : (Builtin.Int.intBits x : Int) ≤ ((128 : Nat) : Int) := Int.ofNat_le.mpr hb
  have e : (2 : Int) ^ 27 = 134217728 := by decide
  rw [e]; omega⟩
theorem p33' {st : Store} : powW (.int 10) (.int 33) st = .ok (.int 1000000000000000000000000000000000) st := pw _ (pow10 33 (by decide) (by decide)) (by decide)
theorem p31' {st : Store} : powW (.int 10) (.int 31) st = .ok (.int 10000000000000000000000000000000) st := pw _ (pow10 31 (by decide) (by decide)) (by decide)
theorem p34' {st : Store} : powW (.int 10) (.int 34) st = .ok (.int 10000000000000000000000000000000000) st := pw _ (pow10 34 (by decide) (by decide)) (by decide)
theorem draw_eq : b__law_draw = sSeq dP1 (sSeq (sIf (dBool (dOp gtW (dOp ixW (dVar 0) (dC (.int 2))) (dC (.int 0))))
    (sSeq (sAsg (dOp modW (dApp intOfW (dCons (dOp ixW (dVar 0) (dC (.int 2))) dNil)) (dVar 1)) (tName 4))
    (sSeq (sAsg (dOp fdivW (dOp ixW (dVar 0) (dC (.int 2))) (dVar 1)) (MP.tSub (dVar 0) (dC (.int 2))))
    (sRet (dVar 4))))
    sNil)
    (sSeq (sAsg (dOp addW (dOp ixW (dVar 0) (dC (.int 4))) (dC (.int 1))) (MP.tSub (dVar 0) (dC (.int 4))))
    (sSeq (sAsg (dOp modW (dApp intOfW (dCons (dOp powW (dOp addW (dOp ixW (dVar 0) (dC (.int 3))) (dOp mulW (dC (.int 40487)) (dOp ixW (dVar 0) (dC (.int 4))))) (dC (.int 3))) dNil)) (dOp addW (dOp powW (dC (.int 10)) (dC (.int 33))) (dC (.int 61)))) (tName 2))
    (sSeq (sAsg (dOp modW (dApp intOfW (dCons (dOp addW (dOp addW (dOp mulW (dVar 2) (dC (.int 65539))) (dOp ixW (dVar 0) (dC (.int 3)))) (dOp ixW (dVar 0) (dC (.int 4)))) dNil)) (dOp addW (dOp powW (dC (.int 10)) (dC (.int 31))) (dC (.int 33)))) (MP.tSub (dVar 0) (dC (.int 3))))
    (sRet (dOp modW (dOp fdivW (dOp modW (dApp intOfW (dCons (dOp powW (dOp ixW (dVar 0) (dC (.int 3))) (dC (.int 3))) dNil)) (dOp addW (dOp powW (dC (.int 10)) (dC (.int 34))) (dC (.int 193)))) (dC (.int 4099))) (dVar 1))))))) := rfl
theorem draw_ok {d k b : Nat} {ns : List Int} {m : Int} {S : Store} (h : Deck d k ns b Y0 S) (hb : b ≤ 1000000) (h0 : 0 < m) (h1 : m.natAbs.log2 < 9000) : ∃ (r : Int) (S' : Store), d__law_draw [.loc d, .int m] S = .ok (.int r) S' ∧ 0 ≤ r ∧ r < m ∧ Deck d k ns (b + 1) Y0 S' ∧ Kp d S S' := by
  have hl := h.lt
  have hY : Y0 = 100000000000000000000000000000000 := rfl
  obtain ⟨c3, S1, e1, ⟨i, x, y, z, e, hi, hx, hy, hyB, hz, hzb, hxy⟩, sc1, K1⟩ := draw_part (m := m) h
  have l1 : d < S1.length := (List.getElem?_eq_some_iff.mp e).1
  have i2 : ixW (.loc d) (.int 2) S1 = .ok (.int x) S1 := ixI (j := 2) e rfl
  have i3 : ixW (.loc d) (.int 3) S1 = .ok (.int y) S1 := ixI (j := 3) e rfl
  have i4 : ixW (.loc d) (.int 4) S1 = .ok (.int z) S1 := ixI (j := 4) e rfl
  have fin : ∀ (r : Int) (T : Store), Kp d S T → Deck d k ns (b + 1) Y0 T → gc S (.int r) T = .ok (.int r) T ∧ T.length = S.length := fun r T K D => by
    obtain ⟨g, _, _⟩ := gc_deck (v := .int r) K.ext D hl.1 hl.2 rfl
    rw [List.take_of_length_le (by rw [K.len]; exact Nat.le_refl _)] at g
    exact ⟨g, K.len⟩
  unfold d__law_draw; rw [fnDen_ap, draw_eq, sSeq_ap]
  have e1' : dP1 (List.map some [W.loc d, .int m] ++ List.replicate (5 - [W.loc d, .int m].length) none) S = .go .nx [some (.loc d), some (.int m), none, c3, none] S1 := e1
  rw [e1', RsS.next_nx]
  by_cases q : 0 < x
  · have l2 : decide (0 < x) = true := decide_eq_true q
    have k1 := set5 (v := .int (x / m)) (j := 2) e (by simp) [some (.loc d), some (.int m), none, c3, some (.int (x % m))] (dC (.int 2)) (fun _ => rfl) (fun _ => rfl)
    simp only [List.set_cons_succ, List.set_cons_zero] at k1
    obtain ⟨T, hT⟩ : ∃ T, T = S1.set d (.lst [.loc k, .int i, .int (x / m), .int y, .int z]) := ⟨_, rfl⟩
    rw [← hT] at k1
    have KT : Kp d S T := by rw [hT]; exact K1.trans kp_set
    have DT : Deck d k ns (b + 1) Y0 T := ⟨⟨i, x / m, y, z, by rw [hT, List.getElem?_set_self l1], hi, Int.ediv_nonneg (by omega) (by omega), hy, hxy q, hz, by omega⟩, by rw [hT, List.getElem?_set_ne (Ne.symm h.ne)]; exact sc1, h.ne⟩
    obtain ⟨g, _⟩ := fin (x % m) T KT DT
    refine ⟨x % m, T, ?_, Int.emod_nonneg _ (by omega), Int.emod_lt_of_pos _ h0, DT, KT⟩
    have md : modW (.int x) (.int m) S1 = .ok (.int (x % m)) S1 := mod_okQ h0
    have dv : fdivW (.int x) (.int m) S1 = .ok (.int (x / m)) S1 := div_okG h0 h1
    simp -implicitDefEqProofs only [sSeq_ap, sIf_ap, dBool_ap, dOp_ap, dVar_ap, dC_ap, List.getElem?_cons_zero, List.getElem?_cons_succ, Res.bind_ok, kOp1_ap, i2, gtW_i, l2, kBool_ap, Res.then_ok, kSIf_t, sAsg_ap, dApp_ap, dCons_ap, kCons1_ap, dNil_ap, kCons2_ap, intOf_i, md, kAsg_n, List.set_cons_succ, List.set_cons_zero, RsS.next_nx, dv, k1, sRet_ap, kRet_ap, RsS.next_rt, fnR_rt, g]
  · have l2 : decide (0 < x) = false := decide_eq_false q
    have k1 := set5 (v := .int (z + 1)) (j := 4) e (by simp) [some (.loc d), some (.int m), none, c3, none] (dC (.int 4)) (fun _ => rfl) (fun _ => rfl)
    simp only [List.set_cons_succ, List.set_cons_zero] at k1
    obtain ⟨T, hT⟩ : ∃ T, T = S1.set d (.lst [.loc k, .int i, .int x, .int y, .int (z + 1)]) := ⟨_, rfl⟩
    rw [← hT] at k1
    have eT : T[d]? = some (.lst [.loc k, .int i, .int x, .int y, .int (z + 1)]) := by rw [hT, List.getElem?_set_self l1]
    have lT : d < T.length := (List.getElem?_eq_some_iff.mp eT).1
    have j3 : ixW (.loc d) (.int 3) T = .ok (.int y) T := ixI (j := 3) eT rfl
    have j4 : ixW (.loc d) (.int 4) T = .ok (.int (z + 1)) T := ixI (j := 4) eT rfl
    have m1 : mulW (.int 40487) (.int (z + 1)) T = .ok (.int (40487 * (z + 1))) T := mulL (by decide) (by decide)
    have hz1 : z + 1 ≤ 2000000 := by omega
    have w1 : powW (.int (y + 40487 * (z + 1))) (.int 3) T = .ok (.int ((y + 40487 * (z + 1)) ^ (3 : Int).toNat)) T := pow_okQ (pb (by omega) (by omega))
    obtain ⟨stir, hs⟩ : ∃ q : Int, q = (y + 40487 * (z + 1)) ^ (3 : Int).toNat % (1000000000000000000000000000000000 + 61) := ⟨_, rfl⟩
    have d1 : modW (.int ((y + 40487 * (z + 1)) ^ (3 : Int).toNat)) (.int (1000000000000000000000000000000000 + 61)) T = .ok (.int stir) T := by rw [hs]; exact mod_okQ (by decide)
    have m2 : mulW (.int stir) (.int 65539) T = .ok (.int (stir * 65539)) T := mulS (by decide) (by decide)
    obtain ⟨y2, hy2⟩ : ∃ q : Int, q = (stir * 65539 + y + (z + 1)) % (10000000000000000000000000000000 + 33) := ⟨_, rfl⟩
    have d2 : modW (.int (stir * 65539 + y + (z + 1))) (.int (10000000000000000000000000000000 + 33)) T = .ok (.int y2) T := by rw [hy2]; exact mod_okQ (by decide)
    have y20 : 0 ≤ y2 := by rw [hy2]; exact Int.emod_nonneg _ (by decide)
    have y21 : y2 < 10000000000000000000000000000000 + 33 := by rw [hy2]; exact Int.emod_lt_of_pos _ (by decide)
    have k2 := set5 (v := .int y2) (j := 3) eT (by simp) [some (.loc d), some (.int m), some (.int stir), c3, none] (dC (.int 3)) (fun _ => rfl) (fun _ => rfl)
    simp only [List.set_cons_succ, List.set_cons_zero] at k2
    obtain ⟨U, hU⟩ : ∃ U, U = T.set d (.lst [.loc k, .int i, .int x, .int y2, .int (z + 1)]) := ⟨_, rfl⟩
    rw [← hU] at k2
    have eU : U[d]? = some (.lst [.loc k, .int i, .int x, .int y2, .int (z + 1)]) := by rw [hU, List.getElem?_set_self lT]
    have n3 : ixW (.loc d) (.int 3) U = .ok (.int y2) U := ixI (j := 3) eU rfl
    have w2 : powW (.int y2) (.int 3) U = .ok (.int (y2 ^ (3 : Int).toNat)) U := pow_okQ (pb y20 (by omega))
    have d3 : modW (.int (y2 ^ (3 : Int).toNat)) (.int (10000000000000000000000000000000000 + 193)) U = .ok (.int (y2 ^ (3 : Int).toNat % (10000000000000000000000000000000000 + 193))) U := mod_okQ (by decide)
    have d4 : ∀ q, fdivW (.int q) (.int 4099) U = .ok (.int (q / 4099)) U := fun q => div_ok (by decide) (by decide)
    have d5 : ∀ q, modW (.int q) (.int m) U = .ok (.int (q % m)) U := fun q => mod_okQ h0
    have KU : Kp d S U := by rw [hU, hT]; exact (K1.trans kp_set).trans kp_set
    have DU : Deck d k ns (b + 1) Y0 U := ⟨⟨i, x, y2, z + 1, eU, hi, hx, y20, by omega, by omega, by omega⟩, by rw [hU, List.getElem?_set_ne (Ne.symm h.ne), hT, List.getElem?_set_ne (Ne.symm h.ne)]; exact sc1, h.ne⟩
    obtain ⟨r, hr⟩ : ∃ r : Int, r = y2 ^ (3 : Int).toNat % (10000000000000000000000000000000000 + 193) := ⟨_, rfl⟩
    rw [← hr] at d3
    obtain ⟨g, _⟩ := fin (r / 4099 % m) U KU DU
    refine ⟨r / 4099 % m, U, ?_, Int.emod_nonneg _ (by omega), Int.emod_lt_of_pos _ h0, DU, KU⟩
    clear hr hy2 hs
    generalize (y + 40487 * (z + 1)) ^ (3 : Int).toNat = Q1 at *
    generalize y2 ^ (3 : Int).toNat = Q2 at *
    simp -implicitDefEqProofs only [sSeq_ap, sIf_ap, dBool_ap, dOp_ap, dVar_ap, dC_ap, List.getElem?_cons_zero, List.getElem?_cons_succ, Res.bind_ok, kOp1_ap, i2, gtW_i, l2, kBool_ap, Res.then_ok, kSIf_f, sNil_ap, RsS.next_nx, sAsg_ap, i4, addW_i, k1, dApp_ap, dCons_ap, j3, j4, m1, w1, kCons1_ap, dNil_ap, kCons2_ap, intOf_i, p33', d1, kAsg_n, List.set_cons_succ, List.set_cons_zero, m2, p31', d2, k2, sRet_ap, n3, w2, p34', d3, d4, d5, kRet_ap, fnR_rt, g]
end
end K25
namespace K25
open PySem PySem.Spec PyProof.Rows L2 MP
open Classical
noncomputable section
theorem deck_ok {ns : List Int} {st : Store} : ∃ st', d__law_deck [.fro (ns.map W.int)] st = .ok (.loc (st.length + 1)) st' ∧ Deck (st.length + 1) st.length ns 0 Y0 st' := by
  have m1 : ∀ y, mulW (.int y) (.int 30011) st = .ok (.int (y * 30011)) st := fun y => mulS (by decide) (by decide)
  have p24 : powW (.int 10) (.int 24) st = .ok (.int 1000000000000000000000000) st := pw _ (pow10 24 (by decide) (by decide)) (by decide)
  have md : ∀ y, modW (.int y) (.int (1000000000000000000000000 + 7)) st = .ok (.int (y % (1000000000000000000000000 + 7))) st := fun y => mod_okQ (by decide)
  obtain ⟨env', st', e4, rfl, acc, v, rfl, a0, a1⟩ := forW_ok (chk := (ItW.mk (ns.map W.int) none).Chk) (t := tName 2) (b := sAsg (dOp modW (dApp intOfW (dCons (dOp addW (dOp mulW (dVar 1) (dC (.int 30011))) (dApp absW (dCons (dVar 2) dNil))) dNil)) (dOp addW (dOp powW (dC (.int 10)) (dC (.int 24))) (dC (.int 7)))) (tName 1))
    (fun _ env S => S = st ∧ ∃ (acc : Int) (v : Option W), env = [some (.fro (ns.map W.int)), some (.int acc), v] ∧ 0 ≤ acc ∧ acc < 1000000000000000000000000 + 7) (fun _ _ _ _ => by simp) (ns.map W.int) 0 [some (.fro (ns.map W.int)), some (.int 17), none] st
    (fun j w env S hw hI => by
      obtain ⟨rfl, acc, v, rfl, _, _⟩ := hI
      obtain ⟨y, _, rfl⟩ := List.mem_map.mp (List.mem_of_getElem? hw)
      obtain ⟨ab, hab⟩ : ∃ q : Int, (if y < 0 then -y else y) = q := ⟨_, rfl⟩
      refine ⟨_, _, [some (.fro (ns.map W.int)), some (.int ((acc * 30011 + ab) % (1000000000000000000000000 + 7))), some (.int y)], _, rfl, ?_, rfl, (acc * 30011 + ab) % (1000000000000000000000000 + 7), some (.int y), rfl, Int.emod_nonneg _ (by decide), Int.emod_lt_of_pos _ (by decide)⟩
      simp -implicitDefEqProofs only [List.set_cons_succ, List.set_cons_zero, sAsg_ap, dOp_ap, dApp_ap, dCons_ap, dVar_ap, dC_ap, List.getElem?_cons_zero, List.getElem?_cons_succ, Res.bind_ok, kOp1_ap, kCons1_ap, m1, dNil_ap, kCons2_ap, absW_i, hab, addW_i, intOf_i, p24, md, Res.then_ok, kAsg_n]) ⟨rfl, 17, none, rfl, by decide, by decide⟩
  have hl : listAW [.fro (ns.map W.int)] st' = .ok (.loc st'.length) (st' ++ [.lst (ns.map W.int)]) := rfl
  obtain ⟨T, hT⟩ : ∃ T, T = st' ++ [Ob.lst (ns.map W.int)] := ⟨_, rfl⟩
  have lT : T.length = st'.length + 1 := by rw [hT]; simp
  rw [← hT] at hl
  have kl : kLst [.loc st'.length, .int 0, .int 0, .int acc, .int 0] T = .ok (.loc (st'.length + 1)) (T ++ [.lst [.loc st'.length, .int 0, .int 0, .int acc, .int 0]]) := by rw [← lT]; exact lst5 (by simp)
  obtain ⟨U, hU⟩ : ∃ U, U = T ++ [Ob.lst [.loc st'.length, .int 0, .int 0, .int acc, .int 0]] := ⟨_, rfl⟩
  rw [← hU] at kl
  have eU : U[st'.length + 1]? = some (.lst [.loc st'.length, .int 0, .int 0, .int acc, .int 0]) := by rw [hU, ← lT]; simp
  have g : gc st' (.loc (st'.length + 1)) U = .ok (.loc (st'.length + 1)) U := by
    have e : GcOk st' U := fun i hi => .inl (by rw [hU, hT, List.append_assoc, List.getElem?_append_left hi])
    have hv : ¬ clB st'.length (.loc (st'.length + 1)) = true := by simp [clB]
    unfold gc; rw [if_pos e, if_neg hv]
    simp only [eU]
    rw [if_neg (by simp [clBs, clB])]
  refine ⟨U, ?_, ⟨⟨0, 0, acc, 0, eU, by omega, by omega, a0, Int.lt_trans a1 (by decide), by omega, by omega⟩, by rw [hU, hT]; simp, by omega⟩⟩
  unfold d__law_deck; rw [fnDen_ap]; unfold b__law_deck
  simp -implicitDefEqProofs only [sSeq_ap (a := sAsg _ _), sAsg_ap, dC_ap, Res.then_ok, kAsg_n, List.map_cons, List.map_nil, List.length_cons, List.length_nil, Nat.reduceAdd, Nat.reduceSub, List.replicate_succ, List.replicate_zero, List.cons_append, List.nil_append, List.set_cons_succ, List.set_cons_zero, RsS.next_nx]
  rw [sSeq_ap, sFor_ap]
  simp -implicitDefEqProofs only [dIt_ap, dVar_ap, List.getElem?_cons_zero, Res.bind_ok, itOf_fro, Res.then_ok, kFor]
  have e4' := e4
  rw [e4']
  simp -implicitDefEqProofs only [RsS.next_nx, sRet_ap, dLst_ap, dCons_ap, dApp_ap, dVar_ap, dC_ap, dNil_ap, List.getElem?_cons_zero, List.getElem?_cons_succ, Res.bind_ok, kCons1_ap, kCons2_ap, hl, kl, Res.then_ok, kRet_ap, fnR_rt, g]
/-! the first that is found -/
theorem forW_orV {chk : Store → Prop} {t : DT} {b : DS} (I : Nat → EnvW → Store → Prop) (J : Store → Prop) (q : Nat → Bool) (v : Nat → W) (hc : ∀ i env st, I i env st → chk st) : ∀ (ws : List W) (k : Nat) (env : EnvW) (st : Store),
    (∀ i w env st, ws[i]? = some w → I (k + i) env st → ∃ env1 st1, t w env st = some (env1, st1) ∧ ((q (k + i) = true ∧ ∃ env2 st2, b env1 st1 = .go .nx env2 st2 ∧ I (k + i + 1) env2 st2) ∨ (q (k + i) = false ∧ ∃ env2 st2, b env1 st1 = .go (.rt (v (k + i))) env2 st2 ∧ J st2))) → I k env st →
    (∃ env' st', forW chk t b ws env st = .go .nx env' st' ∧ I (k + ws.length) env' st' ∧ ∀ i, i < ws.length → q (k + i) = true) ∨ (∃ i, i < ws.length ∧ q (k + i) = false ∧ (∀ j, j < i → q (k + j) = true) ∧ ∃ env' st', forW chk t b ws env st = .go (.rt (v (k + i))) env' st' ∧ J st')
  | [], k, env, st, _, h => .inl ⟨env, st, by unfold forW; rw [if_pos (hc _ _ _ h)], h, fun i hi => absurd hi (Nat.not_lt_zero _)⟩
  | w :: ws, k, env, st, hs, h => by
    obtain ⟨env1, st1, e1, r⟩ := hs 0 w env st rfl h
    rcases r with ⟨hq, env2, st2, e2, h2⟩ | ⟨hq, env2, st2, e2, h2⟩
    · have ih := forW_orV I J q v hc ws (k + 1) env2 st2 (fun i w env st hw hI => by
        have := hs (i + 1) w env st (by simpa using hw) (by rwa [show k + (i + 1) = k + 1 + i by omega])
        rwa [show k + (i + 1) = k + 1 + i by omega] at this) h2
      have run : forW chk t b (w :: ws) env st = forW chk t b ws env2 st2 := by
        conv => lhs; unfold forW
        rw [if_pos (hc _ _ _ h), e1]
        dsimp only
        rw [e2]
      rw [run]
      rcases ih with ⟨env', st', e3, h3, h4⟩ | ⟨i, hi, hq', hj, env', st', e3, h3⟩
      · refine .inl ⟨env', st', e3, by rw [List.length_cons, show k + (ws.length + 1) = k + 1 + ws.length by omega]; exact h3, fun i hi => ?_⟩
        cases i with
        | zero => exact hq
        | succ i =>
          have := h4 i (by simpa using hi)
          rwa [show k + (i + 1) = k + 1 + i by omega]
      · refine .inr ⟨i + 1, by simpa using hi, by rwa [show k + (i + 1) = k + 1 + i by omega], fun j hj' => ?_, env', st', by rwa [show k + (i + 1) = k + 1 + i by omega], h3⟩
        cases j with
        | zero => exact hq
        | succ j =>
          have := hj j (by omega)
          rwa [show k + (j + 1) = k + 1 + j by omega]
    · refine .inr ⟨0, by simp, hq, fun j hj => absurd hj (Nat.not_lt_zero _), env2, st2, ?_, h2⟩
      unfold forW
      rw [if_pos (hc _ _ _ h), e1]
      dsimp only
      rw [e2]
def bestB (l : List Int) (s : Int) : Bool := l.all fun o => s == o || newB s o
def optW : Option Int → W
  | some s => .int s
  | none => .non
theorem getD_of {l : List Int} {i : Nat} {z : Int} (h : l[i]? = some z) : l.getD i 0 = z := by rw [List.getD_eq_getElem?_getD, h]; rfl
theorem find_at {l : List Int} {p : Int → Bool} {i : Nat} (h : i < l.length) (hp : p (l.getD i 0) = true) (hj : ∀ j, j < i → p (l.getD j 0) = false) : l.find? p = some (l.getD i 0) := by
  induction l generalizing i with
  | nil => simp at h
  | cons a l ih =>
    cases i with
    | zero => exact List.find?_cons_of_pos hp
    | succ i =>
      have h0 : p a = false := hj 0 (by omega)
      rw [List.find?_cons_of_neg (by simp [h0])]
      exact ih (by simpa using h) hp fun j hj' => hj (j + 1) (by omega)
theorem checks_ok {a : Nat} {l : List Int} {b c : Option W} {st : Store} (h : st[a]? = some (.lst (l.map W.int))) (hs : ∀ z ∈ l, Ser z) : ∃ b', forW (ItW.mk (l.map W.int) (some a)).Chk (tName 1) (sExpr (dCall 1 d_check_serial (dCons (dVar 1) dNil))) (l.map W.int) [some (.loc a), b, c] st = .go .nx [some (.loc a), b', c] st := by
  obtain ⟨env', S, e, ⟨b', rfl⟩, hS⟩ := forW_ok (chk := (ItW.mk (l.map W.int) (some a)).Chk) (t := tName 1) (b := sExpr (dCall 1 d_check_serial (dCons (dVar 1) dNil)))
    (fun i env S => (∃ b, env = [some (.loc a), b, c]) ∧ S = st) (fun _ _ _ hI => by rw [hI.2]; simpa using h) (l.map W.int) 0 [some (.loc a), b, c] st
    (fun i w env S hw hI => by
      obtain ⟨⟨b, rfl⟩, rfl⟩ := hI
      obtain ⟨z, hz, rfl⟩ := List.mem_map.mp (List.mem_of_getElem? hw)
      refine ⟨_, _, _, _, rfl, ?_, ⟨some (.int z), rfl⟩, rfl⟩
      simp -implicitDefEqProofs [check_ok (hs z hz)]) ⟨⟨b, rfl⟩, rfl⟩
  exact ⟨b', by rw [e, hS]⟩
theorem newest_ok {a : Nat} {l : List Int} {st : Store} (h : st[a]? = some (.lst (l.map W.int))) (hl : l.length ≤ 1000) (hs : ∀ z ∈ l, Ser z) : d_newest [.loc a] st = .ok (optW (l.find? (bestB l))) st := by
  obtain ⟨b1, e1⟩ := checks_ok (b := none) (c := none) h hs
  have it := itOf_loc h
  have hal : a < st.length := (List.getElem?_eq_some_iff.mp h).1
  obtain ⟨bb, hbb⟩ : ∃ bb : DS, bb = (sIf (dBool (dApp allW (dCons (dLc (dIt (dVar 0)) [2] (tName 2) dYes (dOrV (dOp eqW (dVar 1) (dVar 2)) (dCall 2 d_newer (dCons (dVar 1) (dCons (dVar 2) dNil))))) dNil)))
    (sRet (dVar 1))
    sNil) := ⟨_, rfl⟩
  have loop := forW_orV (chk := (ItW.mk (l.map W.int) (some a)).Chk) (t := tName 1) (b := bb)
    (fun i env S => (∃ b c, env = [some (.loc a), b, c]) ∧ S[a]? = some (.lst (l.map W.int)) ∧ Ext st.length st S) (fun S => Ext st.length st S) (fun i => !bestB l (l.getD i 0)) (fun i => .int (l.getD i 0)) (fun i env S hI => by simpa using hI.2.1) (l.map W.int) 0 [some (.loc a), b1, none] st
    (fun i w env S hw hI => by
      obtain ⟨⟨b, c, rfl⟩, hS, X⟩ := hI
      rw [Nat.zero_add] at *
      have hi : i < l.length := by have := (List.getElem?_eq_some_iff.mp hw).1; simpa using this
      have ew : w = .int (l.getD i 0) := by
        rw [List.getElem?_map, List.getElem?_eq_getElem hi] at hw
        rw [List.getD_eq_getElem?_getD, List.getElem?_eq_getElem hi]
        simpa using hw.symm
      subst ew
      have hsi : Ser (l.getD i 0) := by
        rw [List.getD_eq_getElem?_getD, List.getElem?_eq_getElem hi]; exact hs _ (List.getElem_mem _)
      have it := itOf_loc hS
      generalize l.getD i 0 = s at *
      have e2 := kLc_mapB (env := [some (.loc a), some (.int s), none]) (i := 2) (e := dOrV (dOp eqW (dVar 1) (dVar 2)) (dCall 2 d_newer (dCons (dVar 1) (dCons (dVar 2) dNil)))) (st := S) (src := some a) W.int (fun o => W.bl (s == o || newB s o)) l (by simpa using hS) (fun o ho => by
        have nw := newer_ok (st := S) hsi (hs o ho)
        cases q : s == o <;> simp -implicitDefEqProofs [q, nw]) (Nat.le_trans hl (by decide))
      have e3 : allW [.loc S.length] (S ++ [.lst (l.map fun o => W.bl (s == o || newB s o))]) = .ok (.bl (bestB l s)) (S ++ [.lst (l.map fun o => W.bl (s == o || newB s o))]) := all_here
      obtain ⟨T, hT⟩ : ∃ T, T = S ++ [Ob.lst (l.map fun o => W.bl (s == o || newB s o))] := ⟨_, rfl⟩
      rw [← hT] at e2 e3
      have XT : Ext st.length st T := by rw [hT]; exact X.trans (.app _)
      refine ⟨_, _, rfl, ?_⟩
      have run : ∀ r : RsS, (kSIf (sRet (dVar 1)) sNil [some (.loc a), some (.int s), c] (bestB l s) T) = r → bb [some (.loc a), some (.int s), c] S = r := fun r hr => by
        rw [hbb, ← hr]
        simp -implicitDefEqProofs only [sIf_ap, dBool_ap, dApp_ap, dCons_ap, dLc_ap, dIt_ap, dVar_ap, List.getElem?_cons_zero, Res.bind_ok, it, wipeW, List.set_cons_succ, List.set_cons_zero]
        rw [e2]
        simp -implicitDefEqProofs only [Res.bind_ok, kCons1_ap, dNil_ap, kCons2_ap, e3, kBool_ap, Res.then_ok]
      cases q : bestB l s with
      | true => exact .inr ⟨rfl, [some (.loc a), some (.int s), c], T, run _ (by rw [q]; rfl), XT⟩
      | false => exact .inl ⟨rfl, [some (.loc a), some (.int s), c], T, run _ (by rw [q]; rfl), ⟨_, _, rfl⟩, by rw [hT]; exact get_app _ hS, XT⟩) ⟨⟨b1, none, rfl⟩, h, .refl⟩
  rw [List.length_map] at loop
  unfold d_newest; rw [fnDen_ap]; unfold b_newest
  rw [← hbb, sSeq_ap, sFor_ap]
  simp -implicitDefEqProofs only [dIt_ap, dVar_ap, List.map_cons, List.map_nil, List.length_cons, List.length_nil, Nat.reduceAdd, Nat.reduceSub, List.replicate_succ, List.replicate_zero, List.cons_append, List.nil_append, List.getElem?_cons_zero, Res.bind_ok, it, Res.then_ok, kFor]
  rw [e1, RsS.next_nx, sSeq_ap, sFor_ap]
  simp -implicitDefEqProofs only [dIt_ap, dVar_ap, List.getElem?_cons_zero, Res.bind_ok, it, Res.then_ok, kFor]
  rcases loop with ⟨env', S3, e3, ⟨⟨b, c, rfl⟩, _, X3⟩, hq⟩ | ⟨i, hi, hq, hj, env', S3, e3, X3⟩
  · have hn : l.find? (bestB l) = none := by
      rw [List.find?_eq_none]
      intro z hz
      obtain ⟨i, hi, e⟩ := List.getElem_of_mem hz
      have := hq i hi
      rw [Nat.zero_add, getD_of (by rw [List.getElem?_eq_getElem hi, e])] at this
      simpa using this
    rw [e3, hn]
    have g : gc st .non S3 = .ok .non st := by rw [gcx_ok (p := st.length) X3 (fun o q _ => absurd q (by omega)) rfl, Ext.takeEq X3 (Nat.le_refl _)]
    simp -implicitDefEqProofs only [RsS.next_nx, sRet_ap, dC_ap, Res.then_ok, kRet_ap, fnR_rt, g, optW]
  · rw [Nat.zero_add] at hq e3
    have hf := find_at (p := bestB l) hi (by simpa using hq) (fun j hj' => by have := hj j hj'; rw [Nat.zero_add] at this; simpa using this)
    rw [e3, hf]
    have g : ∀ z, gc st (.int z) S3 = .ok (.int z) st := fun z => by rw [gcx_ok (p := st.length) X3 (fun o q _ => absurd q (by omega)) rfl, Ext.takeEq X3 (Nat.le_refl _)]
    simp -implicitDefEqProofs only [RsS.next_rt, fnR_rt, g, optW]
/-! repr -/
theorem okS_num {z : Int} (h : z.natAbs < 10 ^ 100) : okS (Str.ofString (toString z)) = true := by
  rw [okS_iff]
  refine ⟨?_, PySem.W.KSb.asc_num z⟩
  rw [PySem.ofString_length]
  exact Nat.le_trans (int_text_length_le10 (k := 100) (by decide) h) (by decide)
/-- what is shown -/
inductive Shw : W → Prop
  | int (z : Int) (h : z.natAbs < 10 ^ 100) : Shw (.int z)
  | bl (b : Bool) : Shw (.bl b)
  | non : Shw .non
theorem repr_shw {v : W} {st : Store} (h : Shw v) : ∃ s, okS s = true ∧ ∀ st, reprW [v] st = .ok (.str s) st := by
  cases h with
  | int z h =>
    have hl : z.natAbs.log2 < 1920 := by
      by_cases h0 : z.natAbs = 0
      · rw [h0]; decide
      · have : z.natAbs < 2 ^ 400 := Nat.lt_of_lt_of_le h (by decide +kernel)
        have := (Nat.log2_lt h0).mpr this
        omega
    exact ⟨_, okS_num h, fun st => by unfold reprW; simp only [if_pos hl]⟩
  | bl b => exact ⟨_, by cases b <;> decide +kernel, fun st => rfl⟩
  | non => exact ⟨_, by decide +kernel, fun st => rfl⟩
theorem shw_ser {z : Int} (h : -100000000000000000000 ≤ z ∧ z ≤ 100000000000000000000) : Shw (.int z) := .int z (by
  have e : (10 : Nat) ^ 100 = 10 ^ 20 * 10 ^ 80 := by rw [← Nat.pow_add]
  have e2 : (10 : Nat) ^ 20 = 100000000000000000000 := by decide
  have e3 : 10 ≤ (10 : Nat) ^ 80 := by decide +kernel
  have h2 : 100000000000000000000 * 10 ≤ 100000000000000000000 * (10 : Nat) ^ 80 := Nat.mul_le_mul_left _ e3
  rw [e, e2]
  omega)
end
end K25
namespace K25
open PySem PySem.Spec PyProof.Rows L2 MP
open Classical
noncomputable section
/-! errors -/
def eB : DS := (sIf (dBool (dOp eqW (dVar 0) (dC (.int 0))))
    (sExpr (dCall 2 d_newer (dCons (dVar 1) (dCons (dVar 2) dNil))))
    (sIf (dBool (dOp eqW (dVar 0) (dC (.int 1))))
    (sExpr (dCall 2 d_further (dCons (dVar 1) (dCons (dVar 3) dNil))))
    (sIf (dBool (dOp eqW (dVar 0) (dC (.int 2))))
    (sExpr (dCall 1 d_newest (dCons (dLst (dCons (dVar 2) (dCons (dVar 1) (dCons (dVar 2) dNil)))) dNil)))
    (sIf (dBool (dOp eqW (dVar 0) (dC (.int 3))))
    (sExpr (dCall 3 d_fewest_steps (dCons (dVar 1) (dCons (dVar 2) (dCons (dVar 3) dNil)))))
    (sIf (dBool (dOp eqW (dVar 0) (dC (.int 4))))
    (sExpr (dCall 3 d_steps (dCons (dVar 1) (dCons (dVar 2) (dCons (dVar 3) dNil)))))
    (sExpr (dCall 4 d_judge_steps (dCons (dVar 1) (dCons (dVar 2) (dCons (dVar 3) (dCons (dLst dNil) dNil)))))))))))
def eS : Str → W → DS := fun cN wv => (sAsg (dTup (dCons (dIsExc [("TreeError", false), ("InvalidNumber", false), ("InvalidSerial", true)] cN) (dCons (dIsExc [("TreeError", false), ("InvalidNumber", true), ("InvalidSerial", false)] cN) (dCons (dExc wv) dNil)))) (tName 4))
theorem err_eq : b__law_error = sSeq (sAsg (dC .non) (tName 4)) (sSeq (sTryAs 5 eB (subL [("TreeError", true), ("InvalidNumber", true), ("InvalidSerial", true)]) eS) (sRet (dVar 4))) := rfl
def errW : Option (Bool × Int) → W
  | none => .non
  | some (b, z) => .tup [.bl b, .bl (!b), .int z]
def errN (b : Bool) : Str := if b then "InvalidSerial" else "InvalidNumber"
section
variable {w f s t : Int} {st : Store}
theorem err_of {b : Bool} {z : Int} {g : Store} (h : eB [some (.int w), some (.int f), some (.int s), some (.int t), some .non, none] st = .err (errN b) (.int z) [some (.int w), some (.int f), some (.int s), some (.int t), some .non, none] (st ++ g)) : d__law_error [.int w, .int f, .int s, .int t] st = .ok (errW (some (b, z))) st := by
  have e1 : sAsg (dC .non) (tName 4) (List.map some [W.int w, .int f, .int s, .int t] ++ List.replicate (6 - [W.int w, .int f, .int s, .int t].length) none) st = .go .nx [some (.int w), some (.int f), some (.int s), some (.int t), some .non, none] st := rfl
  have kt : ∀ a b c : W, kTup [a, b, c] (st ++ g) = .ok (.tup [a, b, c]) (st ++ g) := fun a b c => ten (by simp)
  have g1 : gc st (.tup [.bl b, .bl (!b), .int z]) (st ++ g) = .ok (.tup [.bl b, .bl (!b), .int z]) st := gc_app rfl
  unfold d__law_error; rw [fnDen_ap, err_eq, sSeq_ap, e1, RsS.next_nx, sSeq_ap, sTryAs_ap, h]
  cases b with
  | true =>
    have hs : subL [("TreeError", true), ("InvalidNumber", true), ("InvalidSerial", true)] (errN true) = some true := by decide +kernel
    have x1 : ∀ env st, dIsExc [("TreeError", false), ("InvalidNumber", false), ("InvalidSerial", true)] (errN true) env st = .ok (.bl true) st := fun _ _ => by
      have : ([(("TreeError" : Str), false), ("InvalidNumber", false), ("InvalidSerial", true)] : List (Str × Bool)).lookup (errN true) = some true := by decide +kernel
      unfold dIsExc; rw [this]
    have x2 : ∀ env st, dIsExc [("TreeError", false), ("InvalidNumber", true), ("InvalidSerial", false)] (errN true) env st = .ok (.bl false) st := fun _ _ => by
      have : ([(("TreeError" : Str), false), ("InvalidNumber", true), ("InvalidSerial", false)] : List (Str × Bool)).lookup (errN true) = some false := by decide +kernel
      unfold dIsExc; rw [this]
    rw [kTry_err hs (by simp)]
    unfold eS
    generalize errN true = N at *
    simp -implicitDefEqProofs only [sAsg_ap, dTup_ap, dCons_ap, x1, Res.bind_ok, kCons1_ap, x2, dExc_ap, dNil_ap, kCons2_ap, kt, Res.then_ok, kAsg_n, List.set_cons_succ, List.set_cons_zero, unAt_go, RsS.next_nx, sRet_ap, dVar_ap, List.getElem?_cons_zero, List.getElem?_cons_succ, kRet_ap, fnR_rt, errW, Bool.not_true]
    exact g1
  | false =>
    have hs : subL [("TreeError", true), ("InvalidNumber", true), ("InvalidSerial", true)] (errN false) = some true := by decide +kernel
    have x1 : ∀ env st, dIsExc [("TreeError", false), ("InvalidNumber", false), ("InvalidSerial", true)] (errN false) env st = .ok (.bl false) st := fun _ _ => by
      have : ([(("TreeError" : Str), false), ("InvalidNumber", false), ("InvalidSerial", true)] : List (Str × Bool)).lookup (errN false) = some false := by decide +kernel
      unfold dIsExc; rw [this]
    have x2 : ∀ env st, dIsExc [("TreeError", false), ("InvalidNumber", true), ("InvalidSerial", false)] (errN false) env st = .ok (.bl true) st := fun _ _ => by
      have : ([(("TreeError" : Str), false), ("InvalidNumber", true), ("InvalidSerial", false)] : List (Str × Bool)).lookup (errN false) = some true := by decide +kernel
      unfold dIsExc; rw [this]
    rw [kTry_err hs (by simp)]
    unfold eS
    generalize errN false = N at *
    simp -implicitDefEqProofs only [sAsg_ap, dTup_ap, dCons_ap, x1, Res.bind_ok, kCons1_ap, x2, dExc_ap, dNil_ap, kCons2_ap, kt, Res.then_ok, kAsg_n, List.set_cons_succ, List.set_cons_zero, unAt_go, RsS.next_nx, sRet_ap, dVar_ap, List.getElem?_cons_zero, List.getElem?_cons_succ, kRet_ap, fnR_rt, errW, Bool.not_false]
    exact g1
theorem err_no {g : Store} (h : eB [some (.int w), some (.int f), some (.int s), some (.int t), some .non, none] st = .go .nx [some (.int w), some (.int f), some (.int s), some (.int t), some .non, none] (st ++ g)) : d__law_error [.int w, .int f, .int s, .int t] st = .ok (errW none) st := by
  have e1 : sAsg (dC .non) (tName 4) (List.map some [W.int w, .int f, .int s, .int t] ++ List.replicate (6 - [W.int w, .int f, .int s, .int t].length) none) st = .go .nx [some (.int w), some (.int f), some (.int s), some (.int t), some .non, none] st := rfl
  unfold d__law_error; rw [fnDen_ap, err_eq, sSeq_ap, e1, RsS.next_nx, sSeq_ap, sTryAs_ap, h]
  simp -implicitDefEqProofs only [kTry_go, RsS.next_nx, sRet_ap, dVar_ap, List.getElem?_cons_zero, List.getElem?_cons_succ, Res.then_ok, kRet_ap, fnR_rt, errW]
  exact gc_na
abbrev EV (w f s t : Int) : EnvW := [some (.int w), some (.int f), some (.int s), some (.int t), some .non, none]
theorem eB0 : eB (EV 0 f s t) st = (d_newer [.int f, .int s] st).then (EV 0 f s t) (kExpr (EV 0 f s t)) := by
  unfold eB; simp -implicitDefEqProofs
theorem eB1 : eB (EV 1 f s t) st = (d_further [.int f, .int t] st).then (EV 1 f s t) (kExpr (EV 1 f s t)) := by
  unfold eB; simp -implicitDefEqProofs
theorem eB2 : eB (EV 2 f s t) st = (d_newest [.loc st.length] (st ++ [.lst [.int s, .int f, .int s]])).then (EV 2 f s t) (kExpr (EV 2 f s t)) := by
  have kl : kLst [.int s, .int f, .int s] st = .ok (.loc st.length) (st ++ [.lst [.int s, .int f, .int s]]) := lst5 (by simp)
  unfold eB; simp -implicitDefEqProofs [kl]
theorem eB3 : eB (EV 3 f s t) st = (d_fewest_steps [.int f, .int s, .int t] st).then (EV 3 f s t) (kExpr (EV 3 f s t)) := by
  unfold eB; simp -implicitDefEqProofs
theorem eB4 : eB (EV 4 f s t) st = (d_steps [.int f, .int s, .int t] st).then (EV 4 f s t) (kExpr (EV 4 f s t)) := by
  unfold eB; simp -implicitDefEqProofs
theorem eB5 : eB (EV 5 f s t) st = (d_judge_steps [.int f, .int s, .int t, .loc st.length] (st ++ [.lst []])).then (EV 5 f s t) (kExpr (EV 5 f s t)) := by
  have kl : kLst [] st = .ok (.loc st.length) (st ++ [.lst []]) := lst5 (by simp)
  unfold eB; simp -implicitDefEqProofs [kl]
theorem newest_err {z : Int} (hz : ¬ Ser z) (h : (s = z) ∨ (Ser s ∧ f = z)) : d_newest [.loc st.length] (st ++ [.lst [.int s, .int f, .int s]]) = .err "InvalidSerial" (.int z) (st ++ [.lst [.int s, .int f, .int s]]) := by
  obtain ⟨T, hT⟩ : ∃ T, T = st ++ [Ob.lst [W.int s, .int f, .int s]] := ⟨_, rfl⟩
  have hg : T[st.length]? = some (.lst [.int s, .int f, .int s]) := by rw [hT]; simp
  have it := itOf_loc hg
  rw [← hT]
  unfold d_newest; rw [fnDen_ap]; unfold b_newest
  rcases h with rfl | ⟨hs, rfl⟩
  · simp -implicitDefEqProofs [it, kFor, forW, hg, check_bad hz]
  · simp -implicitDefEqProofs [it, kFor, forW, hg, check_bad hz, check_ok hs]
theorem few_err {z : Int} (hz : ¬ Ser z) (h : (f = z) ∨ (Ser f ∧ s = z)) : d_fewest_steps [.int f, .int s, .int t] st = .err "InvalidSerial" (.int z) st := fewest_err (by
  rcases h with rfl | ⟨hf, rfl⟩
  · exact ends_bad1 hz
  · exact ends_bad2 hf hz)
/-- a serial that is none, passed first of those that are looked at -/
theorem err_ser {z : Int} {w : Int} (hw : w = 0 ∨ w = 1 ∨ w = 2 ∨ w = 3 ∨ w = 4 ∨ w = 5) (hz : ¬ Ser z) (h1 : w ≠ 2 → (f = z) ∨ (Ser f ∧ s = z ∧ w ≠ 1)) (h2 : w = 2 → (s = z) ∨ (Ser s ∧ f = z)) : d__law_error [.int w, .int f, .int s, .int t] st = .ok (errW (some (true, z))) st := by
  have fe : w ≠ 2 → w ≠ 1 → ∀ st, d_fewest_steps [.int f, .int s, .int t] st = .err "InvalidSerial" (.int z) st := fun q q1 st => few_err hz (by
    rcases h1 q with h | h
    · exact .inl h
    · exact .inr ⟨h.1, h.2.1⟩)
  rcases hw with rfl | rfl | rfl | rfl | rfl | rfl
  · refine err_of (b := true) (g := []) ?_
    rw [List.append_nil, eB0]
    rcases h1 (by decide) with rfl | ⟨hf, rfl, _⟩
    · rw [newer_bad1 hz]; rfl
    · rw [newer_bad2 hf hz]; rfl
  · refine err_of (b := true) (g := []) ?_
    rw [List.append_nil, eB1]
    rcases h1 (by decide) with rfl | ⟨hf, rfl, q⟩
    · rw [further_bad hz]; rfl
    · exact absurd rfl q
  · refine err_of (b := true) (g := [.lst [.int s, .int f, .int s]]) ?_
    rw [eB2, newest_err hz (h2 rfl)]; rfl
  · refine err_of (b := true) (g := []) ?_
    rw [List.append_nil, eB3, fe (by decide) (by decide)]; rfl
  · refine err_of (b := true) (g := []) ?_
    rw [List.append_nil, eB4, steps_err (fe (by decide) (by decide) st)]; rfl
  · refine err_of (b := true) (g := [.lst []]) ?_
    rw [eB5, judge_err (fe (by decide) (by decide) _)]; rfl
/-- no error -/
theorem err_none {w : Int} (hw : w = 0 ∨ w = 1 ∨ w = 2 ∨ w = 3 ∨ w = 4 ∨ w = 5) (hf : Ser f) (hs : Ser s) (ht : 0 ≤ t ∧ (w ≠ 1 → t ≤ 1000)) : d__law_error [.int w, .int f, .int s, .int t] st = .ok .non st := by
  have fe : w ≠ 1 → ∃ n, ∀ st, d_fewest_steps [.int f, .int s, .int t] st = .ok (.int ((n : Nat) : Int)) st ∧ d_steps [.int f, .int s, .int t] st = .ok (.loc st.length) (st ++ [.lst ((WAYx f s n (t.toNat + 1)).map W.int)]) ∧ ∃ b, d_judge_steps [.int f, .int s, .int t, .loc st.length] (st ++ [.lst []]) = .ok (.bl b) (st ++ [.lst []]) := fun q => by
    have hm := ht.2 q
    obtain ⟨m, rfl⟩ : ∃ m : Nat, t = (m : Int) := ⟨t.toNat, by omega⟩
    obtain ⟨n, hn⟩ := few_ex (dst f s) (m + 1) (dst_pos f s).2 (by omega) (by omega)
    refine ⟨n, fun st => ⟨fewest_ok hf hs (by omega) hn, by rw [Int.toNat_natCast]; exact steps_ok hf hs (by omega) hn, ?_⟩⟩
    have hg : (st ++ [Ob.lst []])[st.length]? = some (.lst (([] : List Int).map W.int)) := by simp
    by_cases h0 : 0 = n
    · exact ⟨_, judge_good hf (fun st => fewest_ok hf hs (by omega) hn) (by omega) hg (by simp) (fun z hz => nomatch hz) h0⟩
    · exact ⟨_, judge_len (fewest_ok hf hs (by omega) hn) hg h0⟩
  rcases hw with rfl | rfl | rfl | rfl | rfl | rfl
  · refine err_no (g := []) ?_
    rw [List.append_nil, eB0, newer_ok hf hs]; rfl
  · refine err_no (g := []) ?_
    rw [List.append_nil, eB1, further_ok hf ht.1]; rfl
  · refine err_no (g := [.lst [.int s, .int f, .int s]]) ?_
    rw [eB2, newest_ok (l := [s, f, s]) (by simp) (by simp) (fun z hz => by
      simp only [List.mem_cons, List.not_mem_nil, or_false] at hz
      rcases hz with rfl | rfl | rfl
      · exact hs
      · exact hf
      · exact hs)]; rfl
  · obtain ⟨n, h⟩ := fe (by decide)
    refine err_no (g := []) ?_
    rw [List.append_nil, eB3, (h st).1]; rfl
  · obtain ⟨n, h⟩ := fe (by decide)
    refine err_no (g := [.lst ((WAYx f s n (t.toNat + 1)).map W.int)]) ?_
    rw [eB4, (h st).2.1]; rfl
  · obtain ⟨n, h⟩ := fe (by decide)
    obtain ⟨b, hb⟩ := (h st).2.2
    refine err_no (g := [.lst []]) ?_
    rw [eB5, hb]; rfl
/-- a number that is out of its bounds -/
theorem err_num {w : Int} (hw : w = 1 ∨ w = 3 ∨ w = 4 ∨ w = 5) (hf : Ser f) (hs : Ser s) (ht : t < 0 ∨ (w ≠ 1 ∧ 1000 < t)) : d__law_error [.int w, .int f, .int s, .int t] st = .ok (errW (some (false, t))) st := by
  have fe : ∀ st, d_fewest_steps [.int f, .int s, .int t] st = .err "InvalidNumber" (.int t) st := fun st => fewest_err (ends_bad3 hf hs (by omega))
  rcases hw with rfl | rfl | rfl | rfl
  · refine err_of (b := false) (g := []) ?_
    rw [List.append_nil, eB1, further_neg hf (by omega)]; rfl
  · refine err_of (b := false) (g := []) ?_
    rw [List.append_nil, eB3, fe]; rfl
  · refine err_of (b := false) (g := []) ?_
    rw [List.append_nil, eB4, steps_err (fe st)]; rfl
  · refine err_of (b := false) (g := [.lst []]) ?_
    rw [eB5, judge_err (fe _)]; rfl
end
end
end K25
namespace K25
open PySem PySem.Spec PyProof.Rows L2 MP
open Classical
noncomputable section
/-- an item of a list of numbers that has just been made, its place drawn -/
theorem pick {P : Int → Prop} {d k b : Nat} {ns : List Int} {S : Store} {l : List Int} (D : Deck d k ns b Y0 S) (hb : b ≤ 900000) (hl : 0 < l.length) (hl2 : l.length ≤ 50) (hp : ∀ z ∈ l, P z) : ∃ (z : Int) (S' : Store) (r : Int), P z ∧ kLst (l.map W.int) S = .ok (.loc S.length) (S ++ [.lst (l.map W.int)]) ∧ d__law_draw [.loc d, .int (l.length : Int)] (S ++ [.lst (l.map W.int)]) = .ok (.int r) S' ∧ ixW (.loc S.length) (.int r) S' = .ok (.int z) S' ∧ Deck d k ns (b + 1) Y0 S' ∧ Ext d S S' := by
  have hS := D.lt
  obtain ⟨r, S', e, r0, r1, D', K⟩ := draw_ok (m := (l.length : Int)) (D.app [.lst (l.map W.int)]) (by omega) (by omega) (Nat.lt_of_le_of_lt (Nat.log2_le_self _) (by omega))
  have hg : S'[S.length]? = some (.lst (l.map W.int)) := by rw [K.keep _ (by omega)]; simp
  obtain ⟨j, rfl⟩ : ∃ j : Nat, r = (j : Int) := ⟨r.toNat, by omega⟩
  have hj : j < l.length := by omega
  have ix := ix_nums hg hj
  refine ⟨l.getD j 0, S', _, ?_, lst5 (by simpa using hl2), e, ix, D', (Ext.app _).trans K.ext⟩
  rw [List.getD_eq_getElem?_getD, List.getElem?_eq_getElem hj]
  exact hp _ (List.getElem_mem _)
theorem serials_ok {d k b : Nat} {ns : List Int} {S : Store} (D : Deck d k ns b Y0 S) (hb : b ≤ 800000) : ∃ (x y m : Int) (S' : Store), d__law_serials [.loc d] S = .ok (.tup [.int x, .int y, .int m]) S' ∧ Ser x ∧ Ser y ∧ 0 ≤ m ∧ m ≤ 1000 ∧ Deck d k ns (b + 20) Y0 S' ∧ Kp d S S' := by
  have hl := D.lt
  obtain ⟨a1, s1, e1, a10, a11, D1, K1⟩ := draw_ok (m := 4294967296) D (by omega) (by decide) (by decide +kernel)
  obtain ⟨a2, s2, e2, a20, a21, D2, K2⟩ := draw_ok (m := 10) D1 (by omega) (by decide) (by decide +kernel)
  obtain ⟨x, s3, r3, hx, kl3, e3, ix3, D3, X3⟩ := pick (P := Ser) (l := [0, 4294967295, a1, a2]) D2 (by omega) (by simp) (by simp) (fun z hz => by
    simp only [List.mem_cons, List.not_mem_nil, or_false] at hz
    rcases hz with rfl | rfl | rfl | rfl <;> constructor <;> omega)
  obtain ⟨fa, s4, r4, _, kl4, e4, ix4, D4, X4⟩ := pick (P := fun _ => True) (l := [0, 1, 2147483647, 2147483648, 4294967294, 4294967295]) D3 (by omega) (by simp) (by simp) (fun _ _ => trivial)
  simp only [List.map_cons, List.map_nil, List.length_cons, List.length_nil] at kl3 e3 kl4 e4
  obtain ⟨t5, s5, e5, _, _, D5, K5⟩ := draw_ok (m := 2) D4 (by omega) (by decide) (by decide +kernel)
  -- how far
  have hfar : ∃ (fa' : Int) (s6 : Store), (sIf (dBool (dOp eqW (dCall 2 d__law_draw (dCons (dVar 0) (dCons (dC (.int 2)) dNil))) (dC (.int 0))))
    (sAsg (dCall 2 d__law_draw (dCons (dVar 0) (dCons (dOp powW (dC (.int 2)) (dC (.int 32))) dNil))) (tName 2))
    (sIf (dBool (dOp eqW (dCall 2 d__law_draw (dCons (dVar 0) (dCons (dC (.int 2)) dNil))) (dC (.int 0))))
    (sAsg (dOp subW (dOp addW (dVar 2) (dCall 2 d__law_draw (dCons (dVar 0) (dCons (dC (.int 9)) dNil)))) (dC (.int 4))) (tName 2))
    sNil)) [some (.loc d), some (.int x), some (.int fa), none] s4 = .go .nx [some (.loc d), some (.int x), some (.int fa'), none] s6 ∧ Deck d k ns (b + 8) Y0 s6 ∧ Ext d s4 s6 := by
    by_cases q : t5 = 0
    · subst q
      obtain ⟨t6, s6, e6, _, _, D6, K6⟩ := draw_ok (m := 4294967296) D5 (by omega) (by decide) (by decide +kernel)
      exact ⟨t6, s6, by simp -implicitDefEqProofs [e5, p32, e6], D6.mono (by omega), K5.ext.trans K6.ext⟩
    · have q5 : (t5 == 0) = false := beq_false_of_ne q
      obtain ⟨t6, s6, e6, _, _, D6, K6⟩ := draw_ok (m := 2) D5 (by omega) (by decide) (by decide +kernel)
      by_cases q' : t6 = 0
      · subst q'
        obtain ⟨t7, s7, e7, _, _, D7, K7⟩ := draw_ok (m := 9) D6 (by omega) (by decide) (by decide +kernel)
        exact ⟨fa + t7 - 4, s7, by simp -implicitDefEqProofs [e5, q5, e6, e7], D7.mono (by omega), (K5.ext.trans K6.ext).trans K7.ext⟩
      · have q6 : (t6 == 0) = false := beq_false_of_ne q'
        exact ⟨fa, s6, by simp -implicitDefEqProofs [e5, q5, e6, q6], D6.mono (by omega), K5.ext.trans K6.ext⟩
  obtain ⟨fa', s6, e6, D6, X6⟩ := hfar
  obtain ⟨b1, s7, e7, b10, b11, D7, K7⟩ := draw_ok (m := 3) D6 (by omega) (by decide) (by decide +kernel)
  obtain ⟨b2, s8, e8, b20, b21, D8, K8⟩ := draw_ok (m := 12) D7 (by omega) (by decide) (by decide +kernel)
  obtain ⟨b3, s9, e9, b30, b31, D9, K9⟩ := draw_ok (m := 2) D8 (by omega) (by decide) (by decide +kernel)
  obtain ⟨b4, s10, e10, b40, b41, D10, K10⟩ := draw_ok (m := 1001) D9 (by omega) (by decide) (by decide +kernel)
  obtain ⟨m, s11, r11, ⟨m0, m1⟩, kl11, e11, ix11, D11, X11⟩ := pick (P := fun z => 0 ≤ z ∧ z ≤ 1000) (l := [b1, b2, 999 + b3, b4]) D10 (by omega) (by simp) (by simp) (fun z hz => by
    simp only [List.mem_cons, List.not_mem_nil, or_false] at hz
    rcases hz with rfl | rfl | rfl | rfl <;> constructor <;> omega)
  simp only [List.map_cons, List.map_nil, List.length_cons, List.length_nil] at kl11 e11
  obtain ⟨y, hy⟩ : ∃ y : Int, y = (x + fa') % 4294967296 := ⟨_, rfl⟩
  have md : ∀ S, modW (.int (x + fa')) (.int 4294967296) S = .ok (.int y) S := fun S => by rw [hy]; exact mod_okQ (by decide)
  have hyS : Ser y := by rw [hy]; constructor <;> omega
  have X : Ext d S s11 := by
    have x1 : Ext d S s4 := ((K1.ext.trans K2.ext).trans X3).trans X4
    exact (((((x1.trans X6).trans K7.ext).trans K8.ext).trans K9.ext).trans K10.ext).trans X11
  have kt : kTup [.int x, .int y, .int m] s11 = .ok (.tup [.int x, .int y, .int m]) s11 := ten (by simp)
  obtain ⟨G1, G2, G3⟩ := gc_deck (v := .tup [.int x, .int y, .int m]) X D11 hl.1 hl.2 rfl
  refine ⟨x, y, m, _, ?_, hx, hyS, m0, m1, G3.mono (by omega), G2⟩
  unfold d__law_serials; rw [fnDen_ap]; unfold b__law_serials
  have c1 : (4294967296 : Int) - 1 = 4294967295 := rfl
  have c2 : (2147483648 : Int) - 1 = 2147483647 := rfl
  have c3 : (4294967296 : Int) - 2 = 4294967294 := rfl
  have w1 : sAsg (dOp ixW (dLst (dCons (dC (.int 0)) (dCons (dOp subW (dOp powW (dC (.int 2)) (dC (.int 32))) (dC (.int 1))) (dCons (dCall 2 d__law_draw (dCons (dVar 0) (dCons (dOp powW (dC (.int 2)) (dC (.int 32))) dNil))) (dCons (dCall 2 d__law_draw (dCons (dVar 0) (dCons (dC (.int 10)) dNil))) dNil))))) (dCall 2 d__law_draw (dCons (dVar 0) (dCons (dC (.int 4)) dNil)))) (tName 1) (List.map some [W.loc d] ++ List.replicate (4 - [W.loc d].length) none) S = .go .nx [some (.loc d), some (.int x), none, none] s3 := by
    simp -implicitDefEqProofs only [sAsg_ap, dOp_ap, dLst_ap, dCons_ap, dC_ap, dVar_ap, dCall_ap, dNil_ap, List.map_cons, List.map_nil, List.length_cons, List.length_nil, Nat.reduceAdd, Nat.reduceSub, List.replicate_succ, List.replicate_zero, List.cons_append, List.nil_append, List.getElem?_cons_zero, Res.bind_ok, kCons1_ap, kOp1_ap, kCons2_ap, p32, subW_i, c1, kCall_2, e1, e2, kl3]
    rw [show ((4 : Int)) = (((0 + 1 + 1 + 1 + 1 : Nat)) : Int) from rfl, e3]
    simp -implicitDefEqProofs only [Res.bind_ok, ix3, Res.then_ok, kAsg_n, List.set_cons_succ, List.set_cons_zero]
  have w2 : sAsg (dOp ixW (dLst (dCons (dC (.int 0)) (dCons (dC (.int 1)) (dCons (dOp subW (dOp powW (dC (.int 2)) (dC (.int 31))) (dC (.int 1))) (dCons (dOp powW (dC (.int 2)) (dC (.int 31))) (dCons (dOp subW (dOp powW (dC (.int 2)) (dC (.int 32))) (dC (.int 2))) (dCons (dOp subW (dOp powW (dC (.int 2)) (dC (.int 32))) (dC (.int 1))) dNil))))))) (dCall 2 d__law_draw (dCons (dVar 0) (dCons (dC (.int 6)) dNil)))) (tName 2) [some (.loc d), some (.int x), none, none] s3 = .go .nx [some (.loc d), some (.int x), some (.int fa), none] s4 := by
    simp -implicitDefEqProofs only [sAsg_ap, dOp_ap, dLst_ap, dCons_ap, dC_ap, dVar_ap, dCall_ap, dNil_ap, List.getElem?_cons_zero, Res.bind_ok, kCons1_ap, kOp1_ap, kCons2_ap, p32, p31, subW_i, c1, c2, c3, kCall_2, kl4]
    rw [show ((6 : Int)) = (((0 + 1 + 1 + 1 + 1 + 1 + 1 : Nat)) : Int) from rfl, e4]
    simp -implicitDefEqProofs only [Res.bind_ok, ix4, Res.then_ok, kAsg_n, List.set_cons_succ, List.set_cons_zero]
  rw [sSeq_ap, w1, RsS.next_nx, sSeq_ap, w2, RsS.next_nx, sSeq_ap, e6, RsS.next_nx]
  simp -implicitDefEqProofs only [sSeq_ap, sAsg_ap, dOp_ap, dLst_ap, dCons_ap, dC_ap, dVar_ap, dCall_ap, dNil_ap, List.getElem?_cons_zero, List.getElem?_cons_succ, Res.bind_ok, kCons1_ap, kOp1_ap, kCons2_ap, kCall_2, e7, e8, e9, addW_i, e10, kl11, Res.then_ok, kAsg_n, List.set_cons_succ, List.set_cons_zero, RsS.next_nx, sRet_ap, dTup_ap, dApp_ap, intOf_i, p32, md]
  rw [show ((4 : Int)) = (((0 + 1 + 1 + 1 + 1 : Nat)) : Int) from rfl, e11]
  simp -implicitDefEqProofs only [Res.bind_ok, ix11, kCons1_ap, dNil_ap, kCons2_ap, kt, Res.then_ok, kRet_ap, fnR_rt, G1]
/-! errors, all of them -/
theorem tup_pic {st : Store} {a b : Bool} {z : Int} : Pic st (.tup [.bl a, .bl b, .int z]) (.tup [.bl a, .bl b, .int z]) := .pu _ rfl
theorem err_ne {b : Bool} {z : Int} {st : Store} : neW (errW (some (b, z))) (.tup [.bl b, .bl (!b), .int z]) st = .ok (.bl false) st := by
  have h : Pic st (.tup [.bl b, .bl (!b), .int z]) (.tup [.bl b, .bl (!b), .int z]) := .pu _ rfl
  show neW (.tup [.bl b, .bl (!b), .int z]) (.tup [.bl b, .bl (!b), .int z]) st = _
  rw [pic_ne h h, h.refl]; rfl
end
end K25
namespace K25
open PySem PySem.Spec PyProof.Rows L2 MP
open Classical
noncomputable section
@[simp] theorem isNotN_n {st : Store} : isNotNW .non .non st = .ok (.bl false) st := rfl
theorem kt3 {a b c : W} {st : Store} : kTup [a, b, c] st = .ok (.tup [a, b, c]) st := ten (by simp)
theorem err_neT {z : Int} {st : Store} : neW (errW (some (true, z))) (.tup [.bl true, .bl false, .int z]) st = .ok (.bl false) st := err_ne (b := true)
theorem err_neF {z : Int} {st : Store} : neW (errW (some (false, z))) (.tup [.bl false, .bl true, .int z]) st = .ok (.bl false) st := err_ne (b := false)
theorem kCall_4' (den : List W → Store → Res W) {a b c d : W} {st : Store} : kCall 4 den [a, b, c, d] st = den [a, b, c, d] st := rfl
def r1B : DS := (sSeq (sIf (dBool (dOp neW (dCall 4 d__law_error (dCons (dVar 6) (dCons (dVar 3) (dCons (dVar 2) (dCons (dC (.int 0)) dNil))))) (dTup (dCons (dC (.bl true)) (dCons (dC (.bl false)) (dCons (dVar 3) dNil))))))
    (sRet (dC (.bl false)))
    sNil)
    (sSeq (sIf (dAnd (dBool (dOp neW (dVar 6) (dC (.int 1)))) (dBool (dOp neW (dCall 4 d__law_error (dCons (dVar 6) (dCons (dVar 1) (dCons (dVar 3) (dCons (dC (.int 0)) dNil))))) (dTup (dCons (dC (.bl true)) (dCons (dC (.bl false)) (dCons (dVar 3) dNil)))))))
    (sRet (dC (.bl false)))
    sNil)
    (sSeq (sAsg (dIf (dBool (dOp neW (dVar 6) (dC (.int 2)))) (dVar 3) (dVar 4)) (tName 7))
    (sSeq (sIf (dBool (dOp neW (dCall 4 d__law_error (dCons (dVar 6) (dCons (dVar 3) (dCons (dVar 4) (dCons (dVar 5) dNil))))) (dTup (dCons (dC (.bl true)) (dCons (dC (.bl false)) (dCons (dVar 7) dNil))))))
    (sRet (dC (.bl false)))
    sNil)
    (sIf (dBool (dOp isNotNW (dCall 4 d__law_error (dCons (dVar 6) (dCons (dVar 1) (dCons (dVar 2) (dCons (dC (.int 0)) dNil))))) (dC .non)))
    (sRet (dC (.bl false)))
    sNil)))))
section
variable {d x y bad worse num w : Int} {p : Nat} {b7 b8 : Option W} {S : Store}
theorem r1_ok (hw : w = 0 ∨ w = 1 ∨ w = 2 ∨ w = 3 ∨ w = 4 ∨ w = 5) (hx : Ser x) (hy : Ser y) (hbad : ¬ Ser bad) (hwo : ¬ Ser worse) : ∃ b7', r1B [some (.loc p), some (.int x), some (.int y), some (.int bad), some (.int worse), some (.int num), some (.int w), b7, b8] S = .go .nx [some (.loc p), some (.int x), some (.int y), some (.int bad), some (.int worse), some (.int num), some (.int w), b7', b8] S := by
  have e1 := err_ser (f := bad) (s := y) (t := 0) (z := bad) (st := S) hw hbad (fun _ => .inl rfl) (fun _ => .inr ⟨hy, rfl⟩)
  have e2 : w ≠ 1 → d__law_error [.int w, .int x, .int bad, .int 0] S = .ok (errW (some (true, bad))) S := fun q => err_ser (z := bad) hw hbad (fun _ => .inr ⟨hx, rfl, q⟩) (fun _ => .inl rfl)
  have e4 := err_none (f := x) (s := y) (t := 0) (w := w) (st := S) hw hx hy ⟨by omega, fun _ => by omega⟩
  have n1 : ∀ z, neW (errW (some (true, z))) (.tup [.bl true, .bl false, .int z]) S = .ok (.bl false) S := fun z => err_neT
  have run : ∀ du : Int, (if (w == 2) = true then worse else bad) = du → d__law_error [.int w, .int bad, .int worse, .int num] S = .ok (errW (some (true, du))) S → r1B [some (.loc p), some (.int x), some (.int y), some (.int bad), some (.int worse), some (.int num), some (.int w), b7, b8] S = .go .nx [some (.loc p), some (.int x), some (.int y), some (.int bad), some (.int worse), some (.int num), some (.int w), some (.int du), b8] S := fun du hdu e3 => by
    have ne1 := n1 bad
    have ne2 := n1 du
    generalize errW (some (true, bad)) = E1 at *
    generalize errW (some (true, du)) = E2 at *
    have s3 : ∀ c7, sAsg (dIf (dBool (dOp neW (dVar 6) (dC (.int 2)))) (dVar 3) (dVar 4)) (tName 7) [some (.loc p), some (.int x), some (.int y), some (.int bad), some (.int worse), some (.int num), some (.int w), c7, b8] S = .go .nx [some (.loc p), some (.int x), some (.int y), some (.int bad), some (.int worse), some (.int num), some (.int w), some (.int du), b8] S := fun c7 => by
      rw [← hdu]
      cases q : w == 2 <;> simp -implicitDefEqProofs [q]
    have s2 : ∀ c7, (sIf (dAnd (dBool (dOp neW (dVar 6) (dC (.int 1)))) (dBool (dOp neW (dCall 4 d__law_error (dCons (dVar 6) (dCons (dVar 1) (dCons (dVar 3) (dCons (dC (.int 0)) dNil))))) (dTup (dCons (dC (.bl true)) (dCons (dC (.bl false)) (dCons (dVar 3) dNil))))))) (sRet (dC (.bl false))) sNil) [some (.loc p), some (.int x), some (.int y), some (.int bad), some (.int worse), some (.int num), some (.int w), c7, b8] S = .go .nx [some (.loc p), some (.int x), some (.int y), some (.int bad), some (.int worse), some (.int num), some (.int w), c7, b8] S := fun c7 => by
      by_cases q : w = 1
      · subst q
        simp -implicitDefEqProofs
      · have q1 : (w == 1) = false := beq_false_of_ne q
        simp -implicitDefEqProofs [q1, e2 q, kt3, ne1]
    unfold r1B
    rw [sSeq_ap]
    have s1 : (sIf (dBool (dOp neW (dCall 4 d__law_error (dCons (dVar 6) (dCons (dVar 3) (dCons (dVar 2) (dCons (dC (.int 0)) dNil))))) (dTup (dCons (dC (.bl true)) (dCons (dC (.bl false)) (dCons (dVar 3) dNil)))))) (sRet (dC (.bl false))) sNil) [some (.loc p), some (.int x), some (.int y), some (.int bad), some (.int worse), some (.int num), some (.int w), b7, b8] S = .go .nx [some (.loc p), some (.int x), some (.int y), some (.int bad), some (.int worse), some (.int num), some (.int w), b7, b8] S := by
      simp -implicitDefEqProofs [e1, kt3, ne1]
    rw [s1, RsS.next_nx, sSeq_ap, s2, RsS.next_nx, sSeq_ap, s3, RsS.next_nx]
    simp -implicitDefEqProofs [e3, kt3, ne2, e4]
  by_cases q2 : w = 2
  · have e3 := err_ser (f := bad) (s := worse) (t := num) (z := worse) (w := w) (st := S) hw hwo (fun q => absurd q2 q) (fun _ => .inl rfl)
    exact ⟨_, run worse (by rw [q2]; rfl) e3⟩
  · have e3 := err_ser (f := bad) (s := worse) (t := num) (z := bad) (st := S) hw hbad (fun _ => .inl rfl) (fun q => absurd q q2)
    exact ⟨_, run bad (by rw [beq_false_of_ne q2]; rfl) e3⟩
/-- the numbers that are out of their bounds -/
theorem r2_ok (hw : w = 3 ∨ w = 4 ∨ w = 5) (hx : Ser x) (hy : Ser y) (hn : num < 0) : ∃ b8', (sSeq (sFor (dIt (dTup (dCons (dVar 5) (dCons (dC (.int 1001)) (dCons (dOp subW (dC (.int 1001)) (dVar 5)) dNil))))) (tName 8)
    (sIf (dBool (dOp neW (dCall 4 d__law_error (dCons (dVar 6) (dCons (dVar 1) (dCons (dVar 2) (dCons (dVar 8) dNil))))) (dTup (dCons (dC (.bl false)) (dCons (dC (.bl true)) (dCons (dVar 8) dNil))))))
    (sRet (dC (.bl false)))
    sNil))
    (sIf (dBool (dOp isNotNW (dCall 4 d__law_error (dCons (dVar 6) (dCons (dVar 1) (dCons (dVar 2) (dCons (dC (.int 1000)) dNil))))) (dC .non)))
    (sRet (dC (.bl false)))
    sNil)) [some (.loc p), some (.int x), some (.int y), some (.int bad), some (.int worse), some (.int num), some (.int w), b7, b8] S = .go .nx [some (.loc p), some (.int x), some (.int y), some (.int bad), some (.int worse), some (.int num), some (.int w), b7, b8'] S := by
  have e4 := err_none (f := x) (s := y) (t := 1000) (w := w) (st := S) (by omega) hx hy ⟨by omega, fun _ => by omega⟩
  obtain ⟨env', S', e, ⟨c8, rfl⟩, hS⟩ := forW_ok (chk := (ItW.mk [.int num, .int 1001, .int (1001 - num)] none).Chk) (t := tName 8) (b := (sIf (dBool (dOp neW (dCall 4 d__law_error (dCons (dVar 6) (dCons (dVar 1) (dCons (dVar 2) (dCons (dVar 8) dNil))))) (dTup (dCons (dC (.bl false)) (dCons (dC (.bl true)) (dCons (dVar 8) dNil))))))
    (sRet (dC (.bl false)))
    sNil))
    (fun _ env S' => (∃ c8, env = [some (.loc p), some (.int x), some (.int y), some (.int bad), some (.int worse), some (.int num), some (.int w), b7, c8]) ∧ S' = S) (fun _ _ _ _ => by simp) [.int num, .int 1001, .int (1001 - num)] 0 [some (.loc p), some (.int x), some (.int y), some (.int bad), some (.int worse), some (.int num), some (.int w), b7, b8] S
    (fun i v env S' hv hI => by
      obtain ⟨⟨c8, rfl⟩, rfl⟩ := hI
      obtain ⟨z, rfl, hz⟩ : ∃ z : Int, v = .int z ∧ (z < 0 ∨ 1000 < z) := by
        have := List.mem_of_getElem? hv
        simp only [List.mem_cons, List.not_mem_nil, or_false] at this
        rcases this with rfl | rfl | rfl
        · exact ⟨_, rfl, .inl hn⟩
        · exact ⟨_, rfl, .inr (by omega)⟩
        · exact ⟨_, rfl, .inr (by omega)⟩
      have e1 := err_num (f := x) (s := y) (t := z) (w := w) (st := S') (by omega) hx hy (by omega)
      have ne1 : neW (errW (some (false, z))) (.tup [.bl false, .bl true, .int z]) S' = .ok (.bl false) S' := err_neF
      generalize errW (some (false, z)) = E1 at *
      refine ⟨_, _, _, _, rfl, ?_, ⟨some (.int z), rfl⟩, rfl⟩
      simp -implicitDefEqProofs [e1, kt3, ne1]) ⟨⟨b8, rfl⟩, rfl⟩
  rw [hS] at e
  refine ⟨c8, ?_⟩
  rw [sSeq_ap, sFor_ap]
  simp -implicitDefEqProofs only [dIt_ap, dTup_ap, dCons_ap, dVar_ap, dC_ap, dOp_ap, List.getElem?_cons_zero, List.getElem?_cons_succ, Res.bind_ok, kCons1_ap, kOp1_ap, subW_i, dNil_ap, kCons2_ap, kt3, itOf_tup, Res.then_ok, kFor]
  rw [e]
  simp -implicitDefEqProofs [e4]
end
theorem errors_eq : b__law_errors_right = sSeq (sAsg (dOp ixW (dLst (dCons (dUn negW (dC (.int 1))) (dCons (dOp powW (dC (.int 2)) (dC (.int 32))) (dCons (dUn negW (dOp powW (dC (.int 2)) (dC (.int 40)))) (dCons (dOp addW (dOp addW (dOp powW (dC (.int 2)) (dC (.int 32))) (dC (.int 1))) (dCall 2 d__law_draw (dCons (dVar 0) (dCons (dOp powW (dC (.int 2)) (dC (.int 40))) dNil)))) dNil))))) (dCall 2 d__law_draw (dCons (dVar 0) (dCons (dC (.int 4)) dNil)))) (tName 3))
    (sSeq (sAsg (dOp ixW (dLst (dCons (dUn negW (dC (.int 2))) (dCons (dOp powW (dC (.int 2)) (dC (.int 33))) dNil))) (dCall 2 d__law_draw (dCons (dVar 0) (dCons (dC (.int 2)) dNil)))) (tName 4))
    (sSeq (sAsg (dOp ixW (dLst (dCons (dUn negW (dC (.int 1))) (dCons (dOp subW (dUn negW (dC (.int 1))) (dCall 2 d__law_draw (dCons (dVar 0) (dCons (dOp powW (dC (.int 10)) (dC (.int 20))) dNil)))) dNil))) (dCall 2 d__law_draw (dCons (dVar 0) (dCons (dC (.int 2)) dNil)))) (tName 5))
    (sSeq (sFor (dRange1 (dCons (dC (.int 6)) dNil)) (tName 6) r1B)
    (sSeq (sIf (dOr (dBool (dOp neW (dCall 4 d__law_error (dCons (dC (.int 1)) (dCons (dVar 1) (dCons (dVar 2) (dCons (dVar 5) dNil))))) (dTup (dCons (dC (.bl false)) (dCons (dC (.bl true)) (dCons (dVar 5) dNil)))))) (dBool (dOp isNotNW (dCall 4 d__law_error (dCons (dC (.int 1)) (dCons (dVar 1) (dCons (dVar 2) (dCons (dOp powW (dC (.int 10)) (dC (.int 20))) dNil))))) (dC .non))))
    (sRet (dC (.bl false)))
    sNil)
    (sSeq (sFor (dRange2 (dCons (dC (.int 3)) (dCons (dC (.int 6)) dNil))) (tName 6)
    (sSeq (sFor (dIt (dTup (dCons (dVar 5) (dCons (dC (.int 1001)) (dCons (dOp subW (dC (.int 1001)) (dVar 5)) dNil))))) (tName 8)
    (sIf (dBool (dOp neW (dCall 4 d__law_error (dCons (dVar 6) (dCons (dVar 1) (dCons (dVar 2) (dCons (dVar 8) dNil))))) (dTup (dCons (dC (.bl false)) (dCons (dC (.bl true)) (dCons (dVar 8) dNil))))))
    (sRet (dC (.bl false)))
    sNil))
    (sIf (dBool (dOp isNotNW (dCall 4 d__law_error (dCons (dVar 6) (dCons (dVar 1) (dCons (dVar 2) (dCons (dC (.int 1000)) dNil))))) (dC .non)))
    (sRet (dC (.bl false)))
    sNil)))
    (sRet (dC (.bl true)))))))) := rfl
theorem p20 {st : Store} : powW (.int 10) (.int 20) st = .ok (.int 100000000000000000000) st := pw _ (pow10 20 (by decide) (by decide)) (by decide)
theorem errors_ok {d k b : Nat} {ns : List Int} {x y : Int} {S : Store} (D : Deck d k ns b Y0 S) (hb : b ≤ 800000) (hx : Ser x) (hy : Ser y) : ∃ S', d__law_errors_right [.loc d, .int x, .int y] S = .ok (.bl true) S' ∧ Deck d k ns (b + 20) Y0 S' ∧ Kp d S S' := by
  have hl := D.lt
  obtain ⟨a1, s1, e1, a10, a11, D1, K1⟩ := draw_ok (m := 1099511627776) D (by omega) (by decide) (by decide +kernel)
  obtain ⟨bad, s2, r2, hbad, kl2, e2, ix2, D2, X2⟩ := pick (P := fun z => ¬ Ser z) (l := [-1, 4294967296, -1099511627776, 4294967297 + a1]) D1 (by omega) (by simp) (by simp) (fun z hz => by
    simp only [List.mem_cons, List.not_mem_nil, or_false] at hz
    rcases hz with rfl | rfl | rfl | rfl <;> (intro h; have := h.1; have := h.2; omega))
  obtain ⟨worse, s3, r3, hwo, kl3, e3, ix3, D3, X3⟩ := pick (P := fun z => ¬ Ser z) (l := [-2, 8589934592]) D2 (by omega) (by simp) (by simp) (fun z hz => by
    simp only [List.mem_cons, List.not_mem_nil, or_false] at hz
    rcases hz with rfl | rfl <;> (intro h; have := h.1; have := h.2; omega))
  obtain ⟨a4, s4, e4, a40, a41, D4, K4⟩ := draw_ok (m := 100000000000000000000) D3 (by omega) (by decide) (by decide +kernel)
  obtain ⟨num, s5, r5, hnum, kl5, e5, ix5, D5, X5⟩ := pick (P := fun z => z < 0) (l := [-1, -1 - a4]) D4 (by omega) (by simp) (by simp) (fun z hz => by
    simp only [List.mem_cons, List.not_mem_nil, or_false] at hz
    rcases hz with rfl | rfl <;> omega)
  simp only [List.map_cons, List.map_nil, List.length_cons, List.length_nil] at kl2 e2 kl3 e3 kl5 e5
  have hr1 := kR1_ok (st := s5) (j := 6) (by decide) (by decide)
  obtain ⟨env1, S1, f1, ⟨c6, c7, rfl⟩, hS1⟩ := forW_ok (chk := (ItW.mk (intsW 0 (6 : Int).toNat) none).Chk) (t := tName 6) (b := r1B)
    (fun _ env S => (∃ c6 c7, env = [some (.loc d), some (.int x), some (.int y), some (.int bad), some (.int worse), some (.int num), c6, c7, none]) ∧ S = s5) (fun _ _ _ _ => by simp) (intsW 0 (6 : Int).toNat) 0 [some (.loc d), some (.int x), some (.int y), some (.int bad), some (.int worse), some (.int num), none, none, none] s5
    (fun j w env S hw hI => by
      obtain ⟨⟨c6, c7, rfl⟩, rfl⟩ := hI
      obtain ⟨hj, rfl⟩ := ints_get hw
      have hj6 : j < 6 := hj
      obtain ⟨c7', e⟩ := r1_ok (p := d) (num := num) (b7 := c7) (b8 := none) (S := S) (w := 0 + (j : Int)) (by omega) hx hy hbad hwo
      exact ⟨_, _, _, _, rfl, e, ⟨some (.int (0 + (j : Int))), c7', rfl⟩, rfl⟩) ⟨⟨none, none, rfl⟩, rfl⟩
  rw [hS1] at f1
  have g1 := err_num (f := x) (s := y) (t := num) (w := 1) (st := s5) (.inl rfl) hx hy (.inl hnum)
  have g2 := err_none (f := x) (s := y) (t := 100000000000000000000) (w := 1) (st := s5) (by omega) hx hy ⟨by omega, fun q => absurd rfl q⟩
  have gn : neW (errW (some (false, num))) (.tup [.bl false, .bl true, .int num]) s5 = .ok (.bl false) s5 := err_neF
  have hr2 := kR2_ok (st := s5) (i := 3) (j := 6) (by decide) (by decide) (by decide) (by decide)
  obtain ⟨env2, S2, f2, ⟨d6, d8, rfl⟩, hS2⟩ := forW_ok (chk := (ItW.mk (intsW 3 ((6 : Int) - 3).toNat) none).Chk) (t := tName 6) (b := (sSeq (sFor (dIt (dTup (dCons (dVar 5) (dCons (dC (.int 1001)) (dCons (dOp subW (dC (.int 1001)) (dVar 5)) dNil))))) (tName 8)
    (sIf (dBool (dOp neW (dCall 4 d__law_error (dCons (dVar 6) (dCons (dVar 1) (dCons (dVar 2) (dCons (dVar 8) dNil))))) (dTup (dCons (dC (.bl false)) (dCons (dC (.bl true)) (dCons (dVar 8) dNil))))))
    (sRet (dC (.bl false)))
    sNil))
    (sIf (dBool (dOp isNotNW (dCall 4 d__law_error (dCons (dVar 6) (dCons (dVar 1) (dCons (dVar 2) (dCons (dC (.int 1000)) dNil))))) (dC .non)))
    (sRet (dC (.bl false)))
    sNil)))
    (fun _ env S => (∃ d6 d8, env = [some (.loc d), some (.int x), some (.int y), some (.int bad), some (.int worse), some (.int num), d6, c7, d8]) ∧ S = s5) (fun _ _ _ _ => by simp) (intsW 3 ((6 : Int) - 3).toNat) 0 [some (.loc d), some (.int x), some (.int y), some (.int bad), some (.int worse), some (.int num), c6, c7, none] s5
    (fun j w env S hw hI => by
      obtain ⟨⟨d6, d8, rfl⟩, rfl⟩ := hI
      obtain ⟨hj, rfl⟩ := ints_get hw
      have hj3 : j < 3 := hj
      obtain ⟨d8', e⟩ := r2_ok (p := d) (bad := bad) (worse := worse) (b7 := c7) (b8 := d8) (S := S) (w := 3 + (j : Int)) (by omega) hx hy hnum
      exact ⟨_, _, _, _, rfl, e, ⟨some (.int (3 + (j : Int))), d8', rfl⟩, rfl⟩) ⟨⟨c6, none, rfl⟩, rfl⟩
  rw [hS2] at f2
  have X : Ext d S s5 := (((K1.ext.trans X2).trans X3).trans K4.ext).trans X5
  obtain ⟨G1, G2, G3⟩ := gc_deck (v := .bl true) X D5 hl.1 hl.2 rfl
  refine ⟨_, ?_, G3.mono (by omega), G2⟩
  have q1 : (4294967296 : Int) + 1 = 4294967297 := rfl
  have w1 : sAsg (dOp ixW (dLst (dCons (dUn negW (dC (.int 1))) (dCons (dOp powW (dC (.int 2)) (dC (.int 32))) (dCons (dUn negW (dOp powW (dC (.int 2)) (dC (.int 40)))) (dCons (dOp addW (dOp addW (dOp powW (dC (.int 2)) (dC (.int 32))) (dC (.int 1))) (dCall 2 d__law_draw (dCons (dVar 0) (dCons (dOp powW (dC (.int 2)) (dC (.int 40))) dNil)))) dNil))))) (dCall 2 d__law_draw (dCons (dVar 0) (dCons (dC (.int 4)) dNil)))) (tName 3) (List.map some [W.loc d, .int x, .int y] ++ List.replicate (9 - [W.loc d, .int x, .int y].length) none) S = .go .nx [some (.loc d), some (.int x), some (.int y), some (.int bad), none, none, none, none, none] s2 := by
    simp -implicitDefEqProofs only [sAsg_ap, dOp_ap, dLst_ap, dCons_ap, dC_ap, dVar_ap, dCall_ap, dNil_ap, dUn_ap, negW_i, List.map_cons, List.map_nil, List.length_cons, List.length_nil, Nat.reduceAdd, Nat.reduceSub, List.replicate_succ, List.replicate_zero, List.cons_append, List.nil_append, List.getElem?_cons_zero, Res.bind_ok, kCons1_ap, kOp1_ap, kCons2_ap, p32, p40, addW_i, q1, kCall_2, e1, kl2]
    rw [show ((4 : Int)) = (((0 + 1 + 1 + 1 + 1 : Nat)) : Int) from rfl, e2]
    simp -implicitDefEqProofs only [Res.bind_ok, ix2, Res.then_ok, kAsg_n, List.set_cons_succ, List.set_cons_zero]
  have w2 : sAsg (dOp ixW (dLst (dCons (dUn negW (dC (.int 2))) (dCons (dOp powW (dC (.int 2)) (dC (.int 33))) dNil))) (dCall 2 d__law_draw (dCons (dVar 0) (dCons (dC (.int 2)) dNil)))) (tName 4) [some (.loc d), some (.int x), some (.int y), some (.int bad), none, none, none, none, none] s2 = .go .nx [some (.loc d), some (.int x), some (.int y), some (.int bad), some (.int worse), none, none, none, none] s3 := by
    simp -implicitDefEqProofs only [sAsg_ap, dOp_ap, dLst_ap, dCons_ap, dC_ap, dVar_ap, dCall_ap, dNil_ap, dUn_ap, negW_i, List.getElem?_cons_zero, Res.bind_ok, kCons1_ap, kOp1_ap, kCons2_ap, p33, kCall_2, kl3]
    have e3' : d__law_draw [.loc d, .int 2] (s2 ++ [.lst [.int (-2), .int 8589934592]]) = .ok (.int r3) s3 := e3
    rw [e3']
    simp -implicitDefEqProofs only [Res.bind_ok, ix3, Res.then_ok, kAsg_n, List.set_cons_succ, List.set_cons_zero]
  have w3 : sAsg (dOp ixW (dLst (dCons (dUn negW (dC (.int 1))) (dCons (dOp subW (dUn negW (dC (.int 1))) (dCall 2 d__law_draw (dCons (dVar 0) (dCons (dOp powW (dC (.int 10)) (dC (.int 20))) dNil)))) dNil))) (dCall 2 d__law_draw (dCons (dVar 0) (dCons (dC (.int 2)) dNil)))) (tName 5) [some (.loc d), some (.int x), some (.int y), some (.int bad), some (.int worse), none, none, none, none] s3 = .go .nx [some (.loc d), some (.int x), some (.int y), some (.int bad), some (.int worse), some (.int num), none, none, none] s5 := by
    simp -implicitDefEqProofs only [sAsg_ap, dOp_ap, dLst_ap, dCons_ap, dC_ap, dVar_ap, dCall_ap, dNil_ap, dUn_ap, negW_i, List.getElem?_cons_zero, Res.bind_ok, kCons1_ap, kOp1_ap, kCons2_ap, p20, kCall_2, e4, subW_i, kl5]
    have e5' : d__law_draw [.loc d, .int 2] (s4 ++ [.lst [.int (-1), .int (-1 - a4)]]) = .ok (.int r5) s5 := e5
    rw [e5']
    simp -implicitDefEqProofs only [Res.bind_ok, ix5, Res.then_ok, kAsg_n, List.set_cons_succ, List.set_cons_zero]
  unfold d__law_errors_right; rw [fnDen_ap, errors_eq]
  rw [sSeq_ap, w1, RsS.next_nx, sSeq_ap, w2, RsS.next_nx, sSeq_ap, w3, RsS.next_nx, sSeq_ap, sFor_ap]
  simp -implicitDefEqProofs only [dRange1_ap, dCons_ap, dC_ap, dNil_ap, Res.bind_ok, kCons1_ap, kCons2_ap, hr1, Res.then_ok, kFor]
  rw [f1, RsS.next_nx, sSeq_ap]
  have w4 : (sIf (dOr (dBool (dOp neW (dCall 4 d__law_error (dCons (dC (.int 1)) (dCons (dVar 1) (dCons (dVar 2) (dCons (dVar 5) dNil))))) (dTup (dCons (dC (.bl false)) (dCons (dC (.bl true)) (dCons (dVar 5) dNil)))))) (dBool (dOp isNotNW (dCall 4 d__law_error (dCons (dC (.int 1)) (dCons (dVar 1) (dCons (dVar 2) (dCons (dOp powW (dC (.int 10)) (dC (.int 20))) dNil))))) (dC .non))))
    (sRet (dC (.bl false)))
    sNil) [some (.loc d), some (.int x), some (.int y), some (.int bad), some (.int worse), some (.int num), c6, c7, none] s5 = .go .nx [some (.loc d), some (.int x), some (.int y), some (.int bad), some (.int worse), some (.int num), c6, c7, none] s5 := by
    generalize errW (some (false, num)) = E1 at *
    simp -implicitDefEqProofs [g1, kt3, gn, p20, g2]
  rw [w4, RsS.next_nx, sSeq_ap, sFor_ap]
  simp -implicitDefEqProofs only [dRange2_ap, dCons_ap, dC_ap, dNil_ap, Res.bind_ok, kCons1_ap, kCons2_ap, hr2, Res.then_ok, kFor]
  rw [f2]
  simp -implicitDefEqProofs only [RsS.next_nx, sRet_ap, dC_ap, Res.then_ok, kRet_ap, fnR_rt, G1]
end
end K25
namespace K25
open PySem PySem.Spec PyProof.Rows L2 MP
open Classical
noncomputable section
theorem seq_go {a b : DS} {env env' : EnvW} {st st' : Store} {r : RsS} (h : a env st = .go .nx env' st') (h2 : b env' st' = r) : sSeq a b env st = r := by
  rw [sSeq_ap, h, RsS.next_nx]; exact h2
def kCallP (n : Nat) (ix : List Nat) (den : List W → Store → Res W) (l : List W) (st : Store) : Res W := if l.length = n ∧ (permL ix l).length = n then den (permL ix l) st else .stuck
@[simp] theorem dCallP_ap {n : Nat} {ix : List Nat} {den : List W → Store → Res W} {m : D (List W)} {env : EnvW} {st : Store} : dCallP n ix den m env st = (m env st).bind (kCallP n ix den) := rfl
theorem kCallP_10 {den : List W → Store → Res W} {a b : W} {st : Store} : kCallP 2 [1, 0] den [a, b] st = den [b, a] st := by simp [kCallP, permL]
theorem kCallP_3210 {den : List W → Store → Res W} {a b c e : W} {st : Store} : kCallP 4 [3, 2, 1, 0] den [a, b, c, e] st = den [e, c, b, a] st := by simp [kCallP, permL]
theorem kCallP_210 {den : List W → Store → Res W} {a b c : W} {st : Store} : kCallP 3 [2, 1, 0] den [a, b, c] st = den [c, b, a] st := by simp [kCallP, permL]
theorem kCallP_201 {den : List W → Store → Res W} {a b c : W} {st : Store} : kCallP 3 [2, 0, 1] den [a, b, c] st = den [c, a, b] st := by simp [kCallP, permL]
/-- a comprehension with a condition that makes things of its own -/
theorem lcW_filterG {β : Type} {chk : Store → Prop} {env : EnvW} {i : Nat} {c : D Bool} {e : D W} (k g : β → W) (q : β → Bool) (I : Store → Prop) (hc : ∀ st, I st → chk st) : ∀ (l : List β) (acc : List W) (st : Store), I st → (∀ b ∈ l, ∀ st, I st → ∃ st2, c (env.set i (some (k b))) st = .ok (q b) st2 ∧ I st2 ∧ (q b = true → e (env.set i (some (k b))) st2 = .ok (g b) st2)) → acc.length + l.length ≤ sizeLine →
    ∃ st', lcW chk env (tName i) c e (l.map k) acc st = some (acc ++ (l.filter q).map g, st') ∧ I st'
  | [], acc, st, hI, _, _ => ⟨st, by unfold lcW; simp only [List.map_nil]; rw [if_pos (hc _ hI)]; simp, hI⟩
  | b :: l, acc, st, hI, hs, hl => by
    simp only [List.length_cons] at hl
    simp only [List.map_cons]
    obtain ⟨st2, h1, hI2, h2⟩ := hs b List.mem_cons_self st hI
    unfold lcW
    rw [if_pos (hc _ hI)]
    dsimp only [tName]
    rw [h1]
    cases hq : q b with
    | true =>
      obtain ⟨st', e', hI'⟩ := lcW_filterG (chk := chk) (env := env) (i := i) (c := c) (e := e) k g q I hc l (acc ++ [g b]) st2 hI2 (fun w m => hs w (List.mem_cons_of_mem _ m)) (by simp; omega)
      refine ⟨st', ?_, hI'⟩
      dsimp only
      rw [h2 hq]
      dsimp only
      rw [if_pos (by omega)]
      rw [e']
      simp [hq]
    | false =>
      obtain ⟨st', e', hI'⟩ := lcW_filterG (chk := chk) (env := env) (i := i) (c := c) (e := e) k g q I hc l acc st2 hI2 (fun w m => hs w (List.mem_cons_of_mem _ m)) (by omega)
      refine ⟨st', ?_, hI'⟩
      dsimp only
      rw [e']
      simp [hq]
theorem kLc_filterG {β : Type} {env : EnvW} {i : Nat} {c : D Bool} {e : D W} {st : Store} {src : Option Nat} (k g : β → W) (q : β → Bool) (I : Store → Prop) (l : List β) (hc : ∀ st, I st → (ItW.mk (l.map k) src).Chk st) (h : I st) (hs : ∀ b ∈ l, ∀ st, I st → ∃ st2, c (env.set i (some (k b))) st = .ok (q b) st2 ∧ I st2 ∧ (q b = true → e (env.set i (some (k b))) st2 = .ok (g b) st2)) (hl : l.length ≤ sizeLine) :
    ∃ st', kLc env (tName i) c e ⟨l.map k, src⟩ st = .ok (.loc st'.length) (st' ++ [.lst ((l.filter q).map g)]) ∧ I st' := by
  obtain ⟨st', e', hI'⟩ := lcW_filterG (chk := (ItW.mk (l.map k) src).Chk) (env := env) (i := i) (c := c) (e := e) k g q I hc l [] st h hs (by simpa using hl)
  refine ⟨st', ?_, hI'⟩
  unfold kLc
  simp only
  rw [e']
  simp
theorem head_find {q : Int → Bool} : ∀ (l : List Int), ((l.filter q).map W.int ++ [.non])[0]? = some (optW (l.find? q))
  | [] => rfl
  | a :: l => by
    cases h : q a with
    | true => rw [List.filter_cons_of_pos h, List.find?_cons_of_pos h]; rfl
    | false => rw [List.filter_cons_of_neg (by simp [h]), List.find?_cons_of_neg (by simp [h])]; exact head_find l
theorem opt_eq {o : Option Int} {st : Store} : eqW (optW o) (optW o) st = .ok (.bl true) st := by
  have h : Pic st (optW o) (optW o) := .pu _ (by cases o <;> rfl)
  rw [pic_eq h h, h.refl]
theorem p40c {st : Store} : powW (.int 10) (.int 40) st = .ok (.int 10000000000000000000000000000000000000000) st := pw _ (pow10 40 (by decide) (by decide)) (by decide)
theorem nums_eq {st : Store} {a c : Nat} {l : List Int} (h : st[a]? = some (.lst (l.map W.int))) (h' : st[c]? = some (.lst (l.map W.int))) (hl : l.length ≤ 8192) : eqW (.loc a) (.loc c) st = .ok (.bl true) st := by
  have p1 : ∀ w ∈ l.map W.int, pu w := fun w hw => by obtain ⟨z, _, rfl⟩ := List.mem_map.mp hw; rfl
  have P := Pic.ls a _ h (by simpa using hl) p1
  have P' := Pic.ls c _ h' (by simpa using hl) p1
  rw [pic_eq P P', P.refl]
/-- a row of serials that are drawn -/
theorem row_ok {d k b : Nat} {ns : List Int} {S : Store} {q : Nat} {sm : List Int} {env : EnvW} {x9 : W} (D : Deck d k ns b Y0 S) (hb : b ≤ 800000) (hq : S[q]? = some (.lst (sm.map W.int))) (hqd : q ≠ d) (hsm : ∀ z ∈ sm, Ser z) (h5 : sm.length = 5) (e0 : ∀ o, (env.set 9 o)[0]? = some (some (.loc d))) (e5 : ∀ o, (env.set 9 o)[5]? = some (some (.loc q))) : ∃ (r : Int) (S1 : Store) (l : List Int) (st' : Store), d__law_draw [.loc d, .int 8] S = .ok (.int r) S1 ∧ 0 ≤ r ∧ r < 8 ∧ kLc env (tName 9) dYes (dOp ixW (dVar 5) (dCall 2 d__law_draw (dCons (dVar 0) (dCons (dC (.int 5)) dNil)))) ⟨intsW 0 r.toNat, none⟩ S1 = .ok (.loc st'.length) (st' ++ [.lst (l.map W.int)]) ∧ l.length ≤ 8 ∧ (∀ z ∈ l, Ser z) ∧ Deck d k ns (b + 10) Y0 st' ∧ Kp d S st' := by
  obtain ⟨r, S1, e1, r0, r1, D1, K1⟩ := draw_ok (m := 8) D (by omega) (by decide) (by decide +kernel)
  obtain ⟨acc, st', e2, hn, l, rfl, hl, hs, D', K'⟩ := kLc_ok (env := env) (i := 9) (e := dOp ixW (dVar 5) (dCall 2 d__law_draw (dCons (dVar 0) (dCons (dC (.int 5)) dNil)))) (st := S1) (ws := intsW 0 r.toNat)
    (fun j acc st => ∃ l : List Int, acc = l.map W.int ∧ l.length = j ∧ (∀ z ∈ l, Ser z) ∧ Deck d k ns (b + 1 + j) Y0 st ∧ Kp d S st)
    (fun j w acc st hw hJ => by
      obtain ⟨hj, rfl⟩ := ints_get hw
      obtain ⟨l, rfl, hl, hs, D, K⟩ := hJ
      obtain ⟨t, T, e, t0, t1, DT, KT⟩ := draw_ok (m := 5) D (by omega) (by decide) (by decide +kernel)
      obtain ⟨u, rfl⟩ : ∃ u : Nat, t = (u : Int) := ⟨t.toNat, by omega⟩
      have hu : u < sm.length := by omega
      have hqT : T[q]? = some (.lst (sm.map W.int)) := by rw [(K.trans KT).keep _ hqd]; exact hq
      have ix := ix_nums hqT hu
      have hser : Ser (sm.getD u 0) := by
        rw [List.getD_eq_getElem?_getD, List.getElem?_eq_getElem hu]; exact hsm _ (List.getElem_mem _)
      refine ⟨.int (sm.getD u 0), T, ?_, l ++ [sm.getD u 0], by simp, by simp [hl], ?_, by rw [show b + 1 + (j + 1) = b + 1 + j + 1 by omega]; exact DT, K.trans KT⟩
      · generalize sm.getD u 0 = z at *
        generalize (u : Int) = U at *
        generalize (0 + (j : Int)) = J at *
        simp -implicitDefEqProofs only [dOp_ap, dVar_ap, e5, e0, Res.bind_ok, kOp1_ap, dCall_ap, dCons_ap, dC_ap, kCons1_ap, dNil_ap, kCons2_ap, kCall_2, e, ix]
      · intro z hz
        rcases List.mem_append.mp hz with h | h
        · exact hs z h
        · rw [List.mem_singleton.mp h]; exact hser) (by rw [show (intsW 0 r.toNat).length = r.toNat by simp [intsW]]; exact Nat.le_trans (show r.toNat ≤ 8 by omega) (by decide)) ⟨[], rfl, rfl, by simp, D1.mono (by omega), K1⟩
  have hr : (intsW 0 r.toNat).length = r.toNat := by simp [intsW]
  rw [hr] at hl D'
  exact ⟨r, S1, l, st', e1, r0, r1, e2, by omega, hs, D'.mono (by omega), K'⟩
end
end K25
namespace K25
open PySem PySem.Spec PyProof.Rows L2 MP
open Classical
noncomputable section
theorem repr_ser {z : Int} (h : Ser z) : ∃ s, okS s = true ∧ ∀ st, reprW [.int z] st = .ok (.str s) st := repr_shw (st := []) (shw_ser (by have := h.1; have := h.2; omega))
theorem repr_bl (b : Bool) : ∃ s, okS s = true ∧ ∀ st, reprW [.bl b] st = .ok (.str s) st := repr_shw (st := []) (.bl b)
theorem repr_opt {o : Option Int} (h : ∀ z, o = some z → Ser z) : ∃ s, okS s = true ∧ ∀ st, reprW [optW o] st = .ok (.str s) st := by
  cases o with
  | none => exact repr_shw (st := []) .non
  | some z => exact repr_ser (h z rfl)
theorem ne_same {s : Str} (h : okS s = true) {st : Store} : neW (.str s) (.str s) st = .ok (.bl false) st := by rw [neW_str h h, beq_self_eq_true]; rfl
theorem eq_same {s : Str} (h : okS s = true) {st : Store} : eqW (.str s) (.str s) st = .ok (.bl true) st := by rw [eqW_str h h, beq_self_eq_true]
theorem ser_mod (z : Int) : Ser (z % 4294967296) := by constructor <;> omega
theorem circle_ok {d k b : Nat} {ns : List Int} {x y : Int} {S : Store} (D : Deck d k ns b Y0 S) (hb : b ≤ 700000) (hx : Ser x) (hy : Ser y) : ∃ S', d__law_circle_right [.loc d, .int x, .int y] S = .ok (.bl true) S' ∧ Deck d k ns (b + 20) Y0 S' ∧ Kp d S S' := by
  have hl := D.lt
  obtain ⟨t1, ht1, r1⟩ := repr_bl (newB x y)
  obtain ⟨t2, ht2, r2⟩ := repr_bl (newB y x)
  obtain ⟨a1, s1, e1, a10, a11, D1, K1⟩ := draw_ok (m := 5) D (by omega) (by decide) (by decide +kernel)
  obtain ⟨a2, s2, e2, a20, a21, D2, K2⟩ := draw_ok (m := 4294967296) D1 (by omega) (by decide) (by decide +kernel)
  obtain ⟨a3, s3, e3, a30, a31, D3, K3⟩ := draw_ok (m := 10000000000000000000000000000000000000000) D2 (by omega) (by decide) (by decide +kernel)
  obtain ⟨c, s4, r4, c0, kl4, e4, ix4, D4, X4⟩ := pick (P := fun z => 0 ≤ z) (l := [a1, a2, a3]) D3 (by omega) (by simp) (by simp) (fun z hz => by
    simp only [List.mem_cons, List.not_mem_nil, or_false] at hz
    rcases hz with rfl | rfl | rfl <;> omega)
  simp only [List.map_cons, List.map_nil, List.length_cons, List.length_nil] at kl4 e4
  rw [show (((0 + 1 + 1 + 1 : Nat)) : Int) = 3 from rfl] at e4
  have X04 : Ext d S s4 := ((K1.ext.trans K2.ext).trans K3.ext).trans X4
  have fu : ∀ st, d_further [.int x, .int c] st = .ok (.int ((x + c) % 4294967296)) st := fun st => further_ok hx c0
  have md : ∀ z st, modW (.int z) (.int 4294967296) st = .ok (.int (z % 4294967296)) st := fun z st => mod_okQ (by decide)
  have hf := ser_mod (x + c)
  have hg := ser_mod (x + 2147483648)
  have mf : ∀ st, modW (.int (x + c)) (.int 4294967296) st = .ok (.int ((x + c) % 4294967296)) st := fun st => md _ st
  have mg : ∀ st, modW (.int (x + 2147483648)) (.int 4294967296) st = .ok (.int ((x + 2147483648) % 4294967296)) st := fun st => md _ st
  generalize (x + c) % 4294967296 = f at *
  generalize (x + 2147483648) % 4294967296 = g at *
  clear md
  obtain ⟨t3, ht3, r3⟩ := repr_ser hf
  obtain ⟨a5, s5, e5, a50, a51, D5, K5⟩ := draw_ok (m := 4294967296) D4 (by omega) (by decide) (by decide +kernel)
  have X05 := X04.trans K5.ext
  have l5 : S.length ≤ s5.length := X05.le
  obtain ⟨sm, hsm⟩ : ∃ sm : List Int, sm = [x, y, f, g, a5] := ⟨_, rfl⟩
  have kl6 : kLst [.int x, .int y, .int f, .int g, .int a5] s5 = .ok (.loc s5.length) (s5 ++ [.lst (sm.map W.int)]) := by rw [hsm]; exact lst5 (by simp)
  have sms : ∀ z ∈ sm, Ser z := fun z hz => by
    rw [hsm] at hz
    simp only [List.mem_cons, List.not_mem_nil, or_false] at hz
    rcases hz with rfl | rfl | rfl | rfl | rfl
    · exact hx
    · exact hy
    · exact hf
    · exact hg
    · constructor <;> omega
  have sm5 : sm.length = 5 := by rw [hsm]; rfl
  clear hsm
  obtain ⟨T, hT⟩ : ∃ T, T = s5 ++ [Ob.lst (sm.map W.int)] := ⟨_, rfl⟩
  rw [← hT] at kl6
  have DT : Deck d k ns (b + 5) Y0 T := by rw [hT]; exact D5.app _
  have XT : Ext d S T := by rw [hT]; exact X05.trans (.app _)
  have gT : T[s5.length]? = some (.lst (sm.map W.int)) := by rw [hT]; simp
  obtain ⟨q, hq⟩ : ∃ q, q = s5.length := ⟨_, rfl⟩
  rw [← hq] at kl6 gT
  have hqd : q ≠ d := by omega
  obtain ⟨r, S1, l, s7, e6, r0, r8, e7, l8, ls, D7, K7⟩ := row_ok (x9 := .non) (env := [some (.loc d), some (.int x), some (.int y), some (.int c), some (.int f), some (.loc q), none, none, none, none, none, none]) DT (by omega) gT hqd sms sm5 (fun o => rfl) (fun o => rfl)
  obtain ⟨U, hU⟩ : ∃ U, U = s7 ++ [Ob.lst (l.map W.int)] := ⟨_, rfl⟩
  rw [← hU] at e7
  have DU : Deck d k ns (b + 15) Y0 U := by rw [hU]; exact (D7.mono (by omega)).app _
  have XU : Ext d S U := by rw [hU]; exact (XT.trans K7.ext).trans (.app _)
  have gU : U[s7.length]? = some (.lst (l.map W.int)) := by rw [hU]; simp
  obtain ⟨w, hw⟩ : ∃ w, w = s7.length := ⟨_, rfl⟩
  rw [← hw] at e7 gU
  have wU : w ≠ U.length := Nat.ne_of_lt (List.getElem?_eq_some_iff.mp gU).1
  have kr := kR1_ok (st := S1) (j := r) (by omega) (by omega)
  obtain ⟨s8, e8, X8⟩ := kLc_filterG (env := [some (.loc d), some (.int x), some (.int y), some (.int c), some (.int f), some (.loc q), some (.loc w), none, none, none, none, none]) (i := 10) (c := dBool (dApp allW (dCons (dLc (dIt (dVar 6)) [11] (tName 11) dYes (dOrV (dOp eqW (dVar 10) (dVar 11)) (dCall 2 d__law_is_newer (dCons (dVar 10) (dCons (dVar 11) dNil))))) dNil))) (e := dVar 10) (st := U) (src := some w) W.int W.int (bestB l) (fun st => Ext U.length U st) l (fun st h => by simpa using (h.get gU wU)) .refl (fun s hs st h => by
    have gS : st[w]? = some (.lst (l.map W.int)) := h.get gU wU
    have it := itOf_loc gS
    have e2 := kLc_mapB (env := [some (.loc d), some (.int x), some (.int y), some (.int c), some (.int f), some (.loc q), some (.loc w), none, none, none, some (.int s), none]) (i := 11) (e := dOrV (dOp eqW (dVar 10) (dVar 11)) (dCall 2 d__law_is_newer (dCons (dVar 10) (dCons (dVar 11) dNil)))) (st := st) (src := some w) W.int (fun o => W.bl (s == o || newB s o)) l (by simpa using gS) (fun o ho => by
      have nw := lnewer_ok (x := s) (y := o) (st := st)
      cases q : s == o <;> simp -implicitDefEqProofs [q, nw]) (Nat.le_trans l8 (by decide))
    have e3 : allW [.loc st.length] (st ++ [.lst (l.map fun o => W.bl (s == o || newB s o))]) = .ok (.bl (bestB l s)) (st ++ [.lst (l.map fun o => W.bl (s == o || newB s o))]) := all_here
    obtain ⟨T2, hT2⟩ : ∃ T2, T2 = st ++ [Ob.lst (l.map fun o => W.bl (s == o || newB s o))] := ⟨_, rfl⟩
    rw [← hT2] at e2 e3
    refine ⟨T2, ?_, by rw [hT2]; exact h.trans (.app _), fun _ => rfl⟩
    simp -implicitDefEqProofs only [dBool_ap, dApp_ap, dCons_ap, dLc_ap, dIt_ap, dVar_ap, List.set_cons_succ, List.set_cons_zero, List.getElem?_cons_zero, List.getElem?_cons_succ, Res.bind_ok, it, wipeW]
    rw [e2]
    simp -implicitDefEqProofs only [Res.bind_ok, kCons1_ap, dNil_ap, kCons2_ap, e3, kBool_ap]) (Nat.le_trans l8 (by decide))
  obtain ⟨V, hV⟩ : ∃ V, V = s8 ++ [Ob.lst ((l.filter (bestB l)).map W.int)] := ⟨_, rfl⟩
  rw [← hV] at e8
  obtain ⟨v, hv⟩ : ∃ v, v = s8.length := ⟨_, rfl⟩
  have gVv : V[v]? = some (.lst ((l.filter (bestB l)).map W.int)) := by rw [hV, hv]; simp
  rw [← hv] at e8
  have XV : Ext U.length U V := by rw [hV]; exact X8.trans (.app _)
  have gV : V[w]? = some (.lst (l.map W.int)) := XV.get gU wU
  have e9 := listA_loc gV
  obtain ⟨Z, hZ⟩ : ∃ Z, Z = V ++ [Ob.lst (l.map W.int)] := ⟨_, rfl⟩
  rw [← hZ] at e9
  have gZw : Z[w]? = some (.lst (l.map W.int)) := by rw [hZ]; exact get_app _ gV
  have gZv : Z[v]? = some (.lst ((l.filter (bestB l)).map W.int)) := by rw [hZ]; exact get_app _ gVv
  obtain ⟨u, hu⟩ : ∃ u, u = V.length := ⟨_, rfl⟩
  rw [← hu] at e9
  have gZu : Z[u]? = some (.lst (l.map W.int)) := by rw [hZ, hu]; simp
  have n1 := newest_ok gZw (by omega) ls
  obtain ⟨t4, ht4, r4'⟩ := repr_opt (o := l.find? (bestB l)) (fun z hz => ls z (List.mem_of_find?_eq_some hz))
  have k1 : kLst [.non] Z = .ok (.loc Z.length) (Z ++ [.lst [.non]]) := lst5 (by simp)
  obtain ⟨Z1, hZ1⟩ : ∃ Z1, Z1 = Z ++ [Ob.lst [W.non]] := ⟨_, rfl⟩
  rw [← hZ1] at k1
  have lb : (l.filter (bestB l)).length ≤ l.length := List.length_filter_le _ _
  have ad : addW (.loc v) (.loc Z.length) Z1 = .ok (.loc Z1.length) (Z1 ++ [.lst ((l.filter (bestB l)).map W.int ++ [.non])]) := addW_l (by rw [hZ1]; exact get_app _ gZv) (by rw [hZ1]; simp) (by simp; omega)
  obtain ⟨Z2, hZ2⟩ : ∃ Z2, Z2 = Z1 ++ [Ob.lst ((l.filter (bestB l)).map W.int ++ [.non])] := ⟨_, rfl⟩
  rw [← hZ2] at ad
  have gz : ∀ {i o}, Z[i]? = some o → Z2[i]? = some o := fun h => by rw [hZ2, hZ1]; exact get_app _ (get_app _ h)
  have ix0 : ixW (.loc Z1.length) (.int 0) Z2 = .ok (optW (l.find? (bestB l))) Z2 := ixI (j := 0) (by rw [hZ2]; simp) (head_find l)
  have n2 := newest_ok (gz gZw) (by omega) ls
  have eo := opt_eq (o := l.find? (bestB l)) (st := Z2)
  have er := nums_eq (gz gZw) (gz gZu) (by omega)
  have XZ : Ext U.length U Z2 := by rw [hZ2, hZ1, hZ]; exact ((XV.trans (.app _)).trans (.app _)).trans (.app _)
  have lU := DU.lt
  have DZ : Deck d k ns (b + 15) Y0 Z2 := DU.of (XZ.keep _ lU.1 (Nat.ne_of_lt lU.1)) (XZ.keep _ lU.2 (Nat.ne_of_lt lU.2))
  have XZ' : Ext d S Z2 := XU.trans ⟨XZ.le, fun i hi _ => XZ.keep i hi (Nat.ne_of_lt hi)⟩
  obtain ⟨G1, G2, G3⟩ := gc_deck (v := .bl true) XZ' DZ hl.1 hl.2 rfl
  refine ⟨_, ?_, G3.mono (by omega), G2⟩
  generalize optW (l.find? (bestB l)) = O at *
  have body : b__law_circle_right [some (.loc d), some (.int x), some (.int y), none, none, none, none, none, none, none, none, none] S = .go (.rt (.bl true)) [some (.loc d), some (.int x), some (.int y), some (.int c), some (.int f), some (.loc q), some (.loc w), some (.loc v), some (.loc u), none, none, none] Z2 := by
    unfold b__law_circle_right
    refine seq_go (env' := [some (.loc d), some (.int x), some (.int y), none, none, none, none, none, none, none, none, none]) (st' := S) ?_ ?_
    · simp -implicitDefEqProofs [newer_ok hx hy, lnewer_ok, r1, ne_same ht1]
    refine seq_go (env' := [some (.loc d), some (.int x), some (.int y), none, none, none, none, none, none, none, none, none]) (st' := S) ?_ ?_
    · simp -implicitDefEqProofs [newer_ok hy hx, lnewer_ok, r2, ne_same ht2, kCallP_10]
    refine seq_go (env' := [some (.loc d), some (.int x), some (.int y), some (.int c), none, none, none, none, none, none, none, none]) (st' := s4) ?_ ?_
    · simp -implicitDefEqProofs only [sAsg_ap, dOp_ap, dLst_ap, dCons_ap, dC_ap, dVar_ap, dCall_ap, dNil_ap, List.getElem?_cons_zero, Res.bind_ok, kCons1_ap, kOp1_ap, kCons2_ap, p32, p40c, kCall_2, e1, e2, e3, kl4, e4, ix4, Res.then_ok, kAsg_n, List.set_cons_succ, List.set_cons_zero]
    refine seq_go (env' := [some (.loc d), some (.int x), some (.int y), some (.int c), some (.int f), none, none, none, none, none, none, none]) (st' := s4) ?_ ?_
    · simp -implicitDefEqProofs [fu]
    refine seq_go (env' := [some (.loc d), some (.int x), some (.int y), some (.int c), some (.int f), none, none, none, none, none, none, none]) (st' := s4) ?_ ?_
    · simp -implicitDefEqProofs [fu, mf, p32, r3, ne_same ht3, kCallP_10]
    refine seq_go (env' := [some (.loc d), some (.int x), some (.int y), some (.int c), some (.int f), some (.loc q), none, none, none, none, none, none]) (st' := T) ?_ ?_
    · simp -implicitDefEqProofs only [sAsg_ap, dOp_ap, dLst_ap, dCons_ap, dC_ap, dVar_ap, dCall_ap, dApp_ap, dNil_ap, List.getElem?_cons_zero, List.getElem?_cons_succ, Res.bind_ok, kCons1_ap, kOp1_ap, kCons2_ap, addW_i, intOf_i, p31, p32, mg, kCall_2, e5, kl6, Res.then_ok, kAsg_n, List.set_cons_succ, List.set_cons_zero]
    refine seq_go (env' := [some (.loc d), some (.int x), some (.int y), some (.int c), some (.int f), some (.loc q), some (.loc w), none, none, none, none, none]) (st' := U) ?_ ?_
    · simp -implicitDefEqProofs only [sAsg_ap, dLc_ap, dRange1_ap, dCons_ap, dC_ap, dVar_ap, dCall_ap, dNil_ap, List.getElem?_cons_zero, List.getElem?_cons_succ, Res.bind_ok, kCons1_ap, kCons2_ap, kCall_2, e6, kr, wipeW, List.set_cons_succ, List.set_cons_zero]
      rw [e7]
      simp -implicitDefEqProofs only [Res.then_ok, kAsg_n, List.set_cons_succ, List.set_cons_zero]
    refine seq_go (env' := [some (.loc d), some (.int x), some (.int y), some (.int c), some (.int f), some (.loc q), some (.loc w), some (.loc v), none, none, none, none]) (st' := V) ?_ ?_
    · have it := itOf_loc gU
      simp -implicitDefEqProofs only [sAsg_ap, dLc_ap (m := dIt (dVar 6)) (vs := [10]), dIt_ap, dVar_ap, List.getElem?_cons_zero, List.getElem?_cons_succ, Res.bind_ok, it, wipeW, List.set_cons_succ, List.set_cons_zero]
      rw [e8]
      simp -implicitDefEqProofs only [Res.then_ok, kAsg_n, List.set_cons_succ, List.set_cons_zero]
    refine seq_go (env' := [some (.loc d), some (.int x), some (.int y), some (.int c), some (.int f), some (.loc q), some (.loc w), some (.loc v), some (.loc u), none, none, none]) (st' := Z) ?_ ?_
    · simp -implicitDefEqProofs [e9]
    simp -implicitDefEqProofs only [sRet_ap, dAndV_ap, dOp_ap, dApp_ap, dCons_ap, dVar_ap, dCall_ap, dNil_ap, dLst_ap, dC_ap, List.getElem?_cons_zero, List.getElem?_cons_succ, Res.bind_ok, kCons1_ap, kOp1_ap, kCons2_ap, kCall_1, n1, r4', k1, ad, ix0, eq_same ht4, kAndV_t, n2, eo, er, Res.then_ok, kRet_ap]
  unfold d__law_circle_right; rw [fnDen_ap]
  simp -implicitDefEqProofs only [List.map_cons, List.map_nil, List.length_cons, List.length_nil, Nat.reduceAdd, Nat.reduceSub, List.replicate_succ, List.replicate_zero, List.cons_append, List.nil_append]
  rw [body, fnR_rt, G1]
end
end K25
namespace K25
open PySem PySem.Spec PyProof.Rows L2 MP
open Classical
noncomputable section
def App (T U : Store) : Prop := ∃ g, U = T ++ g
theorem App.refl {T : Store} : App T T := ⟨[], by simp⟩
theorem App.one {T : Store} {o : Ob} : App T (T ++ [o]) := ⟨_, rfl⟩
theorem App.trans {T U V : Store} (h : App T U) (h' : App U V) : App T V := by
  obtain ⟨g, rfl⟩ := h
  obtain ⟨g', rfl⟩ := h'
  exact ⟨g ++ g', by simp⟩
theorem App.get {T U : Store} {i : Nat} {o : Ob} (h : App T U) (e : T[i]? = some o) : U[i]? = some o := by
  obtain ⟨g, rfl⟩ := h
  exact get_app _ e
theorem App.le {T U : Store} (h : App T U) : T.length ≤ U.length := by
  obtain ⟨g, rfl⟩ := h
  simp
theorem App.ext {p : Nat} {T U : Store} (h : App T U) : Ext p T U := by
  obtain ⟨g, rfl⟩ := h
  exact .app _
/-- an expression that gives a list, made or not, where a given list lies -/
def MkW (m : D W) (env : EnvW) (w : Nat) (ws out : List W) : Prop := ∀ T : Store, T[w]? = some (.lst ws) → ∃ U p, m env T = .ok (.loc p) U ∧ App T U ∧ U[p]? = some (.lst out)
def Mk (m : D W) (env : EnvW) (w : Nat) (ws out : List W) : Prop := ∀ T : Store, T[w]? = some (.lst ws) → ∃ U p, m env T = .ok (.loc p) U ∧ App T U ∧ T.length ≤ p ∧ U[p]? = some (.lst out)
section
variable {m m1 m2 : D W} {env : EnvW} {w : Nat} {ws out o1 o2 : List W}
theorem Mk.old (h : Mk m env w ws out) : MkW m env w ws out := fun T hT => by
  obtain ⟨U, p, e, a, _, h'⟩ := h T hT
  exact ⟨U, p, e, a, h'⟩
theorem mk_var {i : Nat} (h : env[i]? = some (some (.loc w))) : MkW (dVar i) env w ws ws := fun T hT => ⟨T, w, by simp [h], .refl, hT⟩
theorem mk_add (h1 : MkW m1 env w ws o1) (h2 : MkW m2 env w ws o2) (hl : o1.length + o2.length ≤ 8192) : Mk (dOp addW m1 m2) env w ws (o1 ++ o2) := fun T hT => by
  obtain ⟨U, p1, e1, A1, a1⟩ := h1 T hT
  obtain ⟨V, p2, e2, A2, a2⟩ := h2 U (A1.get hT)
  have ad := addW_l (A2.get a1) a2 hl
  refine ⟨V ++ [.lst (o1 ++ o2)], V.length, ?_, (A1.trans A2).trans .one, (A1.trans A2).le, by simp⟩
  simp only [dOp_ap, e1, Res.bind_ok, kOp1_ap, e2, ad]
theorem mk_sl {lo hi : D (Option Int)} {l h : Option Int} (h1 : MkW m1 env w ws o1) (hlo : ∀ T : Store, T[w]? = some (.lst ws) → lo env T = .ok l T) (hhi : ∀ T : Store, T[w]? = some (.lst ws) → hi env T = .ok h T) : Mk (dSl m1 lo hi) env w ws (cutW o1 l h) := fun T hT => by
  obtain ⟨U, p1, e1, A1, a1⟩ := h1 T hT
  have hT' : U[w]? = some (.lst ws) := A1.get hT
  have sl : slW (.loc p1) l h U = .ok (.loc U.length) (U ++ [.lst (cutW o1 l h)]) := by
    unfold slW lstW; simp only [a1]
  refine ⟨U ++ [.lst (cutW o1 l h)], U.length, ?_, A1.trans .one, A1.le, by simp⟩
  simp only [dSl_ap, e1, Res.bind_ok, kSl1_ap, hlo _ hT', kSl2_ap, hhi _ hT', sl]
theorem mk_lst {ml : D (List W)} (h : ∀ T : Store, T[w]? = some (.lst ws) → ml env T = .ok out T) (hl : out.length ≤ 50) : Mk (dLst ml) env w ws out := fun T hT =>
  ⟨T ++ [.lst out], T.length, by rw [dLst_ap, h T hT]; exact lst5 hl, .one, Nat.le_refl _, by simp⟩
theorem mk_rev (h1 : MkW m1 env w ws o1) : Mk (dUn revW m1) env w ws o1.reverse := fun T hT => by
  obtain ⟨U, p1, e1, A1, a1⟩ := h1 T hT
  have rv := rev_loc a1
  refine ⟨U ++ [.lst o1.reverse], U.length, ?_, A1.trans .one, A1.le, by simp⟩
  simp only [dUn_ap, e1, Res.bind_ok, rv]
/-- a row of such lists -/
def MkL (P : List W → Prop) (m : D (List W)) (env : EnvW) (w : Nat) (ws : List W) (n : Nat) : Prop := ∀ T : Store, T[w]? = some (.lst ws) → ∃ (U : Store) (ps : List Nat), m env T = .ok (ps.map W.loc) U ∧ App T U ∧ ps.length = n ∧ ∀ p ∈ ps, T.length ≤ p ∧ ∃ out, U[p]? = some (.lst out) ∧ P out
theorem mkl_nil {P : List W → Prop} : MkL P dNil env w ws 0 := fun T hT => ⟨T, [], rfl, .refl, rfl, by simp⟩
theorem mkl_cons {P : List W → Prop} {ml : D (List W)} {n : Nat} (h : Mk m env w ws out) (hP : P out) (hl : MkL P ml env w ws n) : MkL P (dCons m ml) env w ws (n + 1) := fun T hT => by
  obtain ⟨U, p1, e1, A1, l1, a1⟩ := h T hT
  obtain ⟨V, ps, e2, A2, hn, h2⟩ := hl U (A1.get hT)
  refine ⟨V, p1 :: ps, ?_, A1.trans A2, by simp [hn], ?_⟩
  · simp only [dCons_ap, e1, Res.bind_ok, kCons1_ap, e2, kCons2_ap, List.map_cons]
  · intro p hp
    rcases List.mem_cons.mp hp with rfl | hp
    · exact ⟨l1, _, A2.get a1, hP⟩
    · obtain ⟨q1, q2⟩ := h2 p hp
      exact ⟨Nat.le_trans A1.le q1, q2⟩
end
theorem cut_int (l : List Int) (lo hi : Option Int) : ∃ l' : List Int, cutW (l.map W.int) lo hi = l'.map W.int ∧ (∀ z ∈ l', z ∈ l) ∧ l'.length ≤ l.length := by
  unfold cutW
  rw [← List.map_drop, ← List.map_take]
  exact ⟨_, rfl, fun z h => List.mem_of_mem_drop (List.mem_of_mem_take h), by rw [List.length_take, List.length_drop]; omega⟩
/-- a list of serials, not too long -/
def Sers (n : Nat) (out : List W) : Prop := ∃ l : List Int, out = l.map W.int ∧ (∀ z ∈ l, Ser z) ∧ l.length ≤ n
theorem Sers.app {n k : Nat} {a c : List W} (h : Sers n a) (h' : Sers k c) : Sers (n + k) (a ++ c) := by
  obtain ⟨l, rfl, h1, h2⟩ := h
  obtain ⟨l', rfl, h1', h2'⟩ := h'
  refine ⟨l ++ l', by simp, fun z hz => ?_, by simp; omega⟩
  rcases List.mem_append.mp hz with h | h
  · exact h1 z h
  · exact h1' z h
theorem Sers.mono {n k : Nat} {a : List W} (h : Sers n a) (hk : n ≤ k) : Sers k a := by
  obtain ⟨l, rfl, h1, h2⟩ := h
  exact ⟨l, rfl, h1, by omega⟩
theorem Sers.len {n : Nat} {a : List W} (h : Sers n a) : a.length ≤ n := by
  obtain ⟨l, rfl, h1, h2⟩ := h
  simpa using h2
theorem Sers.cut {n : Nat} {a : List W} (h : Sers n a) (lo hi : Option Int) : Sers n (cutW a lo hi) := by
  obtain ⟨l, rfl, h1, h2⟩ := h
  obtain ⟨l', e, h3, h4⟩ := cut_int l lo hi
  exact ⟨l', e, fun z hz => h1 z (h3 z hz), by omega⟩
theorem Sers.rev {n : Nat} {a : List W} (h : Sers n a) : Sers n a.reverse := by
  obtain ⟨l, rfl, h1, h2⟩ := h
  exact ⟨l.reverse, by simp, fun z hz => h1 z (List.mem_reverse.mp hz), by simpa using h2⟩
theorem sers1 {z : Int} (h : Ser z) : Sers 1 [.int z] := ⟨[z], rfl, by simpa using h, by simp⟩
theorem sers2 {z y : Int} (h : Ser z) (h' : Ser y) : Sers 2 [.int z, .int y] := ⟨[z, y], rfl, by simp; exact ⟨h, h'⟩, by simp⟩
end
end K25
namespace K25
open PySem PySem.Spec PyProof.Rows L2 MP
open Classical
noncomputable section
/-- a list of lists that is being gathered -/
structure Fnd (d k b : Nat) (ns : List Int) (S : Store) (F w : Nat) (ws : List W) (P : List W → Prop) (T : Store) (ps : List Nat) : Prop where
  dk : Deck d k ns b Y0 T
  ex : Ext d S T
  fd : T[F]? = some (.lst (ps.map W.loc))
  wy : T[w]? = some (.lst ws)
  it : ∀ p ∈ ps, S.length ≤ p ∧ p ≠ F ∧ ∃ out, T[p]? = some (.lst out) ∧ P out
  sF : S.length ≤ F
  wF : w ≠ F
  wd : w ≠ d
  dS : d < S.length
  kS : k < S.length
section
variable {d k b c : Nat} {ns : List Int} {S T T' : Store} {F w : Nat} {ws out : List W} {P : List W → Prop} {ps : List Nat} {m : D W} {env : EnvW} {i : Nat}
theorem Fnd.ext (H : Fnd d k b ns S F w ws P T ps) (X : Ext d T T') (D : Deck d k ns c Y0 T') : Fnd d k c ns S F w ws P T' ps where
  dk := D
  ex := H.ex.trans X
  fd := X.get H.fd (by have := H.sF; have := H.dS; omega)
  wy := X.get H.wy H.wd
  it := fun p hp => by
    obtain ⟨h1, h2, out, h3, h4⟩ := H.it p hp
    exact ⟨h1, h2, out, X.get h3 (by have := H.dS; omega), h4⟩
  sF := H.sF
  wF := H.wF
  wd := H.wd
  dS := H.dS
  kS := H.kS
theorem fnd_app (H : Fnd d k b ns S F w ws P T ps) (hm : Mk m env w ws out) (hP : P out) (he : env[i]? = some (some (.loc F))) (hn : ps.length ≤ 1000) : ∃ T' p, sExpr (dBm tyL appendW (dVar i) (dCons m dNil)) env T = .go .nx env T' ∧ Fnd d k b ns S F w ws P T' (ps ++ [p]) := by
  obtain ⟨U, p, e, A, lp, hp⟩ := hm T H.wy
  have hF : F < T.length := (List.getElem?_eq_some_iff.mp H.fd).1
  have fU := A.get H.fd
  have hFU : F < U.length := (List.getElem?_eq_some_iff.mp fU).1
  have kb : ∀ r, kBm tyL appendW r env (.loc F) T = (r env T).bind (appendW (.loc F)) := fun r => kBm_l appendW H.fd
  have ap := app_nums (w := .loc p) fU (by rw [List.length_map]; exact Nat.lt_of_le_of_lt hn (by decide))
  have keep : ∀ j o, T[j]? = some o → j ≠ F → (U.set F (.lst (ps.map W.loc ++ [.loc p])))[j]? = some o := fun j o h hj => by
    rw [List.getElem?_set_ne (Ne.symm hj)]; exact A.get h
  have sF := H.sF
  have dS := H.dS
  have kS := H.kS
  refine ⟨U.set F (.lst (ps.map W.loc ++ [.loc p])), p, ?_, ?_⟩
  · simp only [sExpr_ap, dBm_ap, dVar_ap, he, Res.bind_ok, kb, dCons_ap, e, kCons1_ap, dNil_ap, kCons2_ap, ap, Res.then_ok, kExpr_ap]
  · refine ⟨?_, ?_, ?_, keep _ _ H.wy H.wF, ?_, sF, H.wF, H.wd, dS, kS⟩
    · obtain ⟨g, hg⟩ := A
      have DU : Deck d k ns b Y0 U := by rw [hg]; exact H.dk.app g
      exact DU.set (by omega) (by omega)
    · exact (H.ex.trans A.ext).set sF
    · rw [List.getElem?_set_self hFU]; simp
    · intro q hq
      rcases List.mem_append.mp hq with hq | hq
      · obtain ⟨h1, h2, o, h3, h4⟩ := H.it q hq
        exact ⟨h1, h2, o, keep _ _ h3 h2, h4⟩
      · rw [List.mem_singleton.mp hq]
        have hpF : p ≠ F := by omega
        refine ⟨by have := H.ex.le; omega, hpF, out, ?_, hP⟩
        rw [List.getElem?_set_ne (Ne.symm hpF)]; exact hp
/-- the lists of a list go with it -/
theorem fnd_gc (H : Fnd d k b ns S F w ws P T ps) (hn : ps ≠ []) : gc S (.loc F) T = .ok (.loc F) T := by
  have e : GcOk S T := gcx2 (v := .non) H.ex (H.dk.cl H.kS)
  have hv : ¬ clB S.length (.loc F) = true := by have := H.sF; simp [clB]; omega
  unfold gc; rw [if_pos e, if_neg hv]
  simp only [H.fd]
  rw [if_neg ?_]
  cases ps with
  | nil => exact absurd rfl hn
  | cons p ps =>
    have := (H.it p List.mem_cons_self).1
    simp [clBs, clB]
    omega
end
theorem ne_nil {st : Store} {w q : Nat} {l : List Int} (h : st[w]? = some (.lst (l.map W.int))) (h' : st[q]? = some (.lst [])) (hl : l.length ≤ 8192) : neW (.loc w) (.loc q) st = .ok (.bl (decide (l ≠ []))) st := by
  have p1 : ∀ w ∈ l.map W.int, pu w := fun w hw => by obtain ⟨z, _, rfl⟩ := List.mem_map.mp hw; rfl
  have P := Pic.ls w _ h (by simpa using hl) p1
  have P' : Pic st (.loc q) (.fro []) := Pic.ls q _ h' (by simp) (by simp)
  rw [pic_ne P P']
  simp only [dU]
  rw [PyData.eqv.eq_7]
  cases l with
  | nil => simp [PyData.eqvAll]
  | cons a l => simp [PyData.eqvAll]
end
end K25
namespace K25
open PySem PySem.Spec PyProof.Rows L2 MP
open Classical
noncomputable section
theorem spoilt_ok {d k b w : Nat} {ns : List Int} {x y : Int} {l : List Int} {S : Store} (D : Deck d k ns b Y0 S) (hb : b ≤ 700000) (hx : Ser x) (hy : Ser y) (hw : S[w]? = some (.lst (l.map W.int))) (hwd : w ≠ d) (hs : ∀ z ∈ l, Ser z) (hn : l.length ≤ 3000) : ∃ (S' : Store) (F : Nat) (ps : List Nat), d__law_spoilt [.loc d, .int x, .int y, .loc w] S = .ok (.loc F) S' ∧ Fnd d k (b + 10) ns S F w (l.map W.int) (Sers 7000) S' ps := by
  have hl := D.lt
  have hwS : w < S.length := (List.getElem?_eq_some_iff.mp hw).1
  have sw : Sers 3000 (l.map W.int) := ⟨l, rfl, hs, hn⟩
  have v3 : ∀ (f4 f5 f6 : Option W), MkW (dVar 3) [some (.loc d), some (.int x), some (.int y), some (.loc w), f4, f5, f6] w (l.map W.int) (l.map W.int) := fun f4 f5 f6 => mk_var rfl
  have l1 : ∀ z, [W.int z].length ≤ 50 := fun z => by simp
  have L : MkL (Sers 7000) (dCons (dOp addW (dVar 3) (dLst (dCons (dVar 2) dNil))) (dCons (dSl (dVar 3) (dPart (dC (.int 1))) dNoPart) (dCons (dSl (dVar 3) dNoPart (dPart (dUn negW (dC (.int 1))))) (dCons (dOp addW (dLst (dCons (dVar 1) dNil)) (dVar 3)) (dCons (dLst (dCons (dVar 1) (dCons (dVar 2) dNil))) (dCons (dUn revW (dVar 3)) dNil)))))) [some (.loc d), some (.int x), some (.int y), some (.loc w), none, none, none] w (l.map W.int) 6 := by
    refine mkl_cons (mk_add (v3 _ _ _) (Mk.old (mk_lst (out := [.int y]) (fun T _ => by simp -implicitDefEqProofs) (by simp))) (by simp; omega)) ((sw.app (sers1 hy)).mono (by decide)) ?_
    refine mkl_cons (mk_sl (l := some 1) (h := none) (v3 _ _ _) (fun T _ => by simp -implicitDefEqProofs) (fun T _ => by simp -implicitDefEqProofs)) ((sw.cut _ _).mono (by decide)) ?_
    refine mkl_cons (mk_sl (l := none) (h := some (-1)) (v3 _ _ _) (fun T _ => by simp -implicitDefEqProofs) (fun T _ => by simp -implicitDefEqProofs)) ((sw.cut _ _).mono (by decide)) ?_
    refine mkl_cons (mk_add (Mk.old (mk_lst (out := [.int x]) (fun T _ => by simp -implicitDefEqProofs) (by simp))) (v3 _ _ _) (by simp; omega)) (((sers1 hx).app sw).mono (by decide)) ?_
    refine mkl_cons (mk_lst (out := [.int x, .int y]) (fun T _ => by simp -implicitDefEqProofs) (by simp)) ((sers2 hx hy).mono (by decide)) ?_
    exact mkl_cons (mk_rev (v3 _ _ _)) (sw.rev.mono (by decide)) mkl_nil
  obtain ⟨U, ps, e1, A1, hps, hp⟩ := L S hw
  have kl : kLst (ps.map W.loc) U = .ok (.loc U.length) (U ++ [.lst (ps.map W.loc)]) := lst5 (by simp; omega)
  obtain ⟨T, hT⟩ : ∃ T, T = U ++ [Ob.lst (ps.map W.loc)] := ⟨_, rfl⟩
  rw [← hT] at kl
  have A2 : App S T := by rw [hT]; exact A1.trans .one
  obtain ⟨F, hF⟩ : ∃ F, F = U.length := ⟨_, rfl⟩
  rw [← hF] at kl
  have lA := A1.le
  have H : Fnd d k b ns S F w (l.map W.int) (Sers 7000) T ps := ⟨by obtain ⟨g, hg⟩ := A2; rw [hg]; exact D.app g, A2.ext, by rw [hT, hF]; simp, A2.get hw, fun p hpp => by
    obtain ⟨h1, out, h2, h3⟩ := hp p hpp
    have : p < U.length := (List.getElem?_eq_some_iff.mp h2).1
    exact ⟨h1, by omega, out, by rw [hT]; exact get_app _ h2, h3⟩, by omega, by omega, hwd, hl.1, hl.2⟩
  have kn : kLst [] T = .ok (.loc T.length) (T ++ [.lst []]) := lst5 (by simp)
  have gw : (T ++ [Ob.lst []])[w]? = some (.lst (l.map W.int)) := get_app _ H.wy
  have nn := ne_nil (q := T.length) gw (by simp) (by omega)
  obtain ⟨T0, hT0⟩ : ∃ T0, T0 = T ++ [Ob.lst []] := ⟨_, rfl⟩
  rw [← hT0] at kn nn
  have H0 : Fnd d k b ns S F w (l.map W.int) (Sers 7000) T0 ps := H.ext (by rw [hT0]; exact .app _) (by rw [hT0]; exact H.dk.app _)
  have fin : ∀ {T' : Store} {ps' : List Nat} {f5 f6 : Option W}, Fnd d k (b + 10) ns S F w (l.map W.int) (Sers 7000) T' ps' → ps' ≠ [] → b__law_spoilt [some (.loc d), some (.int x), some (.int y), some (.loc w), none, none, none] S = .go (.rt (.loc F)) [some (.loc d), some (.int x), some (.int y), some (.loc w), some (.loc F), f5, f6] T' → ∃ (S' : Store) (F : Nat) (ps : List Nat), d__law_spoilt [.loc d, .int x, .int y, .loc w] S = .ok (.loc F) S' ∧ Fnd d k (b + 10) ns S F w (l.map W.int) (Sers 7000) S' ps := fun {T' ps' f5 f6} H' hne body => by
    refine ⟨T', F, ps', ?_, H'⟩
    unfold d__law_spoilt; rw [fnDen_ap]
    simp -implicitDefEqProofs only [List.map_cons, List.map_nil, List.length_cons, List.length_nil, Nat.reduceAdd, Nat.reduceSub, List.replicate_succ, List.replicate_zero, List.cons_append, List.nil_append]
    rw [body, fnR_rt, fnd_gc H' hne]
  have hne : ps ≠ [] := by intro h; rw [h] at hps; simp at hps
  have q1 : ∀ r, sRet (dVar 4) [some (.loc d), some (.int x), some (.int y), some (.loc w), some (.loc F), none, none] T0 = r → (decide (l ≠ []) = false) → b__law_spoilt [some (.loc d), some (.int x), some (.int y), some (.loc w), none, none, none] S = r := fun r hr hq => by
    rw [hq] at nn
    unfold b__law_spoilt
    refine seq_go (env' := [some (.loc d), some (.int x), some (.int y), some (.loc w), some (.loc F), none, none]) (st' := T) ?_ ?_
    · simp -implicitDefEqProofs only [sAsg_ap, dLst_ap, e1, Res.bind_ok, kl, Res.then_ok, kAsg_n, List.set_cons_succ, List.set_cons_zero]
    refine seq_go (env' := [some (.loc d), some (.int x), some (.int y), some (.loc w), some (.loc F), none, none]) (st' := T0) ?_ hr
    simp -implicitDefEqProofs only [sIf_ap, dBool_ap, dOp_ap, dVar_ap, List.getElem?_cons_zero, List.getElem?_cons_succ, Res.bind_ok, kOp1_ap, dLst_ap, dNil_ap, kn, nn, kBool_ap, Res.then_ok, kSIf_f, sNil_ap]
  by_cases hq : l = []
  · exact fin (f5 := none) (f6 := none) (H0.ext .refl (H0.dk.mono (by omega))) hne (q1 _ (by simp -implicitDefEqProofs) (by simp [hq]))
  · have hl0 : 0 < l.length := List.length_pos_iff.mpr hq
    have nt : decide (l ≠ []) = true := decide_eq_true hq
    rw [nt] at nn
    have ln := len_nums H0.wy
    obtain ⟨J, T1, e5, j0, j1, D1, K1⟩ := draw_ok (m := (l.length : Int)) H0.dk (by omega) (by omega) (Nat.lt_of_le_of_lt (Nat.log2_le_self _) (by omega))
    have ixT : ∃ z : Int, Ser z ∧ ∀ T : Store, T[w]? = some (.lst (l.map W.int)) → ixW (.loc w) (.int J) T = .ok (.int z) T := by
      obtain ⟨j, rfl⟩ : ∃ j : Nat, J = (j : Int) := ⟨J.toNat, by omega⟩
      have hj : j < l.length := by omega
      refine ⟨l.getD j 0, ?_, fun T hT => ix_nums hT hj⟩
      rw [List.getD_eq_getElem?_getD, List.getElem?_eq_getElem hj]; exact hs _ (List.getElem_mem _)
    obtain ⟨z, hz, ixT⟩ := ixT
    generalize (l.length : Int) = N at *
    obtain ⟨a2, T2, e6, a20, a21, D2, K2⟩ := draw_ok (m := 4294967296) D1 (by omega) (by decide) (by decide +kernel)
    obtain ⟨v, T3, r6, _, kl7, e7, ix7, D3, X3⟩ := pick (P := fun _ => True) (l := [1, -1, 2147483648, a2]) D2 (by omega) (by simp) (by simp) (fun _ _ => trivial)
    simp only [List.map_cons, List.map_nil, List.length_cons, List.length_nil] at kl7 e7
    rw [show (((0 + 1 + 1 + 1 + 1 : Nat)) : Int) = 4 from rfl] at e7
    have H3 : Fnd d k (b + 10) ns S F w (l.map W.int) (Sers 7000) T3 ps := H0.ext ((K1.ext.trans K2.ext).trans X3) (D3.mono (by omega))
    have md : ∀ a st, modW (.int a) (.int 4294967296) st = .ok (.int (a % 4294967296)) st := fun a st => mod_okQ (by decide)
    have m1 := ser_mod (z + v)
    have m2 := ser_mod (z + 1)
    have md1 : ∀ st, modW (.int (z + v)) (.int 4294967296) st = .ok (.int ((z + v) % 4294967296)) st := fun st => md _ st
    have md2 : ∀ st, modW (.int (z + 1)) (.int 4294967296) st = .ok (.int ((z + 1) % 4294967296)) st := fun st => md _ st
    generalize (z + v) % 4294967296 = z1 at *
    generalize (z + 1) % 4294967296 = z2 at *
    clear md
    have vv : MkW (dVar 3) [some (.loc d), some (.int x), some (.int y), some (.loc w), some (.loc F), some (.int J), some (.int v)] w (l.map W.int) (l.map W.int) := mk_var rfl
    have c1 : Mk (dSl (dVar 3) dNoPart (dPart (dVar 5))) [some (.loc d), some (.int x), some (.int y), some (.loc w), some (.loc F), some (.int J), some (.int v)] w (l.map W.int) (cutW (l.map W.int) none (some J)) := mk_sl vv (fun T _ => by simp -implicitDefEqProofs) (fun T _ => by simp -implicitDefEqProofs)
    have c2 : Mk (dSl (dVar 3) (dPart (dOp addW (dVar 5) (dC (.int 1)))) dNoPart) [some (.loc d), some (.int x), some (.int y), some (.loc w), some (.loc F), some (.int J), some (.int v)] w (l.map W.int) (cutW (l.map W.int) (some (J + 1)) none) := mk_sl vv (fun T _ => by simp -implicitDefEqProofs) (fun T _ => by simp -implicitDefEqProofs)
    have o1 := sw.cut none (some J)
    have o2 := sw.cut (some (J + 1)) none
    have y1 : Mk (dLst (dCons (dOp modW (dApp intOfW (dCons (dOp addW (dOp ixW (dVar 3) (dVar 5)) (dVar 6)) dNil)) (dOp powW (dC (.int 2)) (dC (.int 32)))) dNil)) [some (.loc d), some (.int x), some (.int y), some (.loc w), some (.loc F), some (.int J), some (.int v)] w (l.map W.int) [.int z1] := mk_lst (fun T hT => by
      have ix := ixT T hT
      simp -implicitDefEqProofs only [dCons_ap, dOp_ap, dApp_ap, dVar_ap, dC_ap, dNil_ap, List.getElem?_cons_zero, List.getElem?_cons_succ, Res.bind_ok, kOp1_ap, kCons1_ap, kCons2_ap, ix, addW_i, intOf_i, p32, md1]) (by simp)
    have y2 : Mk (dLst (dCons (dOp ixW (dVar 3) (dVar 5)) (dCons (dOp modW (dApp intOfW (dCons (dOp addW (dOp ixW (dVar 3) (dVar 5)) (dC (.int 1))) dNil)) (dOp powW (dC (.int 2)) (dC (.int 32)))) dNil))) [some (.loc d), some (.int x), some (.int y), some (.loc w), some (.loc F), some (.int J), some (.int v)] w (l.map W.int) [.int z, .int z2] := mk_lst (fun T hT => by
      have ix := ixT T hT
      simp -implicitDefEqProofs only [dCons_ap, dOp_ap, dApp_ap, dVar_ap, dC_ap, dNil_ap, List.getElem?_cons_zero, List.getElem?_cons_succ, Res.bind_ok, kOp1_ap, kCons1_ap, kCons2_ap, ix, addW_i, intOf_i, p32, md2]) (by simp)
    have k1 : ∀ t, (cutW (l.map W.int) none (some J) ++ t).length ≤ 3000 + t.length := fun t => by rw [List.length_append]; have := o1.len; omega
    have M1 := mk_add (mk_add c1.old y1.old (by have := o1.len; simp only [List.length_cons, List.length_nil]; omega)).old c2.old (by have := k1 [.int z1]; have := o2.len; simp only [List.length_cons, List.length_nil] at *; omega)
    have M2 := mk_add (mk_add c1.old y2.old (by have := o1.len; simp only [List.length_cons, List.length_nil]; omega)).old c2.old (by have := k1 [.int z, .int z2]; have := o2.len; simp only [List.length_cons, List.length_nil] at *; omega)
    have M3 := mk_add c1.old c2.old (by have := o1.len; have := o2.len; omega)
    obtain ⟨T4, p4, e8, H4⟩ := fnd_app (i := 4) H3 M1 (((o1.app (sers1 m1)).app o2).mono (by decide)) rfl (by omega)
    obtain ⟨T5, p5, e9, H5⟩ := fnd_app (i := 4) H4 M2 (((o1.app (sers2 hz m2)).app o2).mono (by decide)) rfl (by simp; omega)
    obtain ⟨T6, p6, e10, H6⟩ := fnd_app (i := 4) H5 M3 ((o1.app o2).mono (by decide)) rfl (by simp; omega)
    refine fin (f5 := some (.int J)) (f6 := some (.int v)) H6 (by simp) ?_
    unfold b__law_spoilt
    refine seq_go (env' := [some (.loc d), some (.int x), some (.int y), some (.loc w), some (.loc F), none, none]) (st' := T) ?_ ?_
    · simp -implicitDefEqProofs only [sAsg_ap, dLst_ap, e1, Res.bind_ok, kl, Res.then_ok, kAsg_n, List.set_cons_succ, List.set_cons_zero]
    refine seq_go (env' := [some (.loc d), some (.int x), some (.int y), some (.loc w), some (.loc F), some (.int J), some (.int v)]) (st' := T6) ?_ (by simp -implicitDefEqProofs)
    simp -implicitDefEqProofs only [sIf_ap, dBool_ap, dOp_ap, dVar_ap, List.getElem?_cons_zero, List.getElem?_cons_succ, Res.bind_ok, kOp1_ap, dLst_ap, dNil_ap, kn, nn, kBool_ap, Res.then_ok, kSIf_t]
    refine seq_go (env' := [some (.loc d), some (.int x), some (.int y), some (.loc w), some (.loc F), some (.int J), none]) (st' := T1) ?_ ?_
    · simp -implicitDefEqProofs only [sAsg_ap, dCall_ap, dCons_ap, dApp_ap, dVar_ap, dNil_ap, List.getElem?_cons_zero, List.getElem?_cons_succ, Res.bind_ok, kCons1_ap, kCons2_ap, ln, kCall_2, e5, Res.then_ok, kAsg_n, List.set_cons_succ, List.set_cons_zero]
    refine seq_go (env' := [some (.loc d), some (.int x), some (.int y), some (.loc w), some (.loc F), some (.int J), some (.int v)]) (st' := T3) ?_ ?_
    · simp -implicitDefEqProofs only [sAsg_ap, dOp_ap, dUn_ap, dLst_ap, dCons_ap, dC_ap, dVar_ap, dCall_ap, dNil_ap, List.getElem?_cons_zero, List.getElem?_cons_succ, Res.bind_ok, kCons1_ap, kOp1_ap, kCons2_ap, negW_i, p31, p32, kCall_2, e6, kl7, e7, ix7, Res.then_ok, kAsg_n, List.set_cons_succ, List.set_cons_zero]
    exact seq_go e8 (seq_go e9 e10)
end
end K25
namespace K25
open PySem PySem.Spec PyProof.Rows L2 MP
open Classical
noncomputable section
section
variable {x y : Int} {m n : Nat} {st : Store}
theorem judge_all {p : Nat} {l : List Int} (hx : Ser x) (hfe : ∀ st, d_fewest_steps [.int x, .int y, .int (m : Int)] st = .ok (.int (n : Int)) st) (hm : m ≤ 1000) (h : st[p]? = some (.lst (l.map W.int))) (hl : l.length ≤ 7000) (hs : ∀ z ∈ l, Ser z) : d_judge_steps [.int x, .int y, .int (m : Int), .loc p] st = .ok (.bl (((l.length : Int) == (n : Int)) && (wayB (x :: l) (m + 1) && ((x :: l).getD l.length 0 == y)))) st := by
  by_cases hn : l.length = n
  · rw [judge_good hx hfe hm h (by omega) hs hn, hn, beq_self_eq_true, Bool.true_and, Bool.and_comm]
  · rw [judge_len (hfe st) h (by simpa using hn), beq_false_of_ne (by omega), Bool.false_and]
def sB : DS := (sSeq (sAsg (dAndV (dOp eqW (dApp lenW (dCons (dVar 7) dNil)) (dVar 4)) (dCall 4 d__law_is_way (dCons (dVar 1) (dCons (dVar 2) (dCons (dVar 3) (dCons (dVar 7) dNil)))))) (tName 11))
    (sIf (dBool (dOp neW (dApp reprW (dCons (dCall 4 d_judge_steps (dCons (dVar 1) (dCons (dVar 2) (dCons (dVar 3) (dCons (dVar 7) dNil))))) dNil)) (dApp reprW (dCons (dVar 11) dNil))))
    (sRet (dC (.bl false)))
    sNil))
theorem sloop {T : Store} {F d w : Nat} {ps : List Nat} (hx : Ser x) (hfe : ∀ st, d_fewest_steps [.int x, .int y, .int (m : Int)] st = .ok (.int (n : Int)) st) (hm : m ≤ 1000) (fd : T[F]? = some (.lst (ps.map W.loc))) (hp : ∀ p ∈ ps, ∃ out, T[p]? = some (.lst out) ∧ Sers 7000 out) : ∃ c7 c11, forW (ItW.mk (ps.map W.loc) (some F)).Chk (tName 7) sB (ps.map W.loc) [some (.loc d), some (.int x), some (.int y), some (.int (m : Int)), some (.int (n : Int)), some (.int (n : Int)), some (.loc w), none, none, none, none, none, none, none] T = .go .nx [some (.loc d), some (.int x), some (.int y), some (.int (m : Int)), some (.int (n : Int)), some (.int (n : Int)), some (.loc w), c7, none, none, none, c11, none, none] T := by
  obtain ⟨env', S', e, ⟨c7, c11, rfl⟩, hS⟩ := forW_ok (chk := (ItW.mk (ps.map W.loc) (some F)).Chk) (t := tName 7) (b := sB)
    (fun _ env S' => (∃ c7 c11, env = [some (.loc d), some (.int x), some (.int y), some (.int (m : Int)), some (.int (n : Int)), some (.int (n : Int)), some (.loc w), c7, none, none, none, c11, none, none]) ∧ S' = T) (fun _ _ _ h => by rw [h.2]; simpa using fd) (ps.map W.loc) 0 [some (.loc d), some (.int x), some (.int y), some (.int (m : Int)), some (.int (n : Int)), some (.int (n : Int)), some (.loc w), none, none, none, none, none, none, none] T
    (fun i v env S' hv hI => by
      obtain ⟨⟨c7, c11, rfl⟩, rfl⟩ := hI
      obtain ⟨p, hpp, rfl⟩ := List.mem_map.mp (List.mem_of_getElem? hv)
      obtain ⟨out, h1, l, rfl, h2, h3⟩ := hp p hpp
      have j := judge_all hx hfe hm h1 h3 h2
      have lw := law_is_way_ok (x := x) (y := y) (m := m) h1 (by omega) hm
      have ln := len_nums h1
      obtain ⟨B, hB⟩ : ∃ B, B = (wayB (x :: l) (m + 1) && ((x :: l).getD l.length 0 == y)) := ⟨_, rfl⟩
      rw [← hB] at j lw
      clear hB h2 h3 h1
      generalize (l.length : Int) = N at *
      obtain ⟨t, ht, r⟩ := repr_bl ((N == (n : Int)) && B)
      refine ⟨_, _, [some (.loc d), some (.int x), some (.int y), some (.int (m : Int)), some (.int (n : Int)), some (.int (n : Int)), some (.loc w), some (.loc p), none, none, none, some (.bl ((N == (n : Int)) && B)), none, none], S', rfl, ?_, ⟨_, _, rfl⟩, rfl⟩
      generalize (n : Int) = Z at *
      generalize (m : Int) = M at *
      unfold sB
      refine seq_go (env' := [some (.loc d), some (.int x), some (.int y), some (.int M), some (.int Z), some (.int Z), some (.loc w), some (.loc p), none, none, none, some (.bl ((N == Z) && B)), none, none]) (st' := S') ?_ ?_
      · cases q : N == Z <;> simp -implicitDefEqProofs only [sAsg_ap, dAndV_ap, dOp_ap, dApp_ap, dCons_ap, dVar_ap, dNil_ap, List.set_cons_succ, List.set_cons_zero, List.getElem?_cons_zero, List.getElem?_cons_succ, Res.bind_ok, kCons1_ap, kCons2_ap, kOp1_ap, ln, eqW_int, q, kAndV_t, kAndV_f, dCall_ap, kCall_4, lw, Res.then_ok, kAsg_n, Bool.true_and, Bool.false_and]
      · simp -implicitDefEqProofs only [sIf_ap, dBool_ap, dOp_ap, dApp_ap, dCons_ap, dVar_ap, dNil_ap, List.getElem?_cons_zero, List.getElem?_cons_succ, Res.bind_ok, kCons1_ap, kCons2_ap, kOp1_ap, dCall_ap, kCall_4, j, r, ne_same ht, kBool_ap, Res.then_ok, kSIf_f, sNil_ap]) ⟨⟨none, none, rfl⟩, rfl⟩
  exact ⟨c7, c11, by rw [e, hS]⟩
/-! what is no way -/
/-- numbers, one of them no serial -/
def Bads (n : Nat) (out : List W) : Prop := ∃ l : List Int, out = l.map W.int ∧ (∃ z ∈ l, ¬ Ser z) ∧ l.length ≤ n
theorem judge_bads {p : Nat} {out : List W} (hfe : ∀ st, d_fewest_steps [.int x, .int y, .int (m : Int)] st = .ok (.int (n : Int)) st) (h : st[p]? = some (.lst out)) (hb : Bads 8000 out) : d_judge_steps [.int x, .int y, .int (m : Int), .loc p] st = .ok (.bl false) st := by
  obtain ⟨l, rfl, ⟨z, hz, hn⟩, hl⟩ := hb
  have hP : (l.map fun z => (W.int z, W.int z)).map Prod.fst = l.map W.int := by rw [List.map_map]; rfl
  refine judge_bad (l := l.map fun z => (W.int z, W.int z)) (hfe st) (by rw [hP]; exact h) (by simp; omega) (fun p hp => ?_) ?_
  · obtain ⟨z, _, rfl⟩ := List.mem_map.mp hp
    exact .pu _ rfl
  · rw [List.all_map, List.all_eq_false]
    exact ⟨z, hz, by simpa using ser_false hn⟩
theorem judge_odd {p : Nat} {l : List Int} {a u : W} (hfe : ∀ st, d_fewest_steps [.int x, .int y, .int (m : Int)] st = .ok (.int (n : Int)) st) (h : st[p]? = some (.lst (l.map W.int ++ [a]))) (hl : l.length ≤ 8000) (hp : Pic st a u) (hb : serB u = false) : d_judge_steps [.int x, .int y, .int (m : Int), .loc p] st = .ok (.bl false) st := by
  have hP : ((l.map fun z => (W.int z, W.int z)) ++ [(a, u)]).map Prod.fst = l.map W.int ++ [a] := by rw [List.map_append, List.map_map]; rfl
  refine judge_bad (l := (l.map fun z => (W.int z, W.int z)) ++ [(a, u)]) (hfe st) (by rw [hP]; exact h) (by simp; omega) (fun p hp' => ?_) ?_
  · rcases List.mem_append.mp hp' with h | h
    · obtain ⟨z, _, rfl⟩ := List.mem_map.mp h
      exact .pu _ rfl
    · rw [List.mem_singleton.mp h]; exact hp
  · rw [List.all_append]; simp [hb]
theorem judge_typ {v : W} {t : String} (hfe : ∀ st, d_fewest_steps [.int x, .int y, .int (m : Int)] st = .ok (.int (n : Int)) st) (h : tyN st v = some t) (hk : kitB t "list" = some false) : d_judge_steps [.int x, .int y, .int (m : Int), v] st = .ok (.bl false) st := judge_no (hfe st) (isi_of h hk)
end
theorem Sers.bads {n k : Nat} {a c : List W} {z : Int} (h : Sers n a) (h' : Sers k c) (hz : ¬ Ser z) : Bads (n + 1 + k) (a ++ [.int z] ++ c) := by
  obtain ⟨l, rfl, h1, h2⟩ := h
  obtain ⟨l', rfl, h1', h2'⟩ := h'
  exact ⟨l ++ [z] ++ l', by simp, ⟨z, by simp, hz⟩, by simp; omega⟩
theorem Bads.mono {n k : Nat} {a : List W} (h : Bads n a) (hk : n ≤ k) : Bads k a := by
  obtain ⟨l, rfl, h1, h2⟩ := h
  exact ⟨l, rfl, h1, by omega⟩
end
end K25
namespace K25
open PySem PySem.Spec PyProof.Rows L2 MP
open Classical
noncomputable section
theorem atI_neg {α : Type} {l : List α} {j : Nat} (h : j < l.length) : atI l (-1 - (j : Int)) = l[l.length - 1 - j]? := by
  unfold atI ixN
  rw [if_neg (by omega), if_pos (by omega)]
  show l[_]? = _
  congr 1
  omega
theorem ix_negs {w j : Nat} {l : List Int} {T : Store} (h : T[w]? = some (.lst (l.map W.int))) (hj : j < l.length) : ixW (.loc w) (.int (-1 - (j : Int))) T = .ok (.int (l.getD (l.length - 1 - j) 0)) T := by
  unfold ixW
  simp only [seq_loc h]
  rw [atI_neg (by simpa using hj), List.getElem?_map, List.length_map, List.getElem?_eq_getElem (by omega)]
  simp only [Option.map_some]
  rw [List.getD_eq_getElem?_getD, List.getElem?_eq_getElem (by omega)]; rfl
def bB : DS := (sSeq (sExpr (dBm tyL appendW (dVar 8) (dCons (dOp addW (dOp addW (dSl (dVar 6) dNoPart (dPart (dVar 9))) (dLst (dCons (dOp addW (dOp ixW (dVar 6) (dVar 9)) (dVar 12)) dNil))) (dSl (dVar 6) (dPart (dOp addW (dVar 9) (dC (.int 1)))) dNoPart)) dNil)))
    (sExpr (dBm tyL appendW (dVar 8) (dCons (dOp addW (dOp addW (dSl (dVar 6) dNoPart (dPart (dOp subW (dUn negW (dC (.int 1))) (dVar 9)))) (dLst (dCons (dOp addW (dOp ixW (dVar 6) (dOp subW (dUn negW (dC (.int 1))) (dVar 9))) (dVar 12)) dNil))) (dSl (dVar 6) (dPart (dOp subW (dApp lenW (dCons (dVar 6) dNil)) (dVar 9))) dNoPart)) dNil))))
section
variable {d k b : Nat} {ns : List Int} {S T : Store} {B w j : Nat} {l : List Int} {ps : List Nat} {e0 e1 e2 e3 e4 e5 e7 e10 e11 e13 : Option W} {v : Int}
theorem bB_ok (H : Fnd d k b ns S B w (l.map W.int) (Bads 8000) T ps) (hj : j < l.length) (hs : ∀ z ∈ l, Ser z) (hl : l.length ≤ 3000) (hv : v = 4294967296 ∨ v = -4294967296) (hn : ps.length ≤ 900) : ∃ T' p q, bB [e0, e1, e2, e3, e4, e5, some (.loc w), e7, some (.loc B), some (.int (j : Int)), e10, e11, some (.int v), e13] T = .go .nx [e0, e1, e2, e3, e4, e5, some (.loc w), e7, some (.loc B), some (.int (j : Int)), e10, e11, some (.int v), e13] T' ∧ Fnd d k b ns S B w (l.map W.int) (Bads 8000) T' (ps ++ [p] ++ [q]) := by
  have sw : Sers 3000 (l.map W.int) := ⟨l, rfl, hs, hl⟩
  have ser : ∀ i, i < l.length → Ser (l.getD i 0) := fun i hi => by
    rw [List.getD_eq_getElem?_getD, List.getElem?_eq_getElem hi]; exact hs _ (List.getElem_mem _)
  obtain ⟨z, hz, ix⟩ : ∃ z : Int, Ser z ∧ ∀ T : Store, T[w]? = some (.lst (l.map W.int)) → ixW (.loc w) (.int (j : Int)) T = .ok (.int z) T := ⟨_, ser j hj, fun T hT => ix_nums hT hj⟩
  obtain ⟨z', hz', ix'⟩ : ∃ z : Int, Ser z ∧ ∀ T : Store, T[w]? = some (.lst (l.map W.int)) → ixW (.loc w) (.int (-1 - (j : Int))) T = .ok (.int z) T := ⟨_, ser (l.length - 1 - j) (by omega), fun T hT => ix_negs hT hj⟩
  have ln : ∀ T : Store, T[w]? = some (.lst (l.map W.int)) → lenW [.loc w] T = .ok (.int (l.length : Int)) T := fun T hT => len_nums hT
  have n1 : ¬ Ser (z + v) := by
    intro h
    have := h.1; have := h.2; have := hz.1; have := hz.2
    rcases hv with rfl | rfl <;> omega
  have n2 : ¬ Ser (z' + v) := by
    intro h
    have := h.1; have := h.2; have := hz'.1; have := hz'.2
    rcases hv with rfl | rfl <;> omega
  generalize (l.length : Int) = N at *
  generalize (j : Int) = J at *
  have vv : MkW (dVar 6) [e0, e1, e2, e3, e4, e5, some (.loc w), e7, some (.loc B), some (.int J), e10, e11, some (.int v), e13] w (l.map W.int) (l.map W.int) := mk_var rfl
  have c1 := mk_sl (lo := dNoPart) (hi := dPart (dVar 9)) (l := none) (h := some J) vv (fun T _ => by simp -implicitDefEqProofs) (fun T _ => by simp -implicitDefEqProofs)
  have c2 := mk_sl (lo := dPart (dOp addW (dVar 9) (dC (.int 1)))) (hi := dNoPart) (l := some (J + 1)) (h := none) vv (fun T _ => by simp -implicitDefEqProofs) (fun T _ => by simp -implicitDefEqProofs)
  have c3 := mk_sl (lo := dNoPart) (hi := dPart (dOp subW (dUn negW (dC (.int 1))) (dVar 9))) (l := none) (h := some (-1 - J)) vv (fun T _ => by simp -implicitDefEqProofs) (fun T _ => by simp -implicitDefEqProofs)
  have c4 := mk_sl (lo := dPart (dOp subW (dApp lenW (dCons (dVar 6) dNil)) (dVar 9))) (hi := dNoPart) (l := some (N - J)) (h := none) vv (fun T hT => by simp -implicitDefEqProofs [ln T hT]) (fun T _ => by simp -implicitDefEqProofs)
  have y1 : Mk (dLst (dCons (dOp addW (dOp ixW (dVar 6) (dVar 9)) (dVar 12)) dNil)) [e0, e1, e2, e3, e4, e5, some (.loc w), e7, some (.loc B), some (.int J), e10, e11, some (.int v), e13] w (l.map W.int) [.int (z + v)] := mk_lst (fun T hT => by
    have ix := ix T hT
    simp -implicitDefEqProofs only [dCons_ap, dOp_ap, dVar_ap, dNil_ap, List.getElem?_cons_zero, List.getElem?_cons_succ, Res.bind_ok, kOp1_ap, kCons1_ap, kCons2_ap, ix, addW_i]) (by simp)
  have y2 : Mk (dLst (dCons (dOp addW (dOp ixW (dVar 6) (dOp subW (dUn negW (dC (.int 1))) (dVar 9))) (dVar 12)) dNil)) [e0, e1, e2, e3, e4, e5, some (.loc w), e7, some (.loc B), some (.int J), e10, e11, some (.int v), e13] w (l.map W.int) [.int (z' + v)] := mk_lst (fun T hT => by
    have ix := ix' T hT
    simp -implicitDefEqProofs only [dCons_ap, dOp_ap, dUn_ap, dC_ap, negW_i, subW_i, dVar_ap, dNil_ap, List.getElem?_cons_zero, List.getElem?_cons_succ, Res.bind_ok, kOp1_ap, kCons1_ap, kCons2_ap, ix, addW_i]) (by simp)
  have o1 := sw.cut none (some J)
  have o2 := sw.cut (some (J + 1)) none
  have o3 := sw.cut none (some (-1 - J))
  have o4 := sw.cut (some (N - J)) none
  have l1 := o1.len
  have l2 := o2.len
  have l3 := o3.len
  have l4 := o4.len
  have M1 := mk_add (mk_add c1.old y1.old (by simp only [List.length_cons, List.length_nil]; omega)).old c2.old (by simp only [List.length_append, List.length_cons, List.length_nil]; omega)
  have M2 := mk_add (mk_add c3.old y2.old (by simp only [List.length_cons, List.length_nil]; omega)).old c4.old (by simp only [List.length_append, List.length_cons, List.length_nil]; omega)
  obtain ⟨T4, p4, e8, H4⟩ := fnd_app (i := 8) H M1 ((o1.bads o2 n1).mono (by decide)) rfl (by omega)
  obtain ⟨T5, p5, e9, H5⟩ := fnd_app (i := 8) H4 M2 ((o3.bads o4 n2).mono (by decide)) rfl (by simp; omega)
  exact ⟨T5, p4, p5, seq_go e8 e9, H5⟩
def oB : DS := sFor (dIt (dTup (dCons (dOp powW (dC (.int 2)) (dC (.int 32))) (dCons (dUn negW (dOp powW (dC (.int 2)) (dC (.int 32)))) dNil)))) (tName 12) bB
theorem oB_ok {e12 : Option W} (H : Fnd d k b ns S B w (l.map W.int) (Bads 8000) T ps) (hj : j < l.length) (hs : ∀ z ∈ l, Ser z) (hl : l.length ≤ 3000) (hn : ps.length ≤ 800) : ∃ T' ps' c12, oB [e0, e1, e2, e3, e4, e5, some (.loc w), e7, some (.loc B), some (.int (j : Int)), e10, e11, e12, e13] T = .go .nx [e0, e1, e2, e3, e4, e5, some (.loc w), e7, some (.loc B), some (.int (j : Int)), e10, e11, c12, e13] T' ∧ Fnd d k b ns S B w (l.map W.int) (Bads 8000) T' ps' ∧ ps'.length ≤ ps.length + 4 := by
  obtain ⟨env', S', e, c12, ps', rfl, H', hn'⟩ := forW_ok (chk := (ItW.mk [.int 4294967296, .int (-4294967296)] none).Chk) (t := tName 12) (b := bB)
    (fun i env T => ∃ c12 ps', env = [e0, e1, e2, e3, e4, e5, some (.loc w), e7, some (.loc B), some (.int (j : Int)), e10, e11, c12, e13] ∧ Fnd d k b ns S B w (l.map W.int) (Bads 8000) T ps' ∧ ps'.length ≤ ps.length + 2 * i) (fun _ _ _ _ => by simp) [.int 4294967296, .int (-4294967296)] 0 [e0, e1, e2, e3, e4, e5, some (.loc w), e7, some (.loc B), some (.int (j : Int)), e10, e11, e12, e13] T
    (fun i u env T hu hI => by
      obtain ⟨c12, ps', rfl, H', hn'⟩ := hI
      have hi : i < 2 := (List.getElem?_eq_some_iff.mp hu).1
      obtain ⟨v, rfl, hv⟩ : ∃ v : Int, u = .int v ∧ (v = 4294967296 ∨ v = -4294967296) := by
        have := List.mem_of_getElem? hu
        simp only [List.mem_cons, List.not_mem_nil, or_false] at this
        rcases this with rfl | rfl
        · exact ⟨_, rfl, .inl rfl⟩
        · exact ⟨_, rfl, .inr rfl⟩
      obtain ⟨T', p, q, e, H2⟩ := bB_ok (e0 := e0) (e1 := e1) (e2 := e2) (e3 := e3) (e4 := e4) (e5 := e5) (e7 := e7) (e10 := e10) (e11 := e11) (e13 := e13) H' hj hs hl hv (by omega)
      exact ⟨_, _, _, _, rfl, e, some (.int v), _, rfl, H2, by simp; omega⟩) ⟨e12, ps, rfl, H, by omega⟩
  refine ⟨S', ps', c12, ?_, H', by simpa using hn'⟩
  have kt : kTup [.int 4294967296, .int (-4294967296)] T = .ok (.tup [.int 4294967296, .int (-4294967296)]) T := ten (by simp)
  unfold oB
  rw [sFor_ap]
  simp -implicitDefEqProofs only [dIt_ap, dTup_ap, dCons_ap, dC_ap, dOp_ap, dUn_ap, p32, negW_i, Res.bind_ok, kCons1_ap, kOp1_ap, dNil_ap, kCons2_ap, kt, itOf_tup, Res.then_ok, kFor]
  exact e
end
end
end K25
namespace K25
open PySem PySem.Spec PyProof.Rows L2 MP
open Classical
noncomputable section
theorem tuple_loc {T : Store} {w : Nat} {ws : List W} (h : T[w]? = some (.lst ws)) : tupleW [.loc w] T = .ok (.tup ws) T := by
  unfold tupleW lstW
  simp only [h]
def tA : D W := dOp addW (dVar 6) (dLst (dCons (dC .non) dNil))
def tB : D W := dOp addW (dSl (dVar 6) dNoPart (dPart (dUn negW (dC (.int 1))))) (dLst (dCons (dC (.bl true)) dNil))
def tC : D W := dLst (dCons (dVar 6) dNil)
def tL : D W := dOp addW (dLst (dCons (dC .non) (dCons (dC (.str "way")) (dCons (dApp tupleW (dCons (dVar 6) dNil)) (dCons tA (dCons tB (dCons tC (dCons (dC (.int 7)) dNil)))))))) (dVar 8)
section
variable {d k b : Nat} {ns : List Int} {S T : Store} {B w m n : Nat} {l : List Int} {ps : List Nat} {e0 e1 e2 e3 e4 e5 e7 e9 e10 e11 e12 e13 : Option W} {x y : Int}
/-- things that are no way -/
theorem things_ok (H : Fnd d k b ns S B w (l.map W.int) (Bads 8000) T ps) (hs : ∀ z ∈ l, Ser z) (hl : l.length ≤ 3000) (hn : ps.length ≤ 800) (hfe : ∀ st, d_fewest_steps [.int x, .int y, .int (m : Int)] st = .ok (.int (n : Int)) st) : ∃ (Z : Store) (q : Nat) (vs : List W), tL [e0, e1, e2, e3, e4, e5, some (.loc w), e7, some (.loc B), e9, e10, e11, e12, e13] T = .ok (.loc q) Z ∧ App T Z ∧ Z[q]? = some (.lst vs) ∧ ∀ v ∈ vs, d_judge_steps [.int x, .int y, .int (m : Int), v] Z = .ok (.bl false) Z := by
  have sw : Sers 3000 (l.map W.int) := ⟨l, rfl, hs, hl⟩
  have vv : MkW (dVar 6) [e0, e1, e2, e3, e4, e5, some (.loc w), e7, some (.loc B), e9, e10, e11, e12, e13] w (l.map W.int) (l.map W.int) := mk_var rfl
  have M1 : Mk tA [e0, e1, e2, e3, e4, e5, some (.loc w), e7, some (.loc B), e9, e10, e11, e12, e13] w (l.map W.int) (l.map W.int ++ [.non]) := mk_add vv (Mk.old (mk_lst (fun T _ => by simp -implicitDefEqProofs) (by simp))) (by simp; omega)
  have c2 := mk_sl (lo := dNoPart) (hi := dPart (dUn negW (dC (.int 1)))) (l := none) (h := some (-1)) vv (fun T _ => by simp -implicitDefEqProofs) (fun T _ => by simp -implicitDefEqProofs)
  obtain ⟨l', hc, hl1, hl2⟩ := cut_int l none (some (-1))
  rw [hc] at c2
  have M2 : Mk tB [e0, e1, e2, e3, e4, e5, some (.loc w), e7, some (.loc B), e9, e10, e11, e12, e13] w (l.map W.int) (l'.map W.int ++ [.bl true]) := mk_add c2.old (Mk.old (mk_lst (fun T _ => by simp -implicitDefEqProofs) (by simp))) (by simp; omega)
  have M3 : Mk tC [e0, e1, e2, e3, e4, e5, some (.loc w), e7, some (.loc B), e9, e10, e11, e12, e13] w (l.map W.int) [.loc w] := mk_lst (fun T _ => by simp -implicitDefEqProofs) (by simp)
  have tu := tuple_loc H.wy
  obtain ⟨U1, p1, f1, A1, q1, g1⟩ := M1 T H.wy
  obtain ⟨U2, p2, f2, A2, q2, g2⟩ := M2 U1 (A1.get H.wy)
  obtain ⟨U3, p3, f3, A3, q3, g3⟩ := M3 U2 (A2.get (A1.get H.wy))
  have kl : kLst [.non, .str "way", .tup (l.map W.int), .loc p1, .loc p2, .loc p3, .int 7] U3 = .ok (.loc U3.length) (U3 ++ [.lst [.non, .str "way", .tup (l.map W.int), .loc p1, .loc p2, .loc p3, .int 7]]) := lst5 (by simp)
  obtain ⟨U4, hU4⟩ : ∃ U4, U4 = U3 ++ [Ob.lst [.non, .str "way", .tup (l.map W.int), .loc p1, .loc p2, .loc p3, .int 7]] := ⟨_, rfl⟩
  rw [← hU4] at kl
  have A4 : App U3 U4 := by rw [hU4]; exact .one
  have ad : addW (.loc U3.length) (.loc B) U4 = .ok (.loc U4.length) (U4 ++ [.lst ([.non, .str "way", .tup (l.map W.int), .loc p1, .loc p2, .loc p3, .int 7] ++ ps.map W.loc)]) := addW_l (by rw [hU4]; simp) (A4.get (A3.get (A2.get (A1.get H.fd)))) (by simp; omega)
  obtain ⟨Z, hZ⟩ : ∃ Z, Z = U4 ++ [Ob.lst ([.non, .str "way", .tup (l.map W.int), .loc p1, .loc p2, .loc p3, .int 7] ++ ps.map W.loc)] := ⟨_, rfl⟩
  rw [← hZ] at ad
  have A5 : App U4 Z := by rw [hZ]; exact .one
  refine ⟨Z, U4.length, [.non, .str "way", .tup (l.map W.int), .loc p1, .loc p2, .loc p3, .int 7] ++ ps.map W.loc, ?_, (((A1.trans A2).trans A3).trans A4).trans A5, by rw [hZ, List.getElem?_append_right (Nat.le_refl _), Nat.sub_self]; rfl, ?_⟩
  · unfold tL
    simp -implicitDefEqProofs only [dOp_ap, dLst_ap, dCons_ap, dC_ap, dApp_ap, dVar_ap, dNil_ap, List.getElem?_cons_zero, List.getElem?_cons_succ, Res.bind_ok, kCons1_ap, kCons2_ap, kOp1_ap, tu, f1, f2, f3, kl, ad]
  · have k3 : ∀ {i o}, U3[i]? = some o → Z[i]? = some o := fun h => A5.get (A4.get h)
    have zw : Z[w]? = some (.lst (l.map W.int)) := k3 (A3.get (A2.get (A1.get H.wy)))
    intro v hv
    rcases List.mem_append.mp hv with hv | hv
    · simp only [List.mem_cons, List.not_mem_nil, or_false] at hv
      rcases hv with rfl | rfl | rfl | rfl | rfl | rfl | rfl
      · exact judge_typ (t := "NoneType") hfe rfl rfl
      · exact judge_typ (t := "str") hfe rfl rfl
      · exact judge_typ (t := "tuple") hfe rfl rfl
      · exact judge_odd hfe (k3 (A3.get (A2.get g1))) (by omega) (.pu _ rfl) rfl
      · exact judge_odd hfe (k3 (A3.get g2)) (by omega) (.pu _ rfl) rfl
      · exact judge_odd (l := []) hfe (k3 g3) (by simp) (.ls w _ zw (by simp; omega) (fun w hw => by obtain ⟨z, _, rfl⟩ := List.mem_map.mp hw; rfl)) rfl
      · exact judge_typ (t := "int") hfe rfl rfl
    · obtain ⟨p, hp, rfl⟩ := List.mem_map.mp hv
      obtain ⟨_, _, out, h1, h2⟩ := H.it p hp
      exact judge_bads hfe (k3 (A3.get (A2.get (A1.get h1)))) h2
end
end
end K25
namespace K25
open PySem PySem.Spec PyProof.Rows L2 MP
open Classical
noncomputable section
section
variable {d k b : Nat} {ns : List Int} {S T : Store} {B w m n : Nat} {l : List Int} {ps : List Nat} {e0 e1 e2 e3 e4 e5 e7 e8 e9 e10 e11 e12 e13 : Option W} {x y : Int}
theorem at_loop {r : Nat} (H : Fnd d k b ns S B w (l.map W.int) (Bads 8000) T []) (hs : ∀ z ∈ l, Ser z) (hl : l.length ≤ 3000) (hr : r ≤ 3) (hr' : r ≤ l.length) : ∃ T' ps' c9 c12, forW (ItW.mk (intsW 0 r) none).Chk (tName 9) oB (intsW 0 r) [e0, e1, e2, e3, e4, e5, some (.loc w), e7, some (.loc B), e9, e10, e11, e12, e13] T = .go .nx [e0, e1, e2, e3, e4, e5, some (.loc w), e7, some (.loc B), c9, e10, e11, c12, e13] T' ∧ Fnd d k b ns S B w (l.map W.int) (Bads 8000) T' ps' ∧ ps'.length ≤ 20 := by
  obtain ⟨env', S', e, c9, c12, ps', rfl, H', hn'⟩ := forW_ok (chk := (ItW.mk (intsW 0 r) none).Chk) (t := tName 9) (b := oB)
    (fun i env T => ∃ c9 c12 ps', env = [e0, e1, e2, e3, e4, e5, some (.loc w), e7, some (.loc B), c9, e10, e11, c12, e13] ∧ Fnd d k b ns S B w (l.map W.int) (Bads 8000) T ps' ∧ ps'.length ≤ 4 * i) (fun _ _ _ _ => by simp) (intsW 0 r) 0 [e0, e1, e2, e3, e4, e5, some (.loc w), e7, some (.loc B), e9, e10, e11, e12, e13] T
    (fun i u env T hu hI => by
      obtain ⟨c9, c12, ps', rfl, H', hn'⟩ := hI
      obtain ⟨hi, rfl⟩ := ints_get hu
      rw [Nat.zero_add] at *
      rw [Int.zero_add]
      obtain ⟨T', ps2, c, e, H2, hn2⟩ := oB_ok (j := i) (e0 := e0) (e1 := e1) (e2 := e2) (e3 := e3) (e4 := e4) (e5 := e5) (e7 := e7) (e10 := e10) (e11 := e11) (e12 := c12) (e13 := e13) H' (by omega) hs hl (by omega)
      exact ⟨_, _, _, _, rfl, e, some (.int (i : Int)), c, ps2, rfl, H2, by omega⟩) ⟨e9, e12, [], rfl, H, by simp⟩
  have hlen : (intsW 0 r).length = r := by simp [intsW]
  rw [hlen] at hn'
  exact ⟨S', ps', c9, c12, e, H', by omega⟩
def tBd : DS := (sIf (dBool (dOp (isBW true) (dCall 4 d_judge_steps (dCons (dVar 1) (dCons (dVar 2) (dCons (dVar 3) (dCons (dVar 10) dNil))))) (dC (.bl false))))
    (sRet (dC (.bl false)))
    sNil)
theorem isB_ff {st : Store} : isBW true (.bl false) (.bl false) st = .ok (.bl false) st := rfl
theorem isB_tt {st : Store} : isBW true (.bl true) (.bl true) st = .ok (.bl false) st := rfl
theorem t_loop {Z : Store} {q : Nat} {vs : List W} (hq : Z[q]? = some (.lst vs)) (hj : ∀ v ∈ vs, d_judge_steps [.int x, .int y, .int (m : Int), v] Z = .ok (.bl false) Z) : ∃ c10, forW (ItW.mk vs (some q)).Chk (tName 10) tBd vs [e0, some (.int x), some (.int y), some (.int (m : Int)), e4, e5, some (.loc w), e7, e8, e9, e10, e11, e12, e13] Z = .go .nx [e0, some (.int x), some (.int y), some (.int (m : Int)), e4, e5, some (.loc w), e7, e8, e9, c10, e11, e12, e13] Z := by
  obtain ⟨env', S', e, ⟨c10, rfl⟩, hS⟩ := forW_ok (chk := (ItW.mk vs (some q)).Chk) (t := tName 10) (b := tBd)
    (fun _ env T => (∃ c10, env = [e0, some (.int x), some (.int y), some (.int (m : Int)), e4, e5, some (.loc w), e7, e8, e9, c10, e11, e12, e13]) ∧ T = Z) (fun _ _ _ h => by rw [h.2]; simpa using hq) vs 0 [e0, some (.int x), some (.int y), some (.int (m : Int)), e4, e5, some (.loc w), e7, e8, e9, e10, e11, e12, e13] Z
    (fun i v env T hv hI => by
      obtain ⟨⟨c10, rfl⟩, rfl⟩ := hI
      have j := hj v (List.mem_of_getElem? hv)
      refine ⟨_, _, _, _, rfl, ?_, ⟨some v, rfl⟩, rfl⟩
      unfold tBd
      generalize (m : Int) = M at *
      simp -implicitDefEqProofs only [sIf_ap, dBool_ap, dOp_ap, dCall_ap, dCons_ap, dVar_ap, dC_ap, dNil_ap, List.set_cons_succ, List.set_cons_zero, List.getElem?_cons_zero, List.getElem?_cons_succ, Res.bind_ok, kCons1_ap, kCons2_ap, kOp1_ap, kCall_4, j, isB_ff, kBool_ap, Res.then_ok, kSIf_f, sNil_ap]) ⟨⟨e10, rfl⟩, rfl⟩
  exact ⟨c10, by rw [e, hS]⟩
/-- the two sweeps over a way -/
theorem kinds_ok {T : Store} {env : EnvW} (h : T[w]? = some (.lst (l.map W.int))) (hl : l.length ≤ 3000) (he : 13 < env.length) : ∃ U, kLc env (tName 13) dYes (dAndV (dApp isiW (dCons (dVar 13) (dCons (dC (.gl (.ty "int"))) dNil))) (dNotV (dApp isiW (dCons (dVar 13) (dCons (dC (.gl (.ty "bool"))) dNil))))) ⟨l.map W.int, some w⟩ T = .ok (.loc T.length) U ∧ allW [.loc T.length] U = .ok (.bl true) U ∧ App T U := by
  have := kLc_mapB (env := env) (i := 13) (e := (dAndV (dApp isiW (dCons (dVar 13) (dCons (dC (.gl (.ty "int"))) dNil))) (dNotV (dApp isiW (dCons (dVar 13) (dCons (dC (.gl (.ty "bool"))) dNil)))))) (st := T) (src := some w) W.int (fun z : Int => W.bl true) l (by simpa using h) (fun z hz => by
    have hg : (env.set 13 (some (W.int z)))[13]? = some (some (.int z)) := by rw [List.getElem?_set_self he]
    have i1 : isiW [.int z, .gl (.ty "int")] T = .ok (.bl true) T := isi_of (t := "int") rfl rfl
    have i2 : isiW [.int z, .gl (.ty "bool")] T = .ok (.bl false) T := isi_of (t := "int") rfl rfl
    simp -implicitDefEqProofs only [dAndV_ap, dNotV_ap, dApp_ap, dCons_ap, dVar_ap, dC_ap, dNil_ap, hg, Res.bind_ok, kCons1_ap, kCons2_ap, i1, i2, kAndV_t, kNotV_ap, Bool.not_false]) (Nat.le_trans hl (by decide))
  refine ⟨_, this, ?_, .one⟩
  have := all_here (st := T) (l := l) (g := fun _ => true)
  rwa [show l.all (fun _ => true) = true by simp] at this
theorem bounds_ok {T : Store} {env : EnvW} (h : T[w]? = some (.lst (l.map W.int))) (hs : ∀ z ∈ l, Ser z) (hl : l.length ≤ 3000) (he : 13 < env.length) : ∃ U, kLc env (tName 13) dYes (dChain leW ltW (dC (.int 0)) (dVar 13) (dOp powW (dC (.int 2)) (dC (.int 32)))) ⟨l.map W.int, some w⟩ T = .ok (.loc T.length) U ∧ allW [.loc T.length] U = .ok (.bl true) U ∧ App T U := by
  have := kLc_mapB (env := env) (i := 13) (e := (dChain leW ltW (dC (.int 0)) (dVar 13) (dOp powW (dC (.int 2)) (dC (.int 32))))) (st := T) (src := some w) W.int (fun z : Int => W.bl true) l (by simpa using h) (fun z hz => by
    have hg : (env.set 13 (some (W.int z)))[13]? = some (some (.int z)) := by rw [List.getElem?_set_self he]
    have h1 : decide ((0 : Int) ≤ z) = true := decide_eq_true (hs z hz).1
    have h2 : decide (z < (4294967296 : Int)) = true := decide_eq_true (by have := (hs z hz).2; omega)
    simp -implicitDefEqProofs only [dChain_ap, dVar_ap, dC_ap, hg, Res.bind_ok, kCh1_ap, kCh2_ap, leW_i, h1, kCh3_t, dOp_ap, kOp1_ap, p32, ltW_i, h2]) (Nat.le_trans hl (by decide))
  refine ⟨_, this, ?_, .one⟩
  have := all_here (st := T) (l := l) (g := fun _ => true)
  rwa [show l.all (fun _ => true) = true by simp] at this
end
end
end K25
namespace K25
open PySem PySem.Spec PyProof.Rows L2 MP
open Classical
noncomputable section
theorem sright_ok {d k b m : Nat} {ns : List Int} {x y : Int} {S : Store} (D : Deck d k ns b Y0 S) (hb : b ≤ 600000) (hx : Ser x) (hy : Ser y) (hm : m ≤ 1000) : ∃ S', d__law_steps_right [.loc d, .int x, .int y, .int (m : Int)] S = .ok (.bl true) S' ∧ Deck d k ns (b + 20) Y0 S' ∧ Kp d S S' := by
  have hl := D.lt
  obtain ⟨n, hf⟩ := few_ex (dst x y) (m + 1) (dst_pos x y).2 (by omega) (by omega)
  have hn : n ≤ 2003 := by
    by_cases h : dst x y = 0
    · rw [hf.zero h]; omega
    · have := (hf.pos h).2.1; omega
  have hfe : ∀ st, d_fewest_steps [.int x, .int y, .int (m : Int)] st = .ok (.int (n : Int)) st := fun st => fewest_ok hx hy hm hf
  have hlf : ∀ st, d__law_fewest [.int x, .int y, .int (m : Int)] st = .ok (.int (n : Int)) st := fun st => lfewest_ok hm hf
  have hst : ∀ st, d_steps [.int x, .int y, .int (m : Int)] st = .ok (.loc st.length) (st ++ [.lst ((WAYx x y n (m + 1)).map W.int)]) := fun st => steps_ok hx hy hm hf
  have hlen := WAYx_len (x := x) (y := y) hf
  have hser : ∀ z ∈ WAYx x y n (m + 1), Ser z := WAYx_ser
  obtain ⟨hw1, hw2⟩ := WAYx_way hx hy (by omega) (by omega) hf
  generalize WAYx x y n (m + 1) = l at *
  obtain ⟨t, ht, r⟩ := repr_shw (st := []) (shw_ser (z := (n : Int)) (by omega))
  -- the way
  have e1 := hst S
  obtain ⟨S1, hS1⟩ : ∃ S1, S1 = S ++ [Ob.lst (l.map W.int)] := ⟨_, rfl⟩
  rw [← hS1] at e1
  obtain ⟨w, hw⟩ : ∃ w, w = S.length := ⟨_, rfl⟩
  rw [← hw] at e1
  have g1 : S1[w]? = some (.lst (l.map W.int)) := by rw [hS1, hw]; simp
  have A1 : App S S1 := by rw [hS1]; exact .one
  have il := isi_list g1
  have ln := len_nums g1
  rw [hlen] at ln
  obtain ⟨S2, e2, f2, A2⟩ := kinds_ok (env := [some (.loc d), some (.int x), some (.int y), some (.int (m : Int)), some (.int (n : Int)), some (.int (n : Int)), some (.loc w), none, none, none, none, none, none, none]) g1 (by omega) (by simp)
  have g2 := A2.get g1
  obtain ⟨S3, e3, f3, A3⟩ := bounds_ok (env := [some (.loc d), some (.int x), some (.int y), some (.int (m : Int)), some (.int (n : Int)), some (.int (n : Int)), some (.loc w), none, none, none, none, none, none, none]) g2 hser (by omega) (by simp)
  have g3 := A3.get g2
  have lw := law_is_way_ok (x := x) (y := y) (m := m) g3 (by omega) hm
  rw [hlen, hw1, hw2, Bool.true_and] at lw
  have j3 := judge_all hx hfe hm g3 (by omega) hser
  rw [hlen, hw1, hw2, Bool.true_and, beq_self_eq_true, Bool.true_and] at j3
  have la := listA_loc g3
  obtain ⟨S4, hS4⟩ : ∃ S4, S4 = S3 ++ [Ob.lst (l.map W.int)] := ⟨_, rfl⟩
  rw [← hS4] at la
  have A4 : App S3 S4 := by rw [hS4]; exact .one
  have j4 := judge_all (p := S3.length) (st := S4) hx hfe hm (by rw [hS4]; simp) (by omega) hser
  rw [hlen, hw1, hw2, Bool.true_and, beq_self_eq_true, Bool.true_and] at j4
  have g4 := A4.get g3
  have A14 : App S S4 := ((A1.trans A2).trans A3).trans A4
  have D4 : Deck d k ns b Y0 S4 := by obtain ⟨g, hg⟩ := A14; rw [hg]; exact D.app g
  have hwd : w ≠ d := by omega
  -- spoilt ones
  obtain ⟨T, F, ps, e5, H5⟩ := spoilt_ok D4 (by omega) hx hy g4 hwd hser (by omega)
  obtain ⟨c7, c11, e6⟩ := sloop (d := d) (w := w) hx hfe hm H5.fd (fun p hp => (H5.it p hp).2.2)
  have it5 := itOf_loc H5.fd
  -- beyond
  have kl7 : kLst [] T = .ok (.loc T.length) (T ++ [.lst []]) := lst5 (by simp)
  obtain ⟨T7, hT7⟩ : ∃ T7, T7 = T ++ [Ob.lst []] := ⟨_, rfl⟩
  rw [← hT7] at kl7
  obtain ⟨B, hB⟩ : ∃ B, B = T.length := ⟨_, rfl⟩
  rw [← hB] at kl7
  have XT : Ext d S T := A14.ext.trans H5.ex
  have lT : S.length ≤ T.length := XT.le
  have wT : w < T.length := (List.getElem?_eq_some_iff.mp H5.wy).1
  have A7 : App T T7 := by rw [hT7]; exact .one
  have H7 : Fnd d k (b + 10) ns S B w (l.map W.int) (Bads 8000) T7 [] := ⟨by rw [hT7]; exact H5.dk.app _, XT.trans A7.ext, by rw [hT7, hB]; simp, A7.get H5.wy, by simp, by omega, by omega, hwd, hl.1, hl.2⟩
  have ln7 := len_nums H7.wy
  rw [hlen] at ln7
  have hr3 : (if (n : Int) < 3 then (n : Int) else 3) = ((min 3 n : Nat) : Int) := by split <;> omega
  have kr := kR1_ok (st := T7) (j := ((min 3 n : Nat) : Int)) (Int.le_trans (by decide) (show (0 : Int) ≤ ((min 3 n : Nat) : Int) by omega)) (Int.lt_of_le_of_lt (show ((min 3 n : Nat) : Int) ≤ 3 by omega) (by decide))
  rw [Int.toNat_natCast] at kr
  obtain ⟨T8, ps8, c9, c12, e8, H8, hn8⟩ := at_loop (e0 := some (.loc d)) (e1 := some (.int x)) (e2 := some (.int y)) (e3 := some (.int (m : Int))) (e4 := some (.int (n : Int))) (e5 := some (.int (n : Int))) (e7 := c7) (e9 := none) (e10 := none) (e11 := c11) (e12 := none) (e13 := none) H7 hser (by omega) (r := min 3 n) (by omega) (by omega)
  -- things
  obtain ⟨Z, q, vs, e9, AZ, gZ, jZ⟩ := things_ok (e0 := some (.loc d)) (e1 := some (.int x)) (e2 := some (.int y)) (e3 := some (.int (m : Int))) (e4 := some (.int (n : Int))) (e5 := some (.int (n : Int))) (e7 := c7) (e9 := c9) (e10 := none) (e11 := c11) (e12 := c12) (e13 := none) H8 hser (by omega) (by omega) hfe
  obtain ⟨c10, e10⟩ := t_loop (e0 := some (.loc d)) (e4 := some (.int (n : Int))) (e5 := some (.int (n : Int))) (w := w) (e7 := c7) (e8 := some (.loc B)) (e9 := c9) (e10 := none) (e11 := c11) (e12 := c12) (e13 := none) gZ jZ
  have itZ := itOf_loc gZ
  have gw := AZ.get H8.wy
  have kb : ∀ r env, kBm tyL appendW r env (.loc w) Z = (r env Z).bind (appendW (.loc w)) := fun r env => kBm_l appendW gw
  have ap := app_nums (w := .int 7) gw (by rw [List.length_map]; exact Nat.lt_of_le_of_lt (show l.length ≤ 8000 by omega) (by decide))
  obtain ⟨Y, hY⟩ : ∃ Y, Y = Z.set w (.lst (l.map W.int ++ [.int 7])) := ⟨_, rfl⟩
  rw [← hY] at ap
  have DZ : Deck d k ns (b + 10) Y0 Z := by obtain ⟨g, hg⟩ := AZ; rw [hg]; exact H8.dk.app g
  have DY : Deck d k ns (b + 10) Y0 Y := by rw [hY]; exact DZ.set (by omega) (by omega)
  have XY : Ext d S Y := by rw [hY]; exact (H8.ex.trans AZ.ext).set (by omega)
  have es := hst Y
  obtain ⟨V, hV⟩ : ∃ V, V = Y ++ [Ob.lst (l.map W.int)] := ⟨_, rfl⟩
  rw [← hV] at es
  have lv : lenW [.loc Y.length] V = .ok (.int (n : Int)) V := by
    have := len_nums (S := V) (q := Y.length) (l := l) (by rw [hV]; simp)
    rw [this, hlen]
  have DV : Deck d k ns (b + 10) Y0 V := by rw [hV]; exact DY.app _
  have XV : Ext d S V := by rw [hV]; exact XY.trans (.app _)
  obtain ⟨G1, G2, G3⟩ := gc_deck (v := .bl true) XV DV hl.1 hl.2 rfl
  refine ⟨_, ?_, G3.mono (by omega), G2⟩
  clear hlen hw1 hw2
  have mn : ∀ st, minW [.int 3, .int (n : Int)] st = .ok (.int ((min 3 n : Nat) : Int)) st := fun st => by rw [minW_i, hr3]
  clear hr3
  generalize ((min 3 n : Nat) : Int) = R at *
  generalize min 3 n = R' at *
  generalize (n : Int) = N at *
  generalize (m : Int) = M at *
  have body : b__law_steps_right [some (.loc d), some (.int x), some (.int y), some (.int M), none, none, none, none, none, none, none, none, none, none] S = .go (.rt (.bl true)) [some (.loc d), some (.int x), some (.int y), some (.int M), some (.int N), some (.int N), some (.loc w), c7, some (.loc B), c9, c10, c11, c12, none] V := by
    unfold b__law_steps_right
    refine seq_go (env' := [some (.loc d), some (.int x), some (.int y), some (.int M), some (.int N), none, none, none, none, none, none, none, none, none]) (st' := S) ?_ ?_
    · simp -implicitDefEqProofs only [sAsg_ap, dCall_ap, dCons_ap, dVar_ap, dNil_ap, List.getElem?_cons_zero, List.getElem?_cons_succ, Res.bind_ok, kCons1_ap, kCons2_ap, kCall_3, hlf, Res.then_ok, kAsg_n, List.set_cons_succ, List.set_cons_zero]
    refine seq_go (env' := [some (.loc d), some (.int x), some (.int y), some (.int M), some (.int N), some (.int N), none, none, none, none, none, none, none, none]) (st' := S) ?_ ?_
    · simp -implicitDefEqProofs only [sAsg_ap, dCall_ap, dCons_ap, dVar_ap, dNil_ap, List.getElem?_cons_zero, List.getElem?_cons_succ, Res.bind_ok, kCons1_ap, kCons2_ap, kCall_3, hfe, Res.then_ok, kAsg_n, List.set_cons_succ, List.set_cons_zero]
    refine seq_go (env' := [some (.loc d), some (.int x), some (.int y), some (.int M), some (.int N), some (.int N), some (.loc w), none, none, none, none, none, none, none]) (st' := S1) ?_ ?_
    · simp -implicitDefEqProofs only [sAsg_ap, dCall_ap, dCons_ap, dVar_ap, dNil_ap, List.getElem?_cons_zero, List.getElem?_cons_succ, Res.bind_ok, kCons1_ap, kCons2_ap, kCall_3, e1, Res.then_ok, kAsg_n, List.set_cons_succ, List.set_cons_zero]
    refine seq_go (env' := [some (.loc d), some (.int x), some (.int y), some (.int M), some (.int N), some (.int N), some (.loc w), none, none, none, none, none, none, none]) (st' := S1) ?_ ?_
    · simp -implicitDefEqProofs [r, ne_same ht, il, ln]
    refine seq_go (env' := [some (.loc d), some (.int x), some (.int y), some (.int M), some (.int N), some (.int N), some (.loc w), none, none, none, none, none, none, none]) (st' := S2) ?_ ?_
    · have it := itOf_loc g1
      simp -implicitDefEqProofs only [sIf_ap, dNot_ap, dBool_ap, dApp_ap, dCons_ap, dLc_ap, dIt_ap, dVar_ap, List.getElem?_cons_zero, List.getElem?_cons_succ, Res.bind_ok, it, wipeW, List.set_cons_succ, List.set_cons_zero]
      rw [e2]
      simp -implicitDefEqProofs only [Res.bind_ok, kCons1_ap, dNil_ap, kCons2_ap, f2, kBool_ap, kNot_ap, Bool.not_true, Res.then_ok, kSIf_f, sNil_ap]
    refine seq_go (env' := [some (.loc d), some (.int x), some (.int y), some (.int M), some (.int N), some (.int N), some (.loc w), none, none, none, none, none, none, none]) (st' := S3) ?_ ?_
    · have it := itOf_loc g2
      simp -implicitDefEqProofs only [sIf_ap, dOr_ap, dNot_ap, dBool_ap, dApp_ap, dCons_ap, dLc_ap, dIt_ap, dVar_ap, List.getElem?_cons_zero, List.getElem?_cons_succ, Res.bind_ok, it, wipeW, List.set_cons_succ, List.set_cons_zero]
      rw [e3]
      simp -implicitDefEqProofs only [Res.bind_ok, kCons1_ap, dNil_ap, kCons2_ap, f3, kBool_ap, kNot_ap, Bool.not_true, kOr_f, dNot_ap, dBool_ap, dCall_ap, dCons_ap, dVar_ap, List.getElem?_cons_zero, List.getElem?_cons_succ, kCall_4, lw, Res.then_ok, kSIf_f, sNil_ap]
    refine seq_go (env' := [some (.loc d), some (.int x), some (.int y), some (.int M), some (.int N), some (.int N), some (.loc w), none, none, none, none, none, none, none]) (st' := S3) ?_ ?_
    · simp -implicitDefEqProofs only [sIf_ap, dBool_ap, dOp_ap, dCall_ap, dCons_ap, dVar_ap, dNil_ap, dC_ap, List.getElem?_cons_zero, List.getElem?_cons_succ, Res.bind_ok, kCons1_ap, kCons2_ap, kCall_4, j3, kOp1_ap, isB_tt, kBool_ap, Res.then_ok, kSIf_f, sNil_ap]
    refine seq_go (env' := [some (.loc d), some (.int x), some (.int y), some (.int M), some (.int N), some (.int N), some (.loc w), none, none, none, none, none, none, none]) (st' := S4) ?_ ?_
    · simp -implicitDefEqProofs only [sIf_ap, dBool_ap, dOp_ap, dCallP_ap, dCons_ap, dApp_ap, dVar_ap, dNil_ap, dC_ap, List.getElem?_cons_zero, List.getElem?_cons_succ, Res.bind_ok, kCons1_ap, kCons2_ap, la, kCallP_3210, j4, kOp1_ap, isB_tt, kBool_ap, Res.then_ok, kSIf_f, sNil_ap]
    refine seq_go (env' := [some (.loc d), some (.int x), some (.int y), some (.int M), some (.int N), some (.int N), some (.loc w), c7, none, none, none, c11, none, none]) (st' := T) ?_ ?_
    · rw [sFor_ap]
      simp -implicitDefEqProofs only [dIt_ap, dCall_ap, dCons_ap, dVar_ap, dNil_ap, List.getElem?_cons_zero, List.getElem?_cons_succ, Res.bind_ok, kCons1_ap, kCons2_ap, kCall_4, e5, it5, Res.then_ok, kFor]
      exact e6
    refine seq_go (env' := [some (.loc d), some (.int x), some (.int y), some (.int M), some (.int N), some (.int N), some (.loc w), c7, some (.loc B), none, none, c11, none, none]) (st' := T7) ?_ ?_
    · simp -implicitDefEqProofs only [sAsg_ap, dLst_ap, dNil_ap, Res.bind_ok, kl7, Res.then_ok, kAsg_n, List.set_cons_succ, List.set_cons_zero]
    refine seq_go (env' := [some (.loc d), some (.int x), some (.int y), some (.int M), some (.int N), some (.int N), some (.loc w), c7, some (.loc B), c9, none, c11, c12, none]) (st' := T8) ?_ ?_
    · rw [sFor_ap]
      simp -implicitDefEqProofs only [dRange1_ap, dApp_ap, dCons_ap, dC_ap, dVar_ap, dNil_ap, List.getElem?_cons_zero, List.getElem?_cons_succ, Res.bind_ok, kCons1_ap, kCons2_ap, ln7, mn, kr, Res.then_ok, kFor]
      exact e8
    refine seq_go (env' := [some (.loc d), some (.int x), some (.int y), some (.int M), some (.int N), some (.int N), some (.loc w), c7, some (.loc B), c9, c10, c11, c12, none]) (st' := Z) ?_ ?_
    · rw [sFor_ap]
      have e9' : ∀ r : Res W, r = .ok (.loc q) Z → r.bind itOf = .ok ⟨vs, some q⟩ Z := fun r hr => by rw [hr]; exact itZ
      refine (congrArg (fun r : Res ItW => r.then _ _) (e9' _ e9)).trans ?_
      simp -implicitDefEqProofs only [Res.then_ok, kFor]
      exact e10
    refine seq_go (env' := [some (.loc d), some (.int x), some (.int y), some (.int M), some (.int N), some (.int N), some (.loc w), c7, some (.loc B), c9, c10, c11, c12, none]) (st' := Y) ?_ ?_
    · simp -implicitDefEqProofs only [sExpr_ap, dBm_ap, dVar_ap, List.getElem?_cons_zero, List.getElem?_cons_succ, Res.bind_ok, kb, dCons_ap, dC_ap, kCons1_ap, dNil_ap, kCons2_ap, ap, Res.then_ok, kExpr_ap]
    refine seq_go (env' := [some (.loc d), some (.int x), some (.int y), some (.int M), some (.int N), some (.int N), some (.loc w), c7, some (.loc B), c9, c10, c11, c12, none]) (st' := Y) ?_ ?_
    · simp -implicitDefEqProofs only [sIf_ap, dBool_ap, dOp_ap, dCallP_ap, dCons_ap, dVar_ap, dNil_ap, List.getElem?_cons_zero, List.getElem?_cons_succ, Res.bind_ok, kCons1_ap, kCons2_ap, kCallP_210, hfe, kOp1_ap, neW_i, beq_self_eq_true, Bool.not_true, kBool_ap, Res.then_ok, kSIf_f, sNil_ap]
    simp -implicitDefEqProofs only [sRet_ap, dOp_ap, dApp_ap, dCallP_ap, dCons_ap, dVar_ap, dNil_ap, List.getElem?_cons_zero, List.getElem?_cons_succ, Res.bind_ok, kCons1_ap, kCons2_ap, kCallP_201, es, lv, kOp1_ap, eqW_int, beq_self_eq_true, Res.then_ok, kRet_ap]
  unfold d__law_steps_right; rw [fnDen_ap]
  simp -implicitDefEqProofs only [List.map_cons, List.map_nil, List.length_cons, List.length_nil, Nat.reduceAdd, Nat.reduceSub, List.replicate_succ, List.replicate_zero, List.cons_append, List.nil_append]
  rw [body, fnR_rt, G1]
end
end K25
namespace K25
open PySem PySem.Spec PyProof.Rows L2 MP
open Classical
noncomputable section
def lawB : DS := (sSeq (sAsg (dCall 1 d__law_serials (dCons (dVar 1) dNil)) (tTupT [(tName 3), (tName 4), (tName 5)]))
    (sSeq (sIf (dOr (dNot (dBool (dCall 3 d__law_circle_right (dCons (dVar 1) (dCons (dVar 3) (dCons (dVar 4) dNil)))))) (dNot (dBool (dCall 4 d__law_steps_right (dCons (dVar 1) (dCons (dVar 3) (dCons (dVar 4) (dCons (dVar 5) dNil))))))))
    (sRet (dC (.bl false)))
    sNil)
    (sIf (dNot (dBool (dCall 3 d__law_errors_right (dCons (dVar 1) (dCons (dVar 3) (dCons (dVar 4) dNil))))))
    (sRet (dC (.bl false)))
    sNil)))
theorem kAsg_3 {i j k : Nat} {a b c : W} {env : EnvW} {st : Store} : kAsg (tTupT [tName i, tName j, tName k]) env (.tup [a, b, c]) st = .go .nx (((env.set i (some a)).set j (some b)).set k (some c)) st := rfl
theorem law_true (ns : List Int) (hl : ns.length ≤ 63) (hb : ∀ z ∈ ns, Builtin.Int.intBits z ≤ 1048576) : d_law [.fro (ns.map W.int)] [] = .ok (.bl true) [] := by
  obtain ⟨S0, e0, D0⟩ := deck_ok (ns := ns) (st := [])
  have hlen : lenW [.fro (ns.map W.int)] S0 = .ok (.int (ns.length : Int)) S0 := by rw [len_seq (ws := ns.map W.int) rfl]; simp
  have hdv : fdivW (.int (ns.length : Int)) (.int 12) S0 = .ok (.int ((ns.length : Int) / 12)) S0 := div_ok (by decide) (by decide)
  obtain ⟨c, hc, c0⟩ : ∃ c : Int, (ns.length : Int) / 12 = c ∧ 0 ≤ c := ⟨_, rfl, by omega⟩
  rw [hc] at hdv
  obtain ⟨m, hm, m0, m1⟩ : ∃ m : Int, (if c < 3 then c else 3) = m ∧ 0 ≤ m ∧ m ≤ 3 := by
    by_cases z : c < 3
    · exact ⟨c, if_pos z, by omega, by omega⟩
    · exact ⟨3, if_neg z, by decide, by decide⟩
  obtain ⟨q, hq, q0, q1⟩ : ∃ q : Int, (if m > 1 then m else 1) = q ∧ 0 ≤ q ∧ q ≤ 3 := by
    by_cases z : m > 1
    · exact ⟨m, if_pos z, by omega, by omega⟩
    · exact ⟨1, if_neg z, by decide, by decide⟩
  have hmin : minW [.int 3, .int c] S0 = .ok (.int m) S0 := by rw [minW_i, hm]
  have hmax : maxW [.int 1, .int m] S0 = .ok (.int q) S0 := by rw [maxW_i, hq]
  have hr := kR1_ok (st := S0) (j := q) (Int.le_trans (by decide) q0) (Int.lt_of_le_of_lt q1 (by decide))
  obtain ⟨env', S', e, ⟨c2, c3, c4, c5, rfl⟩, _⟩ := forW_ok (chk := (ItW.mk (intsW 0 q.toNat) none).Chk) (t := tName 2) (b := lawB)
    (fun i env S => (∃ c2 c3 c4 c5, env = [some (.fro (ns.map W.int)), some (.loc 1), c2, c3, c4, c5]) ∧ Deck 1 0 ns (100 * i) Y0 S) (fun _ _ _ _ => by simp) (intsW 0 q.toNat) 0 [some (.fro (ns.map W.int)), some (.loc 1), none, none, none, none] S0
    (fun j w env S hw hI => by
      obtain ⟨⟨c2, c3, c4, c5, rfl⟩, D⟩ := hI
      obtain ⟨hj, rfl⟩ := ints_get hw
      rw [Nat.zero_add] at *
      obtain ⟨x, y, m, s1, e1, hx, hy, hm0, hm1, D1, _⟩ := serials_ok D (by omega)
      obtain ⟨m', rfl⟩ : ∃ m' : Nat, m = (m' : Int) := ⟨m.toNat, by omega⟩
      obtain ⟨s2, e2, D2, _⟩ := circle_ok D1 (by omega) hx hy
      obtain ⟨s3, e3, D3, _⟩ := sright_ok (m := m') D2 (by omega) hx hy (by omega)
      obtain ⟨s4, e4, D4, _⟩ := errors_ok D3 (by omega) hx hy
      refine ⟨_, _, [some (.fro (ns.map W.int)), some (.loc 1), some (.int (0 + (j : Int))), some (.int x), some (.int y), some (.int (m' : Int))], s4, rfl, ?_, ⟨_, _, _, _, rfl⟩, D4.mono (by omega)⟩
      generalize (m' : Int) = M at *
      generalize (0 + (j : Int)) = J at *
      unfold lawB
      simp -implicitDefEqProofs only [sSeq_ap, sAsg_ap, dCall_ap, dCons_ap, dVar_ap, List.set_cons_succ, List.set_cons_zero, List.getElem?_cons_zero, List.getElem?_cons_succ, Res.bind_ok, kCons1_ap, dNil_ap, kCons2_ap, kCall_1, kCall_3, kCall_4, e1, Res.then_ok, kAsg_3, RsS.next_nx, sIf_ap, dOr_ap, dNot_ap, dBool_ap, e2, kBool_ap, kNot_ap, Bool.not_true, kOr_f, e3, e4, kSIf_f, sNil_ap]) ⟨⟨none, none, none, none, rfl⟩, D0⟩
  have hg : gc [] (.bl true) S' = .ok (.bl true) [] := by
    have := gcx_ok (p := 0) (st := []) (st' := S') (v := .bl true) ⟨Nat.zero_le _, fun i hi _ => absurd hi (Nat.not_lt_zero _)⟩ (fun o hp _ => absurd hp (Nat.not_lt_zero _)) rfl
    exact this
  unfold d_law; rw [fnDen_ap]; unfold b_law
  simp -implicitDefEqProofs only [List.map_cons, List.map_nil, List.length_cons, List.length_nil, Nat.reduceAdd, Nat.reduceSub, List.replicate_succ, List.replicate_zero, List.cons_append, List.nil_append]
  have e' : (sFor (dRange1 (dCons (dApp maxW (dCons (dC (.int 1)) (dCons (dApp minW (dCons (dC (.int 3)) (dCons (dOp fdivW (dApp lenW (dCons (dVar 0) dNil)) (dC (.int 12))) dNil))) dNil))) dNil)) (tName 2) lawB) [some (.fro (ns.map W.int)), some (.loc 1), none, none, none, none] S0 = .go .nx [some (.fro (ns.map W.int)), some (.loc 1), c2, c3, c4, c5] S' := by
    rw [sFor_ap]
    simp -implicitDefEqProofs only [dRange1_ap, dCons_ap, dApp_ap, dOp_ap, dC_ap, dVar_ap, List.getElem?_cons_zero, dNil_ap, Res.bind_ok, kOp1_ap, kCons1_ap, kCons2_ap, hlen, hdv, hmin, hmax, hr, Res.then_ok, kFor]
    exact e
  have body : b_law [some (.fro (ns.map W.int)), none, none, none, none, none] [] = .go (.rt (.bl true)) [some (.fro (ns.map W.int)), some (.loc 1), c2, c3, c4, c5] S' := by
    unfold b_law
    refine seq_go (env' := [some (.fro (ns.map W.int)), some (.loc 1), none, none, none, none]) (st' := S0) ?_ (seq_go e' ?_)
    · simp -implicitDefEqProofs only [sAsg_ap, dCall_ap, dCons_ap, dVar_ap, dNil_ap, List.getElem?_cons_zero, Res.bind_ok, kCons1_ap, kCons2_ap, kCall_1, e0, Res.then_ok, kAsg_n, List.set_cons_succ, List.set_cons_zero]
      rfl
    · simp -implicitDefEqProofs only [sRet_ap, dC_ap, Res.then_ok, kRet_ap]
  have body' := body
  unfold b_law at body'
  rw [body', fnR_rt, hg]
end
end K25
namespace K25
open PySem PySem.Spec PyProof.Rows L2 MP
noncomputable section
theorem all_mk {P : Program} {w : World} {K : PySem.W.Frag} {h : Heap} {mg : Str → Option Value} {fa : Addr} (X : K.In h) (G : h.Ns mainGlobals mg) (hfa : mg "law" = some (.ref fa))
    {fd0 : Addr} {odd0 and0 : Option Addr} {sld0 : Array (Option Value)} {ocd0 kVd0 dcd0 pmd0 cdd0 ctd0 : Value}
    {fd1 : Addr} {odd1 and1 : Option Addr} {sld1 : Array (Option Value)} {ocd1 kVd1 dcd1 pmd1 cdd1 ctd1 : Value}
    {fd2 : Addr} {odd2 and2 : Option Addr} {sld2 : Array (Option Value)} {ocd2 kVd2 dcd2 pmd2 cdd2 ctd2 : Value}
    {fd3 : Addr} {odd3 and3 : Option Addr} {sld3 : Array (Option Value)} {ocd3 kVd3 dcd3 pmd3 cdd3 ctd3 : Value}
    {fd4 : Addr} {odd4 and4 : Option Addr} {sld4 : Array (Option Value)} {ocd4 kVd4 dcd4 pmd4 cdd4 ctd4 : Value}
    {fd5 : Addr} {odd5 and5 : Option Addr} {sld5 : Array (Option Value)} {ocd5 kVd5 dcd5 pmd5 cdd5 ctd5 : Value}
    {fd6 : Addr} {odd6 and6 : Option Addr} {sld6 : Array (Option Value)} {ocd6 kVd6 dcd6 pmd6 cdd6 ctd6 : Value}
    {fd7 : Addr} {odd7 and7 : Option Addr} {sld7 : Array (Option Value)} {ocd7 kVd7 dcd7 pmd7 cdd7 ctd7 : Value}
    {fd8 : Addr} {odd8 and8 : Option Addr} {sld8 : Array (Option Value)} {ocd8 kVd8 dcd8 pmd8 cdd8 ctd8 : Value}
    {fd9 : Addr} {odd9 and9 : Option Addr} {sld9 : Array (Option Value)} {ocd9 kVd9 dcd9 pmd9 cdd9 ctd9 : Value}
    {fd10 : Addr} {odd10 and10 : Option Addr} {sld10 : Array (Option Value)} {ocd10 kVd10 dcd10 pmd10 cdd10 ctd10 : Value}
    {fd11 : Addr} {odd11 and11 : Option Addr} {sld11 : Array (Option Value)} {ocd11 kVd11 dcd11 pmd11 cdd11 ctd11 : Value}
    {fd12 : Addr} {odd12 and12 : Option Addr} {sld12 : Array (Option Value)} {ocd12 kVd12 dcd12 pmd12 cdd12 ctd12 : Value}
    {fd13 : Addr} {odd13 and13 : Option Addr} {sld13 : Array (Option Value)} {ocd13 kVd13 dcd13 pmd13 cdd13 ctd13 : Value}
    {fd14 : Addr} {odd14 and14 : Option Addr} {sld14 : Array (Option Value)} {ocd14 kVd14 dcd14 pmd14 cdd14 ctd14 : Value}
    {fd15 : Addr} {odd15 and15 : Option Addr} {sld15 : Array (Option Value)} {ocd15 kVd15 dcd15 pmd15 cdd15 ctd15 : Value}
    {fd16 : Addr} {odd16 and16 : Option Addr} {sld16 : Array (Option Value)} {ocd16 kVd16 dcd16 pmd16 cdd16 ctd16 : Value}
    {fd17 : Addr} {odd17 and17 : Option Addr} {sld17 : Array (Option Value)} {ocd17 kVd17 dcd17 pmd17 cdd17 ctd17 : Value}
    {fd18 : Addr} {odd18 and18 : Option Addr} {sld18 : Array (Option Value)} {ocd18 kVd18 dcd18 pmd18 cdd18 ctd18 : Value}
    {fd19 : Addr} {odd19 and19 : Option Addr} {sld19 : Array (Option Value)} {ocd19 kVd19 dcd19 pmd19 cdd19 ctd19 : Value}
    {fd20 : Addr} {odd20 and20 : Option Addr} {sld20 : Array (Option Value)} {ocd20 kVd20 dcd20 pmd20 cdd20 ctd20 : Value}
    {fd21 : Addr} {odd21 and21 : Option Addr} {sld21 : Array (Option Value)} {ocd21 kVd21 dcd21 pmd21 cdd21 ctd21 : Value}
    {fd22 : Addr} {odd22 and22 : Option Addr} {sld22 : Array (Option Value)} {ocd22 kVd22 dcd22 pmd22 cdd22 ctd22 : Value}
    {fd23 : Addr} {odd23 and23 : Option Addr} {sld23 : Array (Option Value)} {ocd23 kVd23 dcd23 pmd23 cdd23 ctd23 : Value}
    {fd24 : Addr} {odd24 and24 : Option Addr} {sld24 : Array (Option Value)} {ocd24 kVd24 dcd24 pmd24 cdd24 ctd24 : Value}
    {fd25 : Addr} {odd25 and25 : Option Addr} {sld25 : Array (Option Value)} {ocd25 kVd25 dcd25 pmd25 cdd25 ctd25 : Value}
    {fd26 : Addr} {odd26 and26 : Option Addr} {sld26 : Array (Option Value)} {ocd26 kVd26 dcd26 pmd26 cdd26 ctd26 : Value}
    {fd27 : Addr} {odd27 and27 : Option Addr} {sld27 : Array (Option Value)} {ocd27 kVd27 dcd27 pmd27 cdd27 ctd27 : Value}
    {fd28 : Addr} {odd28 and28 : Option Addr} {sld28 : Array (Option Value)} {ocd28 kVd28 dcd28 pmd28 cdd28 ctd28 : Value}
    {fI : Addr}
    {C0 : Addr}
    {C1 : Addr}
    {C2 : Addr}
    {odI anI : Option Addr} {slI : Array (Option Value)} {ocI kVI dcI pmI cdI ctI : Value}
    {nmC0 : _} {qC0 : _} {NC0 : _} {bsC0 : _} {bmC0 : _} {snC0 : _} {subC0 : _} {abC0 : _} {colC0 : _} {ddC0 : _} {k0C0 : _} {k1C0 : _} {k2C0 : _} {k3C0 : _} {k5C0 : _}
    {nmC1 : _} {qC1 : _} {NC1 : _} {bsC1 : _} {bmC1 : _} {snC1 : _} {subC1 : _} {abC1 : _} {colC1 : _} {ddC1 : _} {k0C1 : _} {k1C1 : _} {k2C1 : _} {k3C1 : _} {k5C1 : _}
    {nmC2 : _} {qC2 : _} {NC2 : _} {bsC2 : _} {bmC2 : _} {snC2 : _} {subC2 : _} {abC2 : _} {colC2 : _} {ddC2 : _} {k0C2 : _} {k1C2 : _} {k2C2 : _} {k3C2 : _} {k5C2 : _}
    {tK_MOST_SERIAL : Tok}
    {tK_ROUND : Tok}
    {tK_REACH : Tok}
    {tK_MOST_MISSED : Tok}
    (ad0 : PySem.W.nsIn K mainGlobals "is_whole" = some (some (.ref fd0)))
    (ld0 : K.lookup fd0 = some ⟨ocd0, odd0, .func (PySem.W.fnOf "is_whole" "is_whole" (defArgs (top 5)) (defBody (top 5)) (defScope (top 5)) .none kVd0 dcd0 pmd0 and0 cdd0 ctd0), sld0⟩)
    (cd0 : PySem.W.codeIn K cdd0 "is_whole" = true)
    (kd0 : PySem.W.keepIn K (.ref fd0) = true)
    (ad1 : PySem.W.nsIn K mainGlobals "is_between" = some (some (.ref fd1)))
    (ld1 : K.lookup fd1 = some ⟨ocd1, odd1, .func (PySem.W.fnOf "is_between" "is_between" (defArgs (top 6)) (defBody (top 6)) (defScope (top 6)) .none kVd1 dcd1 pmd1 and1 cdd1 ctd1), sld1⟩)
    (cd1 : PySem.W.codeIn K cdd1 "is_between" = true)
    (kd1 : PySem.W.keepIn K (.ref fd1) = true)
    (ad2 : PySem.W.nsIn K mainGlobals "rebuilt" = some (some (.ref fd2)))
    (ld2 : K.lookup fd2 = some ⟨ocd2, odd2, .func (PySem.W.fnOf "rebuilt" "rebuilt" (defArgs (top 7)) (defBody (top 7)) (defScope (top 7)) .none kVd2 dcd2 pmd2 and2 cdd2 ctd2), sld2⟩)
    (cd2 : PySem.W.codeIn K cdd2 "rebuilt" = true)
    (kd2 : PySem.W.keepIn K (.ref fd2) = true)
    (ad3 : PySem.W.nsIn K mainGlobals "is_serial" = some (some (.ref fd3)))
    (ld3 : K.lookup fd3 = some ⟨ocd3, odd3, .func (PySem.W.fnOf "is_serial" "is_serial" (defArgs (top 13)) (defBody (top 13)) (defScope (top 13)) .none kVd3 dcd3 pmd3 and3 cdd3 ctd3), sld3⟩)
    (cd3 : PySem.W.codeIn K cdd3 "is_serial" = true)
    (kd3 : PySem.W.keepIn K (.ref fd3) = true)
    (ad4 : PySem.W.nsIn K mainGlobals "check_serial" = some (some (.ref fd4)))
    (ld4 : K.lookup fd4 = some ⟨ocd4, odd4, .func (PySem.W.fnOf "check_serial" "check_serial" (defArgs (top 14)) (defBody (top 14)) (defScope (top 14)) .none kVd4 dcd4 pmd4 and4 cdd4 ctd4), sld4⟩)
    (cd4 : PySem.W.codeIn K cdd4 "check_serial" = true)
    (kd4 : PySem.W.keepIn K (.ref fd4) = true)
    (ad5 : PySem.W.nsIn K mainGlobals "_way_round" = some (some (.ref fd5)))
    (ld5 : K.lookup fd5 = some ⟨ocd5, odd5, .func (PySem.W.fnOf "_way_round" "_way_round" (defArgs (top 15)) (defBody (top 15)) (defScope (top 15)) .none kVd5 dcd5 pmd5 and5 cdd5 ctd5), sld5⟩)
    (cd5 : PySem.W.codeIn K cdd5 "_way_round" = true)
    (kd5 : PySem.W.keepIn K (.ref fd5) = true)
    (ad6 : PySem.W.nsIn K mainGlobals "newer" = some (some (.ref fd6)))
    (ld6 : K.lookup fd6 = some ⟨ocd6, odd6, .func (PySem.W.fnOf "newer" "newer" (defArgs (top 16)) (defBody (top 16)) (defScope (top 16)) .none kVd6 dcd6 pmd6 and6 cdd6 ctd6), sld6⟩)
    (cd6 : PySem.W.codeIn K cdd6 "newer" = true)
    (kd6 : PySem.W.keepIn K (.ref fd6) = true)
    (ad7 : PySem.W.nsIn K mainGlobals "further" = some (some (.ref fd7)))
    (ld7 : K.lookup fd7 = some ⟨ocd7, odd7, .func (PySem.W.fnOf "further" "further" (defArgs (top 17)) (defBody (top 17)) (defScope (top 17)) .none kVd7 dcd7 pmd7 and7 cdd7 ctd7), sld7⟩)
    (cd7 : PySem.W.codeIn K cdd7 "further" = true)
    (kd7 : PySem.W.keepIn K (.ref fd7) = true)
    (ad8 : PySem.W.nsIn K mainGlobals "newest" = some (some (.ref fd8)))
    (ld8 : K.lookup fd8 = some ⟨ocd8, odd8, .func (PySem.W.fnOf "newest" "newest" (defArgs (top 18)) (defBody (top 18)) (defScope (top 18)) .none kVd8 dcd8 pmd8 and8 cdd8 ctd8), sld8⟩)
    (cd8 : PySem.W.codeIn K cdd8 "newest" = true)
    (kd8 : PySem.W.keepIn K (.ref fd8) = true)
    (ad9 : PySem.W.nsIn K mainGlobals "_check_ends" = some (some (.ref fd9)))
    (ld9 : K.lookup fd9 = some ⟨ocd9, odd9, .func (PySem.W.fnOf "_check_ends" "_check_ends" (defArgs (top 19)) (defBody (top 19)) (defScope (top 19)) .none kVd9 dcd9 pmd9 and9 cdd9 ctd9), sld9⟩)
    (cd9 : PySem.W.codeIn K cdd9 "_check_ends" = true)
    (kd9 : PySem.W.keepIn K (.ref fd9) = true)
    (ad10 : PySem.W.nsIn K mainGlobals "_farthest" = some (some (.ref fd10)))
    (ld10 : K.lookup fd10 = some ⟨ocd10, odd10, .func (PySem.W.fnOf "_farthest" "_farthest" (defArgs (top 20)) (defBody (top 20)) (defScope (top 20)) .none kVd10 dcd10 pmd10 and10 cdd10 ctd10), sld10⟩)
    (cd10 : PySem.W.codeIn K cdd10 "_farthest" = true)
    (kd10 : PySem.W.keepIn K (.ref fd10) = true)
    (ad11 : PySem.W.nsIn K mainGlobals "fewest_steps" = some (some (.ref fd11)))
    (ld11 : K.lookup fd11 = some ⟨ocd11, odd11, .func (PySem.W.fnOf "fewest_steps" "fewest_steps" (defArgs (top 21)) (defBody (top 21)) (defScope (top 21)) .none kVd11 dcd11 pmd11 and11 cdd11 ctd11), sld11⟩)
    (cd11 : PySem.W.codeIn K cdd11 "fewest_steps" = true)
    (kd11 : PySem.W.keepIn K (.ref fd11) = true)
    (ad12 : PySem.W.nsIn K mainGlobals "steps" = some (some (.ref fd12)))
    (ld12 : K.lookup fd12 = some ⟨ocd12, odd12, .func (PySem.W.fnOf "steps" "steps" (defArgs (top 22)) (defBody (top 22)) (defScope (top 22)) .none kVd12 dcd12 pmd12 and12 cdd12 ctd12), sld12⟩)
    (cd12 : PySem.W.codeIn K cdd12 "steps" = true)
    (kd12 : PySem.W.keepIn K (.ref fd12) = true)
    (ad13 : PySem.W.nsIn K mainGlobals "judge_steps" = some (some (.ref fd13)))
    (ld13 : K.lookup fd13 = some ⟨ocd13, odd13, .func (PySem.W.fnOf "judge_steps" "judge_steps" (defArgs (top 23)) (defBody (top 23)) (defScope (top 23)) .none kVd13 dcd13 pmd13 and13 cdd13 ctd13), sld13⟩)
    (cd13 : PySem.W.codeIn K cdd13 "judge_steps" = true)
    (kd13 : PySem.W.keepIn K (.ref fd13) = true)
    (ad14 : PySem.W.nsIn K mainGlobals "_is_way" = some (some (.ref fd14)))
    (ld14 : K.lookup fd14 = some ⟨ocd14, odd14, .func (PySem.W.fnOf "_is_way" "_is_way" (defArgs (top 24)) (defBody (top 24)) (defScope (top 24)) .none kVd14 dcd14 pmd14 and14 cdd14 ctd14), sld14⟩)
    (cd14 : PySem.W.codeIn K cdd14 "_is_way" = true)
    (kd14 : PySem.W.keepIn K (.ref fd14) = true)
    (ad15 : PySem.W.nsIn K mainGlobals "_law_deck" = some (some (.ref fd15)))
    (ld15 : K.lookup fd15 = some ⟨ocd15, odd15, .func (PySem.W.fnOf "_law_deck" "_law_deck" (defArgs (top 26)) (defBody (top 26)) (defScope (top 26)) .none kVd15 dcd15 pmd15 and15 cdd15 ctd15), sld15⟩)
    (cd15 : PySem.W.codeIn K cdd15 "_law_deck" = true)
    (kd15 : PySem.W.keepIn K (.ref fd15) = true)
    (ad16 : PySem.W.nsIn K mainGlobals "_law_draw" = some (some (.ref fd16)))
    (ld16 : K.lookup fd16 = some ⟨ocd16, odd16, .func (PySem.W.fnOf "_law_draw" "_law_draw" (defArgs (top 27)) (defBody (top 27)) (defScope (top 27)) .none kVd16 dcd16 pmd16 and16 cdd16 ctd16), sld16⟩)
    (cd16 : PySem.W.codeIn K cdd16 "_law_draw" = true)
    (kd16 : PySem.W.keepIn K (.ref fd16) = true)
    (ad17 : PySem.W.nsIn K mainGlobals "_law_way" = some (some (.ref fd17)))
    (ld17 : K.lookup fd17 = some ⟨ocd17, odd17, .func (PySem.W.fnOf "_law_way" "_law_way" (defArgs (top 28)) (defBody (top 28)) (defScope (top 28)) .none kVd17 dcd17 pmd17 and17 cdd17 ctd17), sld17⟩)
    (cd17 : PySem.W.codeIn K cdd17 "_law_way" = true)
    (kd17 : PySem.W.keepIn K (.ref fd17) = true)
    (ad18 : PySem.W.nsIn K mainGlobals "_law_is_newer" = some (some (.ref fd18)))
    (ld18 : K.lookup fd18 = some ⟨ocd18, odd18, .func (PySem.W.fnOf "_law_is_newer" "_law_is_newer" (defArgs (top 29)) (defBody (top 29)) (defScope (top 29)) .none kVd18 dcd18 pmd18 and18 cdd18 ctd18), sld18⟩)
    (cd18 : PySem.W.codeIn K cdd18 "_law_is_newer" = true)
    (kd18 : PySem.W.keepIn K (.ref fd18) = true)
    (ad19 : PySem.W.nsIn K mainGlobals "_law_serials" = some (some (.ref fd19)))
    (ld19 : K.lookup fd19 = some ⟨ocd19, odd19, .func (PySem.W.fnOf "_law_serials" "_law_serials" (defArgs (top 30)) (defBody (top 30)) (defScope (top 30)) .none kVd19 dcd19 pmd19 and19 cdd19 ctd19), sld19⟩)
    (cd19 : PySem.W.codeIn K cdd19 "_law_serials" = true)
    (kd19 : PySem.W.keepIn K (.ref fd19) = true)
    (ad20 : PySem.W.nsIn K mainGlobals "_law_longest" = some (some (.ref fd20)))
    (ld20 : K.lookup fd20 = some ⟨ocd20, odd20, .func (PySem.W.fnOf "_law_longest" "_law_longest" (defArgs (top 31)) (defBody (top 31)) (defScope (top 31)) .none kVd20 dcd20 pmd20 and20 cdd20 ctd20), sld20⟩)
    (cd20 : PySem.W.codeIn K cdd20 "_law_longest" = true)
    (kd20 : PySem.W.keepIn K (.ref fd20) = true)
    (ad21 : PySem.W.nsIn K mainGlobals "_law_fewest" = some (some (.ref fd21)))
    (ld21 : K.lookup fd21 = some ⟨ocd21, odd21, .func (PySem.W.fnOf "_law_fewest" "_law_fewest" (defArgs (top 32)) (defBody (top 32)) (defScope (top 32)) .none kVd21 dcd21 pmd21 and21 cdd21 ctd21), sld21⟩)
    (cd21 : PySem.W.codeIn K cdd21 "_law_fewest" = true)
    (kd21 : PySem.W.keepIn K (.ref fd21) = true)
    (ad22 : PySem.W.nsIn K mainGlobals "_law_is_way" = some (some (.ref fd22)))
    (ld22 : K.lookup fd22 = some ⟨ocd22, odd22, .func (PySem.W.fnOf "_law_is_way" "_law_is_way" (defArgs (top 33)) (defBody (top 33)) (defScope (top 33)) .none kVd22 dcd22 pmd22 and22 cdd22 ctd22), sld22⟩)
    (cd22 : PySem.W.codeIn K cdd22 "_law_is_way" = true)
    (kd22 : PySem.W.keepIn K (.ref fd22) = true)
    (ad23 : PySem.W.nsIn K mainGlobals "_law_error" = some (some (.ref fd23)))
    (ld23 : K.lookup fd23 = some ⟨ocd23, odd23, .func (PySem.W.fnOf "_law_error" "_law_error" (defArgs (top 34)) (defBody (top 34)) (defScope (top 34)) .none kVd23 dcd23 pmd23 and23 cdd23 ctd23), sld23⟩)
    (cd23 : PySem.W.codeIn K cdd23 "_law_error" = true)
    (kd23 : PySem.W.keepIn K (.ref fd23) = true)
    (ad24 : PySem.W.nsIn K mainGlobals "_law_errors_right" = some (some (.ref fd24)))
    (ld24 : K.lookup fd24 = some ⟨ocd24, odd24, .func (PySem.W.fnOf "_law_errors_right" "_law_errors_right" (defArgs (top 35)) (defBody (top 35)) (defScope (top 35)) .none kVd24 dcd24 pmd24 and24 cdd24 ctd24), sld24⟩)
    (cd24 : PySem.W.codeIn K cdd24 "_law_errors_right" = true)
    (kd24 : PySem.W.keepIn K (.ref fd24) = true)
    (ad25 : PySem.W.nsIn K mainGlobals "_law_circle_right" = some (some (.ref fd25)))
    (ld25 : K.lookup fd25 = some ⟨ocd25, odd25, .func (PySem.W.fnOf "_law_circle_right" "_law_circle_right" (defArgs (top 36)) (defBody (top 36)) (defScope (top 36)) .none kVd25 dcd25 pmd25 and25 cdd25 ctd25), sld25⟩)
    (cd25 : PySem.W.codeIn K cdd25 "_law_circle_right" = true)
    (kd25 : PySem.W.keepIn K (.ref fd25) = true)
    (ad26 : PySem.W.nsIn K mainGlobals "_law_spoilt" = some (some (.ref fd26)))
    (ld26 : K.lookup fd26 = some ⟨ocd26, odd26, .func (PySem.W.fnOf "_law_spoilt" "_law_spoilt" (defArgs (top 37)) (defBody (top 37)) (defScope (top 37)) .none kVd26 dcd26 pmd26 and26 cdd26 ctd26), sld26⟩)
    (cd26 : PySem.W.codeIn K cdd26 "_law_spoilt" = true)
    (kd26 : PySem.W.keepIn K (.ref fd26) = true)
    (ad27 : PySem.W.nsIn K mainGlobals "_law_steps_right" = some (some (.ref fd27)))
    (ld27 : K.lookup fd27 = some ⟨ocd27, odd27, .func (PySem.W.fnOf "_law_steps_right" "_law_steps_right" (defArgs (top 38)) (defBody (top 38)) (defScope (top 38)) .none kVd27 dcd27 pmd27 and27 cdd27 ctd27), sld27⟩)
    (cd27 : PySem.W.codeIn K cdd27 "_law_steps_right" = true)
    (kd27 : PySem.W.keepIn K (.ref fd27) = true)
    (ad28 : PySem.W.nsIn K mainGlobals "law" = some (some (.ref fd28)))
    (ld28 : K.lookup fd28 = some ⟨ocd28, odd28, .func (PySem.W.fnOf "law" "law" (defArgs (top 39)) (defBody (top 39)) (defScope (top 39)) .none kVd28 dcd28 pmd28 and28 cdd28 ctd28), sld28⟩)
    (cd28 : PySem.W.codeIn K cdd28 "law" = true)
    (kd28 : PySem.W.keepIn K (.ref fd28) = true)
    (aC0 : PySem.W.nsIn K mainGlobals "TreeError" = some (some (.ref C0)))
    (iC0 : PySem.W.findIn K (.ref C0) "__init__" = some (some (.ref fI)))
    (aC1 : PySem.W.nsIn K mainGlobals "InvalidNumber" = some (some (.ref C1)))
    (iC1 : PySem.W.findIn K (.ref C1) "__init__" = some (some (.ref fI)))
    (aC2 : PySem.W.nsIn K mainGlobals "InvalidSerial" = some (some (.ref C2)))
    (iC2 : PySem.W.findIn K (.ref C2) "__init__" = some (some (.ref fI)))
    (lI : K.lookup fI = some ⟨ocI, odI, .func (PySem.W.fnOf "__init__" "TreeError.__init__" (defArgs (inClass (top 1) 0)) (defBody (inClass (top 1) 0)) (defScope (inClass (top 1) 0)) .none kVI dcI pmI anI cdI ctI), slI⟩)
    (cI : PySem.W.codeIn K cdI "TreeError.__init__" = true)
    (kI : PySem.W.keepIn K (.ref fI) = true)
    (yI : PySem.W.typeIn K (.ref fI) = some (.type "function"))
    (eC0 : K.lookup C0 = some (excClassObj nmC0 qC0 C0 NC0 bsC0 bmC0 true snC0 subC0 abC0 colC0 ddC0 k0C0 k1C0 k2C0 k3C0 k5C0 "ValueError.__new__"))
    (rC0 : PySem.HandSPX.refsVE bmC0 = true)
    (sC0 : PySem.W.findIn K (.ref C0) "__setattr__" = some (some (.builtin "object.__setattr__")))
    (xC0 : PySem.W.subIn K (.ref C0) (.type "BaseException") = some true)
    (yC0 : PySem.W.typeIn K (.ref C0) = some (.type "type"))
    (kC0 : PySem.W.keepIn K (.ref C0) = true)
    (vC0 : PySem.W.findIn K (.ref C0) "value" = some none)
    (gC0 : PySem.W.findIn K (.ref C0) "__getattribute__" = some (some (.builtin "BaseException.__getattribute__")))
    (hC0 : PySem.W.findIn K (.ref C0) "__getattr__" = some none)
    (dC0 : PySem.W.hasDictIn K C0 = true)
    (eC1 : K.lookup C1 = some (excClassObj nmC1 qC1 C1 NC1 bsC1 bmC1 true snC1 subC1 abC1 colC1 ddC1 k0C1 k1C1 k2C1 k3C1 k5C1 "ValueError.__new__"))
    (rC1 : PySem.HandSPX.refsVE bmC1 = true)
    (sC1 : PySem.W.findIn K (.ref C1) "__setattr__" = some (some (.builtin "object.__setattr__")))
    (xC1 : PySem.W.subIn K (.ref C1) (.type "BaseException") = some true)
    (yC1 : PySem.W.typeIn K (.ref C1) = some (.type "type"))
    (kC1 : PySem.W.keepIn K (.ref C1) = true)
    (vC1 : PySem.W.findIn K (.ref C1) "value" = some none)
    (gC1 : PySem.W.findIn K (.ref C1) "__getattribute__" = some (some (.builtin "BaseException.__getattribute__")))
    (hC1 : PySem.W.findIn K (.ref C1) "__getattr__" = some none)
    (dC1 : PySem.W.hasDictIn K C1 = true)
    (eC2 : K.lookup C2 = some (excClassObj nmC2 qC2 C2 NC2 bsC2 bmC2 true snC2 subC2 abC2 colC2 ddC2 k0C2 k1C2 k2C2 k3C2 k5C2 "ValueError.__new__"))
    (rC2 : PySem.HandSPX.refsVE bmC2 = true)
    (sC2 : PySem.W.findIn K (.ref C2) "__setattr__" = some (some (.builtin "object.__setattr__")))
    (xC2 : PySem.W.subIn K (.ref C2) (.type "BaseException") = some true)
    (yC2 : PySem.W.typeIn K (.ref C2) = some (.type "type"))
    (kC2 : PySem.W.keepIn K (.ref C2) = true)
    (vC2 : PySem.W.findIn K (.ref C2) "value" = some none)
    (gC2 : PySem.W.findIn K (.ref C2) "__getattribute__" = some (some (.builtin "BaseException.__getattribute__")))
    (hC2 : PySem.W.findIn K (.ref C2) "__getattr__" = some none)
    (dC2 : PySem.W.hasDictIn K C2 = true)
    (aK_MOST_SERIAL : PySem.W.nsIn K mainGlobals "MOST_SERIAL" = some (some (.int 4294967295 tK_MOST_SERIAL)))
    (aK_ROUND : PySem.W.nsIn K mainGlobals "ROUND" = some (some (.int 4294967296 tK_ROUND)))
    (aK_REACH : PySem.W.nsIn K mainGlobals "REACH" = some (some (.int 2147483647 tK_REACH)))
    (aK_MOST_MISSED : PySem.W.nsIn K mainGlobals "MOST_MISSED" = some (some (.int 1000 tK_MOST_MISSED)))
    (n_abs : PySem.W.nsIn K mainGlobals "abs" = some none)
    (n_all : PySem.W.nsIn K mainGlobals "all" = some none)
    (n_bool : PySem.W.nsIn K mainGlobals "bool" = some none)
    (n_divmod : PySem.W.nsIn K mainGlobals "divmod" = some none)
    (n_int : PySem.W.nsIn K mainGlobals "int" = some none)
    (n_isinstance : PySem.W.nsIn K mainGlobals "isinstance" = some none)
    (n_len : PySem.W.nsIn K mainGlobals "len" = some none)
    (n_list : PySem.W.nsIn K mainGlobals "list" = some none)
    (n_max : PySem.W.nsIn K mainGlobals "max" = some none)
    (n_min : PySem.W.nsIn K mainGlobals "min" = some none)
    (n_range : PySem.W.nsIn K mainGlobals "range" = some none)
    (n_repr : PySem.W.nsIn K mainGlobals "repr" = some none)
    (n_tuple : PySem.W.nsIn K mainGlobals "tuple" = some none)
    (n_zip : PySem.W.nsIn K mainGlobals "zip" = some none)
    (u_TreeError_TreeError : PySem.W.subIn K (.ref C0) (.ref C0) = some true)
    (u_InvalidNumber_TreeError : PySem.W.subIn K (.ref C1) (.ref C0) = some true)
    (u_InvalidSerial_TreeError : PySem.W.subIn K (.ref C2) (.ref C0) = some true)
    (kaC0 : PySem.W.findIn K (.ref C0) "__class__" = some (some (.builtin "object.__class__")))
    (kmC0 : PySem.W.mroIn K C0 (.type "object") = some true)
    (kaC1 : PySem.W.findIn K (.ref C1) "__class__" = some (some (.builtin "object.__class__")))
    (kmC1 : PySem.W.mroIn K C1 (.type "object") = some true)
    (kaC2 : PySem.W.findIn K (.ref C2) "__class__" = some (some (.builtin "object.__class__")))
    (kmC2 : PySem.W.mroIn K C2 (.type "object") = some true)
    (kn : PySem.W.specialIn K (.builtin "object.__class__") "__get__" = some (some (.builtin "getset_descriptor.__get__")))
    (kt : PySem.W.takesIn K (.builtin "object.__class__") = some true)
    (u_TreeError_InvalidNumber : PySem.W.subIn K (.ref C0) (.ref C1) = some false)
    (u_InvalidNumber_InvalidNumber : PySem.W.subIn K (.ref C1) (.ref C1) = some true)
    (u_InvalidSerial_InvalidNumber : PySem.W.subIn K (.ref C2) (.ref C1) = some false)
    (u_TreeError_InvalidSerial : PySem.W.subIn K (.ref C0) (.ref C2) = some false)
    (u_InvalidNumber_InvalidSerial : PySem.W.subIn K (.ref C1) (.ref C2) = some false)
    (u_InvalidSerial_InvalidSerial : PySem.W.subIn K (.ref C2) (.ref C2) = some true) :
    ∃ fd : FuncData, (∀ (s : Shared) (v : Value), BindsTo s fd ⟨[v], []⟩ [("_law_script", v)]) ∧ ∀ base : Heap, K.In base → base.Ns mainGlobals mg → FnOk P w K mg base (L2.CX P w) 15 fa fd ["_law_script"] (spLaw K) := by
  have e := hfa.symm.trans (PySem.W.mg_of X G ad28)
  cases e
  refine ⟨PySem.W.fnOf "law" "law" (defArgs (top 39)) (defBody (top 39)) (defScope (top 39)) .none kVd28 dcd28 pmd28 and28 cdd28 ctd28, fun s v => .of_eq rfl, fun base _ _ => ?_⟩
  have FI := fun_mk (st := inClass (top 1) 0) lI cI kI
  have OI : FnOk P w K mg base (L2.CX P w) 1 fI _ ["self", "value"] (spExc K) := exc_init_ok FI ⟨rfl, rfl, rfl, by decide +kernel, rfl, by decide +kernel, by decide +kernel⟩ rfl rfl rfl
  have BI := FI.binds (ps := ["self", "value"]) fun _ _ _ _ _ _ us hl => match us, hl with | [_, _], _ => rfl
  have XC0 : XfC K C0 := ⟨gC0, hC0, xC0, dC0⟩
  have EC0 : ErrC K mg "TreeError" C0 fI := ⟨⟨⟨_, _, _, _, _, _, _, _, _, _, _, _, _, _, _, eC0, rC0⟩, sC0, xC0, yC0, kC0⟩, PySem.W.mg_of X G aC0, iC0, yI, vC0, XC0⟩
  have XC1 : XfC K C1 := ⟨gC1, hC1, xC1, dC1⟩
  have EC1 : ErrC K mg "InvalidNumber" C1 fI := ⟨⟨⟨_, _, _, _, _, _, _, _, _, _, _, _, _, _, _, eC1, rC1⟩, sC1, xC1, yC1, kC1⟩, PySem.W.mg_of X G aC1, iC1, yI, vC1, XC1⟩
  have XC2 : XfC K C2 := ⟨gC2, hC2, xC2, dC2⟩
  have EC2 : ErrC K mg "InvalidSerial" C2 fI := ⟨⟨⟨_, _, _, _, _, _, _, _, _, _, _, _, _, _, _, eC2, rC2⟩, sC2, xC2, yC2, kC2⟩, PySem.W.mg_of X G aC2, iC2, yI, vC2, XC2⟩
  let T : Txt P w K mg base := {
    D_is_whole := ⟨fd0, _, fun_mk (st := top 5) ld0 cd0 kd0, PySem.W.mg_of X G ad0, (fun_mk (st := top 5) ld0 cd0 kd0).binds (ps := ["value"]) fun _ _ _ _ _ _ us hl => match us, hl with | [_], _ => rfl⟩,
    D_is_between := ⟨fd1, _, fun_mk (st := top 6) ld1 cd1 kd1, PySem.W.mg_of X G ad1, (fun_mk (st := top 6) ld1 cd1 kd1).binds (ps := ["value", "least", "most"]) fun _ _ _ _ _ _ us hl => match us, hl with | [_, _, _], _ => rfl⟩,
    D_rebuilt := ⟨fd2, _, fun_mk (st := top 7) ld2 cd2 kd2, PySem.W.mg_of X G ad2, (fun_mk (st := top 7) ld2 cd2 kd2).binds (ps := ["value"]) fun _ _ _ _ _ _ us hl => match us, hl with | [_], _ => rfl⟩,
    D_is_serial := ⟨fd3, _, fun_mk (st := top 13) ld3 cd3 kd3, PySem.W.mg_of X G ad3, (fun_mk (st := top 13) ld3 cd3 kd3).binds (ps := ["value"]) fun _ _ _ _ _ _ us hl => match us, hl with | [_], _ => rfl⟩,
    D_check_serial := ⟨fd4, _, fun_mk (st := top 14) ld4 cd4 kd4, PySem.W.mg_of X G ad4, (fun_mk (st := top 14) ld4 cd4 kd4).binds (ps := ["serial"]) fun _ _ _ _ _ _ us hl => match us, hl with | [_], _ => rfl⟩,
    D__way_round := ⟨fd5, _, fun_mk (st := top 15) ld5 cd5 kd5, PySem.W.mg_of X G ad5, (fun_mk (st := top 15) ld5 cd5 kd5).binds (ps := ["one", "other"]) fun _ _ _ _ _ _ us hl => match us, hl with | [_, _], _ => rfl⟩,
    D_newer := ⟨fd6, _, fun_mk (st := top 16) ld6 cd6 kd6, PySem.W.mg_of X G ad6, (fun_mk (st := top 16) ld6 cd6 kd6).binds (ps := ["one", "other"]) fun _ _ _ _ _ _ us hl => match us, hl with | [_, _], _ => rfl⟩,
    k_newer_1_0 := fun s ws _ hl => match ws, hl with | [_, _], _ => .of_eq rfl,
    D_further := ⟨fd7, _, fun_mk (st := top 17) ld7 cd7 kd7, PySem.W.mg_of X G ad7, (fun_mk (st := top 17) ld7 cd7 kd7).binds (ps := ["serial", "steps"]) fun _ _ _ _ _ _ us hl => match us, hl with | [_, _], _ => rfl⟩,
    k_further_1_0 := fun s ws _ hl => match ws, hl with | [_, _], _ => .of_eq rfl,
    D_newest := ⟨fd8, _, fun_mk (st := top 18) ld8 cd8 kd8, PySem.W.mg_of X G ad8, (fun_mk (st := top 18) ld8 cd8 kd8).binds (ps := ["serials"]) fun _ _ _ _ _ _ us hl => match us, hl with | [_], _ => rfl⟩,
    k_newest := fun s ws _ hl => match ws, hl with | [_], _ => .of_eq rfl,
    D__check_ends := ⟨fd9, _, fun_mk (st := top 19) ld9 cd9 kd9, PySem.W.mg_of X G ad9, (fun_mk (st := top 19) ld9 cd9 kd9).binds (ps := ["one", "other", "missed"]) fun _ _ _ _ _ _ us hl => match us, hl with | [_, _, _], _ => rfl⟩,
    D__farthest := ⟨fd10, _, fun_mk (st := top 20) ld10 cd10 kd10, PySem.W.mg_of X G ad10, (fun_mk (st := top 20) ld10 cd10 kd10).binds (ps := ["many", "together"]) fun _ _ _ _ _ _ us hl => match us, hl with | [_, _], _ => rfl⟩,
    D_fewest_steps := ⟨fd11, _, fun_mk (st := top 21) ld11 cd11 kd11, PySem.W.mg_of X G ad11, (fun_mk (st := top 21) ld11 cd11 kd11).binds (ps := ["one", "other", "missed"]) fun _ _ _ _ _ _ us hl => match us, hl with | [_, _, _], _ => rfl⟩,
    k_fewest_steps_2_1_0 := fun s ws _ hl => match ws, hl with | [_, _, _], _ => .of_eq rfl,
    D_steps := ⟨fd12, _, fun_mk (st := top 22) ld12 cd12 kd12, PySem.W.mg_of X G ad12, (fun_mk (st := top 22) ld12 cd12 kd12).binds (ps := ["one", "other", "missed"]) fun _ _ _ _ _ _ us hl => match us, hl with | [_, _, _], _ => rfl⟩,
    k_steps_2_0_1 := fun s ws _ hl => match ws, hl with | [_, _, _], _ => .of_eq rfl,
    D_judge_steps := ⟨fd13, _, fun_mk (st := top 23) ld13 cd13 kd13, PySem.W.mg_of X G ad13, (fun_mk (st := top 23) ld13 cd13 kd13).binds (ps := ["one", "other", "missed", "value"]) fun _ _ _ _ _ _ us hl => match us, hl with | [_, _, _, _], _ => rfl⟩,
    k_judge_steps_3_2_1_0 := fun s ws _ hl => match ws, hl with | [_, _, _, _], _ => .of_eq rfl,
    D__is_way := ⟨fd14, _, fun_mk (st := top 24) ld14 cd14 kd14, PySem.W.mg_of X G ad14, (fun_mk (st := top 24) ld14 cd14 kd14).binds (ps := ["way", "together"]) fun _ _ _ _ _ _ us hl => match us, hl with | [_, _], _ => rfl⟩,
    D__law_deck := ⟨fd15, _, fun_mk (st := top 26) ld15 cd15 kd15, PySem.W.mg_of X G ad15, (fun_mk (st := top 26) ld15 cd15 kd15).binds (ps := ["_law_script"]) fun _ _ _ _ _ _ us hl => match us, hl with | [_], _ => rfl⟩,
    D__law_draw := ⟨fd16, _, fun_mk (st := top 27) ld16 cd16 kd16, PySem.W.mg_of X G ad16, (fun_mk (st := top 27) ld16 cd16 kd16).binds (ps := ["_law_deck_here", "_law_size"]) fun _ _ _ _ _ _ us hl => match us, hl with | [_, _], _ => rfl⟩,
    D__law_way := ⟨fd17, _, fun_mk (st := top 28) ld17 cd17 kd17, PySem.W.mg_of X G ad17, (fun_mk (st := top 28) ld17 cd17 kd17).binds (ps := ["_law_one", "_law_other"]) fun _ _ _ _ _ _ us hl => match us, hl with | [_, _], _ => rfl⟩,
    D__law_is_newer := ⟨fd18, _, fun_mk (st := top 29) ld18 cd18 kd18, PySem.W.mg_of X G ad18, (fun_mk (st := top 29) ld18 cd18 kd18).binds (ps := ["_law_one", "_law_other"]) fun _ _ _ _ _ _ us hl => match us, hl with | [_, _], _ => rfl⟩,
    D__law_serials := ⟨fd19, _, fun_mk (st := top 30) ld19 cd19 kd19, PySem.W.mg_of X G ad19, (fun_mk (st := top 30) ld19 cd19 kd19).binds (ps := ["_law_deck_here"]) fun _ _ _ _ _ _ us hl => match us, hl with | [_], _ => rfl⟩,
    D__law_longest := ⟨fd20, _, fun_mk (st := top 31) ld20 cd20 kd20, PySem.W.mg_of X G ad20, (fun_mk (st := top 31) ld20 cd20 kd20).binds (ps := ["_law_count", "_law_wide"]) fun _ _ _ _ _ _ us hl => match us, hl with | [_, _], _ => rfl⟩,
    D__law_fewest := ⟨fd21, _, fun_mk (st := top 32) ld21 cd21 kd21, PySem.W.mg_of X G ad21, (fun_mk (st := top 32) ld21 cd21 kd21).binds (ps := ["_law_one", "_law_other", "_law_missed"]) fun _ _ _ _ _ _ us hl => match us, hl with | [_, _, _], _ => rfl⟩,
    D__law_is_way := ⟨fd22, _, fun_mk (st := top 33) ld22 cd22 kd22, PySem.W.mg_of X G ad22, (fun_mk (st := top 33) ld22 cd22 kd22).binds (ps := ["_law_one", "_law_other", "_law_missed", "_law_value"]) fun _ _ _ _ _ _ us hl => match us, hl with | [_, _, _, _], _ => rfl⟩,
    D__law_error := ⟨fd23, _, fun_mk (st := top 34) ld23 cd23 kd23, PySem.W.mg_of X G ad23, (fun_mk (st := top 34) ld23 cd23 kd23).binds (ps := ["_law_way_here", "_law_first", "_law_second", "_law_third"]) fun _ _ _ _ _ _ us hl => match us, hl with | [_, _, _, _], _ => rfl⟩,
    D__law_errors_right := ⟨fd24, _, fun_mk (st := top 35) ld24 cd24 kd24, PySem.W.mg_of X G ad24, (fun_mk (st := top 35) ld24 cd24 kd24).binds (ps := ["_law_deck_here", "_law_one", "_law_other"]) fun _ _ _ _ _ _ us hl => match us, hl with | [_, _, _], _ => rfl⟩,
    D__law_circle_right := ⟨fd25, _, fun_mk (st := top 36) ld25 cd25 kd25, PySem.W.mg_of X G ad25, (fun_mk (st := top 36) ld25 cd25 kd25).binds (ps := ["_law_deck_here", "_law_one", "_law_other"]) fun _ _ _ _ _ _ us hl => match us, hl with | [_, _, _], _ => rfl⟩,
    D__law_spoilt := ⟨fd26, _, fun_mk (st := top 37) ld26 cd26 kd26, PySem.W.mg_of X G ad26, (fun_mk (st := top 37) ld26 cd26 kd26).binds (ps := ["_law_deck_here", "_law_one", "_law_other", "_law_way_here"]) fun _ _ _ _ _ _ us hl => match us, hl with | [_, _, _, _], _ => rfl⟩,
    D__law_steps_right := ⟨fd27, _, fun_mk (st := top 38) ld27 cd27 kd27, PySem.W.mg_of X G ad27, (fun_mk (st := top 38) ld27 cd27 kd27).binds (ps := ["_law_deck_here", "_law_one", "_law_other", "_law_missed"]) fun _ _ _ _ _ _ us hl => match us, hl with | [_, _, _, _], _ => rfl⟩,
    D_law := ⟨fa, _, fun_mk (st := top 39) ld28 cd28 kd28, PySem.W.mg_of X G ad28, (fun_mk (st := top 39) ld28 cd28 kd28).binds (ps := ["_law_script"]) fun _ _ _ _ _ _ us hl => match us, hl with | [_], _ => rfl⟩,
    E_TreeError := ⟨C0, fI, _, EC0, OI, BI⟩,
    E_InvalidNumber := ⟨C1, fI, _, EC1, OI, BI⟩,
    E_InvalidSerial := ⟨C2, fI, _, EC2, OI, BI⟩,
    c_MOST_SERIAL := ⟨_, PySem.W.mg_of X G aK_MOST_SERIAL⟩,
    c_ROUND := ⟨_, PySem.W.mg_of X G aK_ROUND⟩,
    c_REACH := ⟨_, PySem.W.mg_of X G aK_REACH⟩,
    c_MOST_MISSED := ⟨_, PySem.W.mg_of X G aK_MOST_MISSED⟩,
    n_abs := PySem.W.mg_none_of X G n_abs,
    n_all := PySem.W.mg_none_of X G n_all,
    n_bool := PySem.W.mg_none_of X G n_bool,
    n_divmod := PySem.W.mg_none_of X G n_divmod,
    n_int := PySem.W.mg_none_of X G n_int,
    n_isinstance := PySem.W.mg_none_of X G n_isinstance,
    n_len := PySem.W.mg_none_of X G n_len,
    n_list := PySem.W.mg_none_of X G n_list,
    n_max := PySem.W.mg_none_of X G n_max,
    n_min := PySem.W.mg_none_of X G n_min,
    n_range := PySem.W.mg_none_of X G n_range,
    n_repr := PySem.W.mg_none_of X G n_repr,
    n_tuple := PySem.W.mg_none_of X G n_tuple,
    n_zip := PySem.W.mg_none_of X G n_zip,
    sub_TreeError := mem_all (⟨⟨C0, EC0.mgC, PySem.W.exm_ref xC0 dC0 yC0 u_TreeError_TreeError, XC0, vC0⟩, ⟨⟨C1, EC1.mgC, PySem.W.exm_ref xC0 dC0 yC0 u_InvalidNumber_TreeError, XC1, vC1⟩, ⟨⟨C2, EC2.mgC, PySem.W.exm_ref xC0 dC0 yC0 u_InvalidSerial_TreeError, XC2, vC2⟩, trivial⟩⟩⟩),
    xc_InvalidNumber := mem_all (⟨⟨C0, EC0.mgC, ⟨cls_some dC0, kaC0, kn, kt, kmC0⟩, (kit_ref dC1 yC1 u_InvalidNumber_InvalidNumber u_TreeError_InvalidNumber)⟩, ⟨⟨C1, EC1.mgC, ⟨cls_some dC1, kaC1, kn, kt, kmC1⟩, (kit_ref dC1 yC1 u_InvalidNumber_InvalidNumber u_InvalidNumber_InvalidNumber)⟩, ⟨⟨C2, EC2.mgC, ⟨cls_some dC2, kaC2, kn, kt, kmC2⟩, (kit_ref dC1 yC1 u_InvalidNumber_InvalidNumber u_InvalidSerial_InvalidNumber)⟩, trivial⟩⟩⟩),
    xc_InvalidSerial := mem_all (⟨⟨C0, EC0.mgC, ⟨cls_some dC0, kaC0, kn, kt, kmC0⟩, (kit_ref dC2 yC2 u_InvalidSerial_InvalidSerial u_TreeError_InvalidSerial)⟩, ⟨⟨C1, EC1.mgC, ⟨cls_some dC1, kaC1, kn, kt, kmC1⟩, (kit_ref dC2 yC2 u_InvalidSerial_InvalidSerial u_InvalidNumber_InvalidSerial)⟩, ⟨⟨C2, EC2.mgC, ⟨cls_some dC2, kaC2, kn, kt, kmC2⟩, (kit_ref dC2 yC2 u_InvalidSerial_InvalidSerial u_InvalidSerial_InvalidSerial)⟩, trivial⟩⟩⟩) }
  exact law_end (fn_law T) law_true
theorem walk {l : PySem.W.OpenLaw} {q : Program} {loose : List Str} {XP : (Str → Option Value) → Heap → Prop} {YP : World → Heap → Prop} {d : DefRec} {K : Params → PySem.W.Frag} (hn : l.most = some 63) (hdf : d.params.defaults = [])
    (hY : ∀ (w : World) (h : Heap), YP w h → (K w.params).In h)
    (F : ∀ (w : World) (mg : Str → Option Value) (fa : Addr) (h : Heap), (K w.params).In h → h.Ns mainGlobals mg → mg d.name = some (.ref fa) →
      ∃ fd : FuncData, (∀ (s : Shared) (u : Value), BindsTo s fd ⟨[u], []⟩ [("_law_script", u)]) ∧ ∀ base : Heap, (K w.params).In base → base.Ns mainGlobals mg → FnOk l.prog w (K w.params) mg base (L2.CX l.prog w) 15 fa fd ["_law_script"] (spLaw (K w.params))) :
    PySem.W.WalkO q loose XP YP l.row.toRowW d [] (fun f vs => PySem.call f vs) :=
  L2.walk_ofB (n := 63) (k := 15) (x := "_law_script") (CX := fun w => L2.CX l.prog w) (sp := fun w => spLaw (K w.params)) hn (by decide) hdf ⟨rfl, by decide, by decide⟩ hY F (fun _ _ a ns hl hb hO hS => ⟨a, ns, rfl, hO, hS, hl, hb, fun _ => rfl⟩) (fun _ _ _ _ _ z => by obtain ⟨_, _, _, _, _, _, _, _, _, _, _, _, z⟩ := z; exact z.elim)
end
end K25
open PySem PySem.W PyProof.Rows
theorem PySem.Challenge.cw_rootward_k25_steps_on_the_circle_holds : PySem.Challenge.rw_rootward_k25_steps_on_the_circle.Holds := by
  w_on; o_law; k_head; (case hw => w_witness2)
  k_fill
  refine K25.walk (l := PySem.Challenge.rw_rootward_k25_steps_on_the_circle) rfl rfl (fun w h Y => PySem.W.kIn_of Y) ?F
  case F =>
    intro w mg fa h KX G hmg
    refine' K25.all_mk KX G hmg ?ad0 ?ld0 ?cd0 ?kd0 ?ad1 ?ld1 ?cd1 ?kd1 ?ad2 ?ld2 ?cd2 ?kd2 ?ad3 ?ld3 ?cd3 ?kd3 ?ad4 ?ld4 ?cd4 ?kd4 ?ad5 ?ld5 ?cd5 ?kd5 ?ad6 ?ld6 ?cd6 ?kd6 ?ad7 ?ld7 ?cd7 ?kd7 ?ad8 ?ld8 ?cd8 ?kd8 ?ad9 ?ld9 ?cd9 ?kd9 ?ad10 ?ld10 ?cd10 ?kd10 ?ad11 ?ld11 ?cd11 ?kd11 ?ad12 ?ld12 ?cd12 ?kd12 ?ad13 ?ld13 ?cd13 ?kd13 ?ad14 ?ld14 ?cd14 ?kd14 ?ad15 ?ld15 ?cd15 ?kd15 ?ad16 ?ld16 ?cd16 ?kd16 ?ad17 ?ld17 ?cd17 ?kd17 ?ad18 ?ld18 ?cd18 ?kd18 ?ad19 ?ld19 ?cd19 ?kd19 ?ad20 ?ld20 ?cd20 ?kd20 ?ad21 ?ld21 ?cd21 ?kd21 ?ad22 ?ld22 ?cd22 ?kd22 ?ad23 ?ld23 ?cd23 ?kd23 ?ad24 ?ld24 ?cd24 ?kd24 ?ad25 ?ld25 ?cd25 ?kd25 ?ad26 ?ld26 ?cd26 ?kd26 ?ad27 ?ld27 ?cd27 ?kd27 ?ad28 ?ld28 ?cd28 ?kd28 ?aC0 ?iC0 ?aC1 ?iC1 ?aC2 ?iC2 ?lI ?cI ?kI ?yI ?eC0 ?rC0 ?sC0 ?xC0 ?yC0 ?kC0 ?vC0 ?gC0 ?hC0 ?dC0 ?eC1 ?rC1 ?sC1 ?xC1 ?yC1 ?kC1 ?vC1 ?gC1 ?hC1 ?dC1 ?eC2 ?rC2 ?sC2 ?xC2 ?yC2 ?kC2 ?vC2 ?gC2 ?hC2 ?dC2 ?aK_MOST_SERIAL ?aK_ROUND ?aK_REACH ?aK_MOST_MISSED ?n_abs ?n_all ?n_bool ?n_divmod ?n_int ?n_isinstance ?n_len ?n_list ?n_max ?n_min ?n_range ?n_repr ?n_tuple ?n_zip ?u_TreeError_TreeError ?u_InvalidNumber_TreeError ?u_InvalidSerial_TreeError ?kaC0 ?kmC0 ?kaC1 ?kmC1 ?kaC2 ?kmC2 ?kn ?kt ?u_TreeError_InvalidNumber ?u_InvalidNumber_InvalidNumber ?u_InvalidSerial_InvalidNumber ?u_TreeError_InvalidSerial ?u_InvalidNumber_InvalidSerial ?u_InvalidSerial_InvalidSerial
    (case ad0 => k_is)
    (case ld0 => k_is)
    (case cd0 => k_is)
    (case kd0 => k_is)
    (case ad1 => k_is)
    (case ld1 => k_is)
    (case cd1 => k_is)
    (case kd1 => k_is)
    (case ad2 => k_is)
    (case ld2 => k_is)
    (case cd2 => k_is)
    (case kd2 => k_is)
    (case ad3 => k_is)
    (case ld3 => k_is)
    (case cd3 => k_is)
    (case kd3 => k_is)
    (case ad4 => k_is)
    (case ld4 => k_is)
    (case cd4 => k_is)
    (case kd4 => k_is)
    (case ad5 => k_is)
    (case ld5 => k_is)
    (case cd5 => k_is)
    (case kd5 => k_is)
    (case ad6 => k_is)
    (case ld6 => k_is)
    (case cd6 => k_is)
    (case kd6 => k_is)
    (case ad7 => k_is)
    (case ld7 => k_is)
    (case cd7 => k_is)
    (case kd7 => k_is)
    (case ad8 => k_is)
    (case ld8 => k_is)
    (case cd8 => k_is)
    (case kd8 => k_is)
    (case ad9 => k_is)
    (case ld9 => k_is)
    (case cd9 => k_is)
    (case kd9 => k_is)
    (case ad10 => k_is)
    (case ld10 => k_is)
    (case cd10 => k_is)
    (case kd10 => k_is)
    (case ad11 => k_is)
    (case ld11 => k_is)
    (case cd11 => k_is)
    (case kd11 => k_is)
    (case ad12 => k_is)
    (case ld12 => k_is)
    (case cd12 => k_is)
    (case kd12 => k_is)
    (case ad13 => k_is)
    (case ld13 => k_is)
    (case cd13 => k_is)
    (case kd13 => k_is)
    (case ad14 => k_is)
    (case ld14 => k_is)
    (case cd14 => k_is)
    (case kd14 => k_is)
    (case ad15 => k_is)
    (case ld15 => k_is)
    (case cd15 => k_is)
    (case kd15 => k_is)
    (case ad16 => k_is)
    (case ld16 => k_is)
    (case cd16 => k_is)
    (case kd16 => k_is)
    (case ad17 => k_is)
    (case ld17 => k_is)
    (case cd17 => k_is)
    (case kd17 => k_is)
    (case ad18 => k_is)
    (case ld18 => k_is)
    (case cd18 => k_is)
    (case kd18 => k_is)
    (case ad19 => k_is)
    (case ld19 => k_is)
    (case cd19 => k_is)
    (case kd19 => k_is)
    (case ad20 => k_is)
    (case ld20 => k_is)
    (case cd20 => k_is)
    (case kd20 => k_is)
    (case ad21 => k_is)
    (case ld21 => k_is)
    (case cd21 => k_is)
    (case kd21 => k_is)
    (case ad22 => k_is)
    (case ld22 => k_is)
    (case cd22 => k_is)
    (case kd22 => k_is)
    (case ad23 => k_is)
    (case ld23 => k_is)
    (case cd23 => k_is)
    (case kd23 => k_is)
    (case ad24 => k_is)
    (case ld24 => k_is)
    (case cd24 => k_is)
    (case kd24 => k_is)
    (case ad25 => k_is)
    (case ld25 => k_is)
    (case cd25 => k_is)
    (case kd25 => k_is)
    (case ad26 => k_is)
    (case ld26 => k_is)
    (case cd26 => k_is)
    (case kd26 => k_is)
    (case ad27 => k_is)
    (case ld27 => k_is)
    (case cd27 => k_is)
    (case kd27 => k_is)
    (case ad28 => k_is)
    (case ld28 => k_is)
    (case cd28 => k_is)
    (case kd28 => k_is)
    (case aC0 => k_is)
    (case iC0 => k_is)
    (case aC1 => k_is)
    (case iC1 => k_is)
    (case aC2 => k_is)
    (case iC2 => k_is)
    (case lI => k_is)
    (case cI => k_is)
    (case kI => k_is)
    (case yI => k_is)
    (case eC0 => k_is)
    (case rC0 => first | k_is | decide +kernel)
    (case sC0 => k_is)
    (case xC0 => k_is)
    (case yC0 => k_is)
    (case kC0 => k_is)
    (case vC0 => k_is)
    (case gC0 => k_is)
    (case hC0 => k_is)
    (case dC0 => k_is)
    (case eC1 => k_is)
    (case rC1 => first | k_is | decide +kernel)
    (case sC1 => k_is)
    (case xC1 => k_is)
    (case yC1 => k_is)
    (case kC1 => k_is)
    (case vC1 => k_is)
    (case gC1 => k_is)
    (case hC1 => k_is)
    (case dC1 => k_is)
    (case eC2 => k_is)
    (case rC2 => first | k_is | decide +kernel)
    (case sC2 => k_is)
    (case xC2 => k_is)
    (case yC2 => k_is)
    (case kC2 => k_is)
    (case vC2 => k_is)
    (case gC2 => k_is)
    (case hC2 => k_is)
    (case dC2 => k_is)
    (case aK_MOST_SERIAL => k_is)
    (case aK_ROUND => k_is)
    (case aK_REACH => k_is)
    (case aK_MOST_MISSED => k_is)
    (case n_abs => k_is)
    (case n_all => k_is)
    (case n_bool => k_is)
    (case n_divmod => k_is)
    (case n_int => k_is)
    (case n_isinstance => k_is)
    (case n_len => k_is)
    (case n_list => k_is)
    (case n_max => k_is)
    (case n_min => k_is)
    (case n_range => k_is)
    (case n_repr => k_is)
    (case n_tuple => k_is)
    (case n_zip => k_is)
    (case u_TreeError_TreeError => k_is)
    (case u_InvalidNumber_TreeError => k_is)
    (case u_InvalidSerial_TreeError => k_is)
    (case kaC0 => k_is)
    (case kmC0 => k_is)
    (case kaC1 => k_is)
    (case kmC1 => k_is)
    (case kaC2 => k_is)
    (case kmC2 => k_is)
    (case kn => k_is)
    (case kt => k_is)
    (case u_TreeError_InvalidNumber => k_is)
    (case u_InvalidNumber_InvalidNumber => k_is)
    (case u_InvalidSerial_InvalidNumber => k_is)
    (case u_TreeError_InvalidSerial => k_is)
    (case u_InvalidNumber_InvalidSerial => k_is)
    (case u_InvalidSerial_InvalidSerial => k_is)
