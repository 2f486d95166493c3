import PyProof.Rows.All
import Wide.All
import OpenK.AllK
import Wide.FinOn
import HandS.ForMost
import HandS.ForExc
import HandS.ExcInit
import HandS.ExcField
import HandS.TryMany
import HandS.WideBits
import HandS.Flow
import HandS.IsInst
import HandS.EndBits
import HandS.ExcOwn
import HandS.TupAny
import HandS.StrMore
import HandS.Text
import HandS.Style
import HandS.ExcIs
import KE.KExcIs
import PySem.Challenge.RW_rootward_k01_labels_and_names
set_option Elab.async false
set_option linter.all false
set_option maxRecDepth 100000
set_option maxHeartbeats 4000000
namespace MP
open PySem PySem.Spec PyProof.Rows L2

/-! ### values, objects, results -/
inductive W where
  | non | bl (b : Bool) | int (i : Int) | str (x : Str) | tup (xs : List W) | fro (xs : List W) | loc (n : Nat) | gl (v : V)
inductive Ob where
  | lst (xs : List W)
abbrev Store := List Ob
abbrev EnvW := List (Option W)
inductive Res (α : Type) where
  | ok (a : α) (st : Store)
  | err (c : Str) (fs : W) (st : Store)
  | stuck
def Res.bind {α β : Type} (r : Res α) (k : α → Store → Res β) : Res β := match r with
  | .ok a st => k a st
  | .err c fs st => .err c fs st
  | .stuck => .stuck
@[simp] theorem Res.bind_ok {α β : Type} (a : α) (st : Store) (k : α → Store → Res β) : (Res.ok a st).bind k = k a st := rfl
@[simp] theorem Res.bind_err {α β : Type} (c : Str) (fs : W) (st : Store) (k : α → Store → Res β) : (Res.err c fs st : Res α).bind k = .err c fs st := rfl
@[simp] theorem Res.bind_stuck {α β : Type} (k : α → Store → Res β) : (Res.stuck : Res α).bind k = .stuck := rfl
abbrev D (α : Type) := EnvW → Store → Res α

/-! ### how values and stores lie in the heap -/
/-- a list that is never written: the script, or the module's own -/
def SqF (K : PySem.W.Frag) (H : Hp) (a : Addr) (xs : List V) : Prop :=
  (∃ o, H a = some (.frz o (.lst xs))) ∨
    ∃ (o : Obj) (its : Array Value) (n : Nat), K.lookup a = some o ∧ o.cls = .type "list" ∧ o.dict = none ∧ o.data = .seq its n ∧ its.size ≤ sizeLine ∧ Vals xs its.toList
/-- a tuple: tracked, or the module's own -/
def TpF (K : PySem.W.Frag) (H : Hp) (a : Addr) (xs : List V) : Prop :=
  H a = some (.tup xs) ∨
    ∃ (o : Obj) (its : Array Value) (n : Nat), K.lookup a = some o ∧ o.cls = .type "tuple" ∧ o.data = .seq its n ∧ its.size ≤ sizeLine ∧ Vals xs its.toList
theorem SqF.sq {K : PySem.W.Frag} {H : Hp} {a : Addr} {xs : List V} (h : SqF K H a xs) : SqL K H a xs := by
  rcases h with ⟨o, h⟩ | h
  · exact .inl (.inr ⟨o, h⟩)
  · exact .inr h
theorem TpF.sq {K : PySem.W.Frag} {H : Hp} {a : Addr} {xs : List V} (h : TpF K H a xs) : SqT K H a xs := by
  rcases h with h | h
  · exact .inl (.inl h)
  · exact .inr h
mutual
def VR (K : PySem.W.Frag) (ρ : List Addr) (H : Hp) : W → V → Prop
  | .non, v => v = .non
  | .bl b, v => v = .bl b
  | .int i, v => v = .int i
  | .str x, v => v = .str x
  | .tup ws, v => ∃ a us, v = .ref a ∧ TpF K H a us ∧ VRs K ρ H ws us
  | .fro ws, v => ∃ a us, v = .ref a ∧ SqF K H a us ∧ VRs K ρ H ws us
  | .loc n, v => ∃ a, ρ[n]? = some a ∧ v = .ref a
  | .gl u, v => v = u
def VRs (K : PySem.W.Frag) (ρ : List Addr) (H : Hp) : List W → List V → Prop
  | [], vs => vs = []
  | w :: ws, vs => ∃ u us, vs = u :: us ∧ VR K ρ H w u ∧ VRs K ρ H ws us
end
/-- what may be written lies at the addresses of ρ -/
def ObR (K : PySem.W.Frag) (ρ : List Addr) (H : Hp) (a : Addr) : Ob → Prop
  | .lst ws => ∃ us, H a = some (.lst us) ∧ VRs K ρ H ws us
structure StR (K : PySem.W.Frag) (ρ : List Addr) (H : Hp) (st : Store) : Prop where
  len : ρ.length = st.length
  nd : ρ.Nodup
  ob : ∀ (n : Nat) (o : Ob), st[n]? = some o → ∃ a, ρ[n]? = some a ∧ ObR K ρ H a o
/-- in an except suite: the exception's slot, its address, its dict, its value -/
structure Exn where
  i : Nat
  a : Addr
  dd : Addr
  y : V
  w : W
structure EnvR (K : PySem.W.Frag) (ex : Option Exn) (ρ : List Addr) (H : Hp) (env : EnvW) (σ : L2.St) : Prop where
  len : σ.length = env.length
  at_ : ∀ (i : Nat) (w : W), env[i]? = some (some w) → ∃ v, σ[i]? = some (some v) ∧ VR K ρ H w v
  exc : ∀ x, ex = some x → σ[x.i]? = some (some (.ref x.a)) ∧ H x.dd = some (.xd [(("value" : Str), x.y)]) ∧ x.dd ∉ ρ ∧ VR K ρ H x.w x.y
def ExOk (ex : Option Exn) (i : Nat) : Prop := ∀ x, ex = some x → x.i ≠ i
theorem ExOk.none {i : Nat} : ExOk none i := fun _ h => nomatch h
/-- later: the store's part may be longer, nothing else that is tracked is changed -/
structure Grow (ρ : List Addr) (H : Hp) (ρ' : List Addr) (H' : Hp) : Prop where
  pre : ∃ m, ρ' = ρ ++ m ∧ ∀ a ∈ m, H a = none
  keep : ∀ a o, H a = some o → a ∉ ρ → H' a = some o
  live : ∀ a, a ∈ ρ → H a ≠ none → H' a ≠ none
/-- immutable things are never among the written ones -/
def Apart (ρ : List Addr) (H : Hp) : Prop := ∀ a ∈ ρ, ∃ o, H a = some o ∧ (∀ xs, o ≠ .tup xs) ∧ ∀ b u, o ≠ .frz b u

section
variable {K : PySem.W.Frag} {ρ ρ' ρ'' : List Addr} {H H' H'' : Hp} {st st' : Store}
theorem Grow.refl : Grow ρ H ρ H := ⟨⟨[], by simp, fun _ h => nomatch h⟩, fun _ _ h _ => h, fun _ _ h => h⟩
theorem Grow.fresh (g : Grow ρ H ρ' H') {a : Addr} (h : H' a = none) : H a = none := by
  cases e : H a with
  | none => rfl
  | some o =>
    by_cases m : a ∈ ρ
    · exact absurd h (g.live a m (by rw [e]; simp))
    · have := g.keep a o e m
      rw [this] at h; cases h
theorem Grow.trans (g : Grow ρ H ρ' H') (g' : Grow ρ' H' ρ'' H'') : Grow ρ H ρ'' H'' := by
  obtain ⟨m, e, f⟩ := g.pre
  obtain ⟨m', e', f'⟩ := g'.pre
  subst e; subst e'
  refine ⟨⟨m ++ m', by simp, fun a h => ?_⟩, fun a o h n => ?_, fun a h h' => ?_⟩
  · rcases List.mem_append.mp h with h | h
    · exact f a h
    · exact g.fresh (f' a h)
  · refine g'.keep a o (g.keep a o h n) fun z => ?_
    rcases List.mem_append.mp z with z | z
    · exact n z
    · have := f a z; rw [h] at this; cases this
  · exact g'.live a (List.mem_append_left _ h) (g.live a h h')
theorem StR.apart (s : StR K ρ H st) : Apart ρ H := fun a h => by
  obtain ⟨n, hn, e⟩ := List.getElem_of_mem h
  have hn' : n < st.length := by rw [← s.len]; exact hn
  obtain ⟨b, hb, hob⟩ := s.ob n st[n] (by rw [List.getElem?_eq_getElem hn'])
  rw [List.getElem?_eq_getElem hn, e] at hb
  cases hb
  cases ho : st[n] with
  | lst ws =>
    rw [ho] at hob
    obtain ⟨us, hu, _⟩ := hob
    exact ⟨_, hu, fun _ z => (nomatch z), fun _ _ z => (nomatch z)⟩
theorem TpF.grow {a : Addr} {xs : List V} (h : TpF K H a xs) (ap : Apart ρ H) (g : Grow ρ H ρ' H') : TpF K H' a xs := by
  rcases h with h | h
  · refine .inl (g.keep a _ h fun m => ?_)
    obtain ⟨o, e, n, _⟩ := ap a m
    rw [h] at e; cases e
    exact n _ rfl
  · exact .inr h
theorem SqF.grow {a : Addr} {xs : List V} (h : SqF K H a xs) (ap : Apart ρ H) (g : Grow ρ H ρ' H') : SqF K H' a xs := by
  rcases h with ⟨o, h⟩ | h
  · refine .inl ⟨o, g.keep a _ h fun m => ?_⟩
    obtain ⟨o', e, _, n⟩ := ap a m
    rw [h] at e; cases e
    exact n _ _ rfl
  · exact .inr h
mutual
theorem VR.grow (ap : Apart ρ H) (g : Grow ρ H ρ' H') : ∀ (w : W) (v : V), VR K ρ H w v → VR K ρ' H' w v
  | .non, _, h => by simpa only [VR] using h
  | .bl _, _, h => by simpa only [VR] using h
  | .int _, _, h => by simpa only [VR] using h
  | .str _, _, h => by simpa only [VR] using h
  | .gl _, _, h => by simpa only [VR] using h
  | .tup ws, v, h => by
    simp only [VR] at h ⊢
    obtain ⟨a, us, e, t, r⟩ := h
    exact ⟨a, us, e, t.grow ap g, VRs.grow ap g ws us r⟩
  | .fro ws, v, h => by
    simp only [VR] at h ⊢
    obtain ⟨a, us, e, t, r⟩ := h
    exact ⟨a, us, e, t.grow ap g, VRs.grow ap g ws us r⟩
  | .loc n, v, h => by
    simp only [VR] at h ⊢
    obtain ⟨a, e, r⟩ := h
    obtain ⟨m, e', _⟩ := g.pre
    subst e'
    refine ⟨a, ?_, r⟩
    have hl := (List.getElem?_eq_some_iff.mp e).1
    rw [List.getElem?_append_left hl]; exact e
theorem VRs.grow (ap : Apart ρ H) (g : Grow ρ H ρ' H') : ∀ (ws : List W) (vs : List V), VRs K ρ H ws vs → VRs K ρ' H' ws vs
  | [], _, h => by simpa only [VRs] using h
  | w :: ws, vs, h => by
    simp only [VRs] at h ⊢
    obtain ⟨u, us, e, r, rs⟩ := h
    exact ⟨u, us, e, VR.grow ap g w u r, VRs.grow ap g ws us rs⟩
end
theorem EnvR.grow {ex : Option Exn} {env : EnvW} {σ : L2.St} (e : EnvR K ex ρ H env σ) (ap : Apart ρ H) (g : Grow ρ H ρ' H') : EnvR K ex ρ' H' env σ :=
  ⟨e.len, fun i w h => let ⟨v, h1, h2⟩ := e.at_ i w h; ⟨v, h1, VR.grow ap g w v h2⟩, fun x h => by
    obtain ⟨h1, h2, h3, h4⟩ := e.exc x h
    refine ⟨h1, g.keep _ _ h2 h3, fun z => ?_, VR.grow ap g _ _ h4⟩
    obtain ⟨m, em, fm⟩ := g.pre
    subst em
    rcases List.mem_append.mp z with z | z
    · exact h3 z
    · have := fm _ z; rw [h2] at this; cases this⟩
theorem EnvR.put {ex : Option Exn} {env : EnvW} {σ : L2.St} (e : EnvR K ex ρ H env σ) {i : Nat} {w : Option W} {v : Option V} (hx : ExOk ex i) (r : ∀ w', w = some w' → ∃ v', v = some v' ∧ VR K ρ H w' v') : EnvR K ex ρ H (env.set i w) (σ.set i v) := by
  refine ⟨by simp [e.len], fun j w' h => ?_, fun x h => ?_⟩
  · by_cases hj : i = j
    · subst hj
      rw [List.getElem?_set] at h
      split at h
      · split at h
        · rename_i hl
          obtain ⟨v', e1, rv⟩ := r w' (Option.some.inj h)
          subst e1
          refine ⟨v', ?_, rv⟩
          rw [List.getElem?_set]; simp [e.len, *]
        · cases h
      · rename_i z; exact absurd rfl z
    · rw [List.getElem?_set_ne hj] at h
      obtain ⟨u, h1, h2⟩ := e.at_ j w' h
      exact ⟨u, by rw [List.getElem?_set_ne hj]; exact h1, h2⟩
  · obtain ⟨h1, h2⟩ := e.exc x h
    exact ⟨by rw [List.getElem?_set_ne (Ne.symm (hx x h))]; exact h1, h2⟩
theorem EnvR.set {ex : Option Exn} {env : EnvW} {σ : L2.St} (e : EnvR K ex ρ H env σ) {i : Nat} {w : W} {v : V} (hx : ExOk ex i) (r : VR K ρ H w v) : EnvR K ex ρ H (env.set i (some w)) (σ.set i (some v)) :=
  e.put hx fun w' h => by cases h; exact ⟨v, rfl, r⟩
theorem EnvR.unset {ex : Option Exn} {env : EnvW} {σ : L2.St} (e : EnvR K ex ρ H env σ) {i : Nat} (hx : ExOk ex i) : EnvR K ex ρ H (env.set i none) (σ.set i none) :=
  e.put hx fun w' h => by cases h
theorem VRs.length : ∀ {ws : List W} {vs : List V}, VRs K ρ H ws vs → ws.length = vs.length
  | [], vs, h => by simp only [VRs] at h; simp [h]
  | w :: ws, vs, h => by
    simp only [VRs] at h
    obtain ⟨u, us, rfl, _, r⟩ := h
    simp [VRs.length r]
theorem VRs.get : ∀ {ws : List W} {vs : List V} {i : Nat} {w : W}, VRs K ρ H ws vs → ws[i]? = some w → ∃ v, vs[i]? = some v ∧ VR K ρ H w v
  | [], _, _, _, _, e => by simp at e
  | w :: ws, vs, 0, w', h, e => by
    simp only [VRs] at h
    obtain ⟨u, us, rfl, r, _⟩ := h
    simp at e; subst e
    exact ⟨u, rfl, r⟩
  | w :: ws, vs, i + 1, w', h, e => by
    simp only [VRs] at h
    obtain ⟨u, us, rfl, _, r⟩ := h
    obtain ⟨v, h1, h2⟩ := VRs.get (i := i) r (by simpa using e)
    exact ⟨v, by simpa using h1, h2⟩
theorem VRs.append : ∀ {ws ws' : List W} {vs vs' : List V}, VRs K ρ H ws vs → VRs K ρ H ws' vs' → VRs K ρ H (ws ++ ws') (vs ++ vs')
  | [], _, vs, _, h, h' => by simp only [VRs] at h; subst h; simpa using h'
  | w :: ws, _, vs, _, h, h' => by
    simp only [VRs, List.cons_append] at h ⊢
    obtain ⟨u, us, rfl, r, rs⟩ := h
    exact ⟨u, us ++ _, rfl, r, VRs.append rs h'⟩
theorem VRs.take : ∀ {ws : List W} {vs : List V} (n : Nat), VRs K ρ H ws vs → VRs K ρ H (ws.take n) (vs.take n)
  | _, _, 0, _ => by simp [VRs]
  | [], vs, n + 1, h => by simp only [VRs] at h; subst h; simp [VRs]
  | w :: ws, vs, n + 1, h => by
    simp only [VRs] at h
    obtain ⟨u, us, rfl, r, rs⟩ := h
    simp only [List.take_succ_cons, VRs]
    exact ⟨u, _, rfl, r, rs.take n⟩
theorem VRs.drop : ∀ {ws : List W} {vs : List V} (n : Nat), VRs K ρ H ws vs → VRs K ρ H (ws.drop n) (vs.drop n)
  | _, _, 0, h => by simpa using h
  | [], vs, n + 1, h => by simp only [VRs] at h; subst h; simp [VRs]
  | w :: ws, vs, n + 1, h => by
    simp only [VRs] at h
    obtain ⟨u, us, rfl, r, rs⟩ := h
    simpa using rs.drop n
theorem VRs.one {w : W} {v : V} (r : VR K ρ H w v) : VRs K ρ H [w] [v] := by
  simp only [VRs]; exact ⟨v, [], rfl, r, rfl⟩
theorem VRs.cons' {w : W} {v : V} {ws : List W} {vs : List V} (r : VR K ρ H w v) (rs : VRs K ρ H ws vs) : VRs K ρ H (w :: ws) (v :: vs) := by
  simp only [VRs]; exact ⟨v, vs, rfl, r, rs⟩
theorem VRs.reverse : ∀ {ws : List W} {vs : List V}, VRs K ρ H ws vs → VRs K ρ H ws.reverse vs.reverse
  | [], vs, h => by simp only [VRs] at h; subst h; simp [VRs]
  | w :: ws, vs, h => by
    simp only [VRs] at h
    obtain ⟨u, us, rfl, r, rs⟩ := h
    rw [List.reverse_cons, List.reverse_cons]
    exact rs.reverse.append (.one r)
theorem VRs.set {w : W} {v : V} (r : VR K ρ H w v) : ∀ {ws : List W} {vs : List V} (i : Nat), VRs K ρ H ws vs → VRs K ρ H (ws.set i w) (vs.set i v)
  | [], vs, _, h => by simp only [VRs] at h; subst h; simp [VRs]
  | w' :: ws, vs, 0, h => by
    simp only [VRs] at h
    obtain ⟨u, us, rfl, _, rs⟩ := h
    exact .cons' r rs
  | w' :: ws, vs, i + 1, h => by
    simp only [VRs] at h
    obtain ⟨u, us, rfl, r', rs⟩ := h
    exact .cons' r' (rs.set r i)
theorem ObR.stay {a : Addr} {o : Ob} (h : ObR K ρ H a o) (e : H' a = H a) (ap : Apart ρ H) (g : Grow ρ H ρ' H') : ObR K ρ' H' a o := by
  cases o with
  | lst ws =>
    obtain ⟨us, hu, hr⟩ := h
    exact ⟨us, by rw [e]; exact hu, VRs.grow ap g ws us hr⟩
theorem StR.none_of (s : StR K ρ H st) {p : Addr} (hp : H p = none) : p ∉ ρ := fun m => by
  obtain ⟨o, e, _⟩ := s.apart p m; rw [hp] at e; cases e
/-- an object more -/
theorem StR.new (s : StR K ρ H st) {p : Addr} {o : Ob} {u : HO} (hp : H p = none) (g : Grow ρ H (ρ ++ [p]) (upd H p u)) (ho : ObR K (ρ ++ [p]) (upd H p u) p o) : StR K (ρ ++ [p]) (upd H p u) (st ++ [o]) := by
  have ap := s.apart
  have np : p ∉ ρ := fun m => by obtain ⟨o, e, _⟩ := ap p m; rw [hp] at e; cases e
  refine ⟨by simp [s.len], ?_, fun n o' e => ?_⟩
  · rw [List.nodup_append]
    exact ⟨s.nd, List.nodup_cons.mpr ⟨by simp, List.nodup_nil⟩, fun a ha b hb e => by
      have : b = p := by simpa using hb
      subst this; subst e; exact np ha⟩
  · by_cases hn : n < st.length
    · rw [List.getElem?_append_left hn] at e
      obtain ⟨a, ha, hob⟩ := s.ob n o' e
      have hl := (List.getElem?_eq_some_iff.mp ha).1
      have hap : a ≠ p := fun z => np (z ▸ List.mem_of_getElem? ha)
      exact ⟨a, by rw [List.getElem?_append_left hl]; exact ha, hob.stay (upd_ne hap) ap g⟩
    · have hl : n < (st ++ [o]).length := (List.getElem?_eq_some_iff.mp e).1
      have : n = st.length := by simp at hl; omega
      subst this
      rw [List.getElem?_append_right (Nat.le_refl _)] at e
      simp at e; subst e
      exact ⟨p, by rw [← s.len, List.getElem?_append_right (Nat.le_refl _)]; simp, ho⟩
theorem grow_new {p : Addr} {u : HO} (hp : H p = none) : Grow ρ H (ρ ++ [p]) (upd H p u) :=
  ⟨⟨[p], rfl, fun a h => by have : a = p := by simpa using h
                            subst this; exact hp⟩, fun a o h _ => by rw [upd_ne (ne_of_none h hp)]; exact h, fun a _ h z => by
    by_cases e : a = p
    · subst e; rw [upd_same] at z; cases z
    · rw [upd_ne e] at z; exact h z⟩
/-- an immutable thing more -/
theorem grow_imm {p : Addr} {u : HO} (hp : H p = none) : Grow ρ H ρ (upd H p u) :=
  ⟨⟨[], by simp, fun _ h => nomatch h⟩, fun a o h _ => by rw [upd_ne (ne_of_none h hp)]; exact h, fun a _ h z => by
    by_cases e : a = p
    · subst e; rw [upd_same] at z; cases z
    · rw [upd_ne e] at z; exact h z⟩
theorem StR.grow_imm (s : StR K ρ H st) {p : Addr} {u : HO} (hp : H p = none) : StR K ρ (upd H p u) st := by
  have ap := s.apart
  have np : p ∉ ρ := fun m => by obtain ⟨o, e, _⟩ := ap p m; rw [hp] at e; cases e
  refine ⟨s.len, s.nd, fun n o e => ?_⟩
  obtain ⟨a, ha, hob⟩ := s.ob n o e
  have hap : a ≠ p := fun z => np (z ▸ List.mem_of_getElem? ha)
  exact ⟨a, ha, hob.stay (upd_ne hap) ap (MP.grow_imm hp)⟩
/-- an object of the store changed -/
theorem grow_write {a : Addr} {u : HO} (ha : a ∈ ρ) : Grow ρ H ρ (upd H a u) :=
  ⟨⟨[], by simp, fun _ h => nomatch h⟩, fun b o h n => by rw [upd_ne (fun z : b = a => n (by rw [z]; exact ha))]; exact h, fun b _ h z => by
    by_cases e : b = a
    · subst e; rw [upd_same] at z; cases z
    · rw [upd_ne e] at z; exact h z⟩
theorem StR.write (s : StR K ρ H st) {n : Nat} {a : Addr} {o : Ob} {u : HO} (hn : ρ[n]? = some a) (ho : ObR K ρ (upd H a u) a o) : StR K ρ (upd H a u) (st.set n o) := by
  have ap := s.apart
  have hm : a ∈ ρ := List.mem_of_getElem? hn
  have hnl := (List.getElem?_eq_some_iff.mp hn).1
  refine ⟨by simp [s.len], s.nd, fun k o' e => ?_⟩
  by_cases hk : n = k
  · subst hk
    rw [List.getElem?_set] at e
    rw [if_pos rfl, if_pos (by rw [← s.len]; exact hnl)] at e
    cases e
    exact ⟨a, hn, ho⟩
  · rw [List.getElem?_set_ne hk] at e
    obtain ⟨b, hb, hob⟩ := s.ob k o' e
    refine ⟨b, hb, ?_⟩
    have hab : b ≠ a := fun z => by
      subst z
      have h1 := (List.getElem?_eq_some_iff.mp hn)
      have h2 := (List.getElem?_eq_some_iff.mp hb)
      exact hk ((List.getElem_inj s.nd).mp (h1.2.trans h2.2.symm))
    exact hob.stay (upd_ne hab) ap (grow_write hm)
end
end MP
namespace MP
open PySem PySem.Spec PyProof.Rows L2

/-! ### what is wanted of a result; judgements -/
/-- an exception: an own class, its dict -/
def ErR (K : PySem.W.Frag) (mg : Str → Option Value) (ρ : List Addr) (H : Hp) (c : Str) (w : W) (cls : Value) (d : Option Addr) : Prop :=
  ∃ (C dd : Addr) (y : V), mg c = some (.ref C) ∧ cls = .ref C ∧ d = some dd ∧ H dd = some (.xd [(("value" : Str), y)]) ∧ dd ∉ ρ ∧ VR K ρ H w y
def Post {α β : Type} (K : PySem.W.Frag) (mg : Str → Option Value) (Wx : WX) (rel : List Addr → Hp → α → β → Prop) (ρ : List Addr) (H : Hp) (σ : L2.St) (r : Res α) (Q : β → Hp → Prop) : Prop :=
  match r with
  | .ok a st' => ∀ ρ' H' x, Grow ρ H ρ' H' → StR K ρ' H' st' → rel ρ' H' a x → Q x H'
  | .err c fs st' => ∀ ρ' H' cls d, Grow ρ H ρ' H' → StR K ρ' H' st' → ErR K mg ρ' H' c fs cls d → Wx cls d σ H'
  | .stuck => False
abbrev relV (K : PySem.W.Frag) : List Addr → Hp → W → V → Prop := VR K
abbrev relVs (K : PySem.W.Frag) : List Addr → Hp → List W → List V → Prop := VRs K
abbrev relE {α : Type} : List Addr → Hp → α → α → Prop := fun _ _ a b => a = b
section
variable {K : PySem.W.Frag} {mg : Str → Option Value} {Wx : WX} {ρ ρ1 : List Addr} {H H1 : Hp} {σ : L2.St} {α β γ δ : Type}
theorem Post.mono {rel : List Addr → Hp → α → β → Prop} {r : Res α} {Q : β → Hp → Prop} (h : Post K mg Wx rel ρ H σ r Q) (g : Grow ρ H ρ1 H1) : Post K mg Wx rel ρ1 H1 σ r Q := by
  cases r with
  | ok a st => exact fun ρ' H' x g' => h ρ' H' x (g.trans g')
  | err c fs st => exact fun ρ' H' cls d g' => h ρ' H' cls d (g.trans g')
  | stuck => exact h
theorem Post.bind {relA : List Addr → Hp → α → β → Prop} {relC : List Addr → Hp → γ → δ → Prop} {r : Res α} {k : α → Store → Res γ} {Q : δ → Hp → Prop} (h : Post K mg Wx relC ρ H σ (r.bind k) Q) :
    Post K mg Wx relA ρ H σ r (fun x H1 => ∃ ρ1 st1 a, Grow ρ H ρ1 H1 ∧ StR K ρ1 H1 st1 ∧ relA ρ1 H1 a x ∧ Post K mg Wx relC ρ1 H1 σ (k a st1) Q) := by
  cases r with
  | ok a st => exact fun ρ' H' x g s r => ⟨ρ', st, a, g, s, r, Post.mono h g⟩
  | err c fs st => exact h
  | stuck => exact h
theorem Post.ok_ {rel : List Addr → Hp → α → β → Prop} {a : α} {st : Store} {x : β} {Q : β → Hp → Prop} (h : Post K mg Wx rel ρ H σ (.ok a st) Q) (s : StR K ρ H st) (r : rel ρ H a x) : Q x H := h ρ H x .refl s r
end
/-- the reading of a denotation -/
def RG {α β : Type} (X : Cx) (ex : Option Exn) (Wx : WX) (rel : List Addr → Hp → α → β → Prop) (m : D α) : L2.St → Hp → (β → Hp → Prop) → Prop := fun σ H Q =>
  ∃ ρ env st, StR X.K ρ H st ∧ EnvR X.K ex ρ H env σ ∧ Post X.K X.mg Wx rel ρ H σ (m env st) Q
abbrev IE (X : Cx) (ex : Option Exn) (Wx : WX) (e : Expr) (m : D W) : Prop := PE X e (RG X ex Wx (relV X.K) m)
abbrev IA (X : Cx) (ex : Option Exn) (Wx : WX) (es : List Expr) (m : D (List W)) : Prop := PA X es (RG X ex Wx (relVs X.K) m)
abbrev IT (X : Cx) (ex : Option Exn) (Wx : WX) (e : Expr) (m : D Bool) : Prop := PT X e (RG X ex Wx relE m)
abbrev IW (X : Cx) (ex : Option Exn) (Wx : WX) (e : Expr) (m : D Bool) : Prop := PW X e (RG X ex Wx relE m)
section
variable {X : Cx} {ex : Option Exn} {Wx : WX} {α β γ δ : Type}
theorem PE.of {e : Expr} {t t' : TE} (h : PE X e t) (w : ∀ σ H Q, t' σ H Q → t σ H Q) : PE X e t' := ⟨fun pins s σ H Q I q => h.run pins s σ H Q I (w _ _ _ q)⟩
theorem PT.of {e : Expr} {t t' : TT} (h : PT X e t) (w : ∀ σ H Q, t' σ H Q → t σ H Q) : PT X e t' := ⟨fun pins s σ H Q I q => h.run pins s σ H Q I (w _ _ _ q)⟩
theorem PW.of {e : Expr} {t t' : TT} (h : PW X e t) (w : ∀ σ H Q, t' σ H Q → t σ H Q) : PW X e t' := ⟨fun whole pins s σ H Q I q => h.run whole pins s σ H Q I (w _ _ _ q)⟩
theorem PA.of {es : List Expr} {t t' : TA} (h : PA X es t) (w : ∀ σ H Q, t' σ H Q → t σ H Q) : PA X es t' := ⟨fun pos pins s σ H Q I q => h.run pos pins s σ H Q I (w _ _ _ q)⟩
theorem PS.of {e : Stmt} {t t' : TS} (h : PS X e t) (w : ∀ D σ H, t' D σ H → t D σ H) : PS X e t' := ⟨fun pins s σ H D I q => h.run pins s σ H D I (w _ _ _ q)⟩
theorem PSs.of {e : List Stmt} {t t' : TS} (h : PSs X e t) (w : ∀ D σ H, t' D σ H → t D σ H) : PSs X e t' := ⟨fun pins s σ H D I q => h.run pins s σ H D I (w _ _ _ q)⟩
/-- one step of a reading: m's, then what k asks -/
theorem RG.bind {relA : List Addr → Hp → α → β → Prop} {relC : List Addr → Hp → γ → δ → Prop} {ρ : List Addr} {H : Hp} {σ : L2.St} {env : EnvW} {st : Store} {m : D α} {k : α → Store → Res γ} {Q : δ → Hp → Prop} {R : β → Hp → Prop}
    (s : StR X.K ρ H st) (e : EnvR X.K ex ρ H env σ) (h : Post X.K X.mg Wx relC ρ H σ ((m env st).bind k) Q)
    (hk : ∀ ρ1 H1 st1 a x, Grow ρ H ρ1 H1 → StR X.K ρ1 H1 st1 → EnvR X.K ex ρ1 H1 env σ → relA ρ1 H1 a x → Post X.K X.mg Wx relC ρ1 H1 σ (k a st1) Q → R x H1) : RG X ex Wx relA m σ H R := by
  refine ⟨ρ, env, st, s, e, ?_⟩
  generalize hm : m env st = r at h
  cases r with
  | ok a st' => exact fun ρ' H' x g s' r => hk ρ' H' st' a x g s' (e.grow s.apart g) r (Post.mono h g)
  | err c fs st' => exact h
  | stuck => exact h
end

/-! ### denotations -/
def dVar (i : Nat) : D W := fun env st => match env[i]? with
  | some (some w) => .ok w st
  | _ => .stuck
def dC (w : W) : D W := fun _ st => .ok w st
def dOp (f : W → W → Store → Res W) (ma mb : D W) : D W := fun env st => (ma env st).bind fun a st1 => (mb env st1).bind fun b st2 => f a b st2
def dUn (f : W → Store → Res W) (ma : D W) : D W := fun env st => (ma env st).bind fun a st1 => f a st1
def dIf (c : D Bool) (ma mb : D W) : D W := fun env st => (c env st).bind fun b st1 => if b = true then ma env st1 else mb env st1
def dNil : D (List W) := fun _ st => .ok [] st
def dCons (m : D W) (r : D (List W)) : D (List W) := fun env st => (m env st).bind fun a st1 => (r env st1).bind fun l st2 => .ok (a :: l) st2
def dTup (m : D (List W)) : D W := fun env st => (m env st).bind fun l st1 => if l.length ≤ sizeLine then .ok (.tup l) st1 else .stuck
def dLst (m : D (List W)) : D W := fun env st => (m env st).bind fun l st1 => if l.length ≤ sizeLine then .ok (.loc st1.length) (st1 ++ [.lst l]) else .stuck
def dApp (f : List W → Store → Res W) (m : D (List W)) : D W := fun env st => (m env st).bind fun l st1 => f l st1
/-- tests -/
def dBool (m : D W) : D Bool := fun env st => (m env st).bind fun a st1 => match a with
  | .bl b => .ok b st1
  | _ => .stuck
def dAnd (a b : D Bool) : D Bool := fun env st => (a env st).bind fun c st1 => if c = true then b env st1 else .ok false st1
def dOr (a b : D Bool) : D Bool := fun env st => (a env st).bind fun c st1 => if c = true then .ok true st1 else b env st1
def dNot (a : D Bool) : D Bool := fun env st => (a env st).bind fun c st1 => .ok (!c) st1
def dAndV (a b : D W) : D W := fun env st => (a env st).bind fun x st1 => match x with
  | .bl c => if c = true then b env st1 else .ok (.bl false) st1
  | _ => .stuck
def dOrV (a b : D W) : D W := fun env st => (a env st).bind fun x st1 => match x with
  | .bl c => if c = true then .ok (.bl true) st1 else b env st1
  | _ => .stuck
def dNotV (a : D W) : D W := fun env st => (a env st).bind fun x st1 => match x with
  | .bl c => .ok (.bl (!c)) st1
  | _ => .stuck
def dChain (f g : W → W → Store → Res W) (ma mb mc : D W) : D W := fun env st => (ma env st).bind fun a st1 => (mb env st1).bind fun b st2 => (f a b st2).bind fun x st3 => match x with
  | .bl true => (mc env st3).bind fun c st4 => g b c st4
  | .bl false => .ok (.bl false) st3
  | _ => .stuck

section
variable {X : Cx} {ex : Option Exn} {Wx : WX} {pos : Pos}
/-- a two-place operation by values -/
def OpOk (X : Cx) (r : R2) (f : W → W → Store → Res W) : Prop :=
  ∀ (Wx : WX) (ρ : List Addr) (H : Hp) (st : Store) (σ : L2.St) (a b : W) (x y : V) (Q : VK), StR X.K ρ H st → VR X.K ρ H a x → VR X.K ρ H b y → Post X.K X.mg Wx (relV X.K) ρ H σ (f a b st) Q → r x y H Q
def UnOk (X : Cx) (r : V → Hp → VK → Prop) (f : W → Store → Res W) : Prop :=
  ∀ (Wx : WX) (ρ : List Addr) (H : Hp) (st : Store) (σ : L2.St) (a : W) (x : V) (Q : VK), StR X.K ρ H st → VR X.K ρ H a x → Post X.K X.mg Wx (relV X.K) ρ H σ (f a st) Q → r x H Q
def CallOk (X : Cx) (r : List V → Hp → VK → Prop) (f : List W → Store → Res W) : Prop :=
  ∀ (Wx : WX) (ρ : List Addr) (H : Hp) (st : Store) (σ : L2.St) (l : List W) (vs : List V) (Q : VK), StR X.K ρ H st → VRs X.K ρ H l vs → Post X.K X.mg Wx (relV X.K) ρ H σ (f l st) Q → r vs H Q
theorem OpR.or {f : Value → Value → Sem Value} {r r' : R2} (h : OpR X f r) (h' : OpR X f r') : OpR X f (fun x y H Q => r x y H Q ∨ r' x y H Q) := fun pins s σ H x y v u Q I a b q => by
  rcases q with q | q
  · exact h pins s σ H x y v u Q I a b q
  · exact h' pins s σ H x y v u Q I a b q
theorem ie_var (i : Nat) {x : Str} (hN : X.N[i]? = some x := by rfl) (hv : Vis X.env.scope x := by first | exact Or.inl rfl | exact Or.inr (Or.inl rfl) | exact Or.inr (Or.inr rfl)) (hd : (x == ("__debug__" : Str)) = false := by decide)
    (hcd : (x == ("__classdict__" : Str)) = false := by decide) : IE X ex Wx (.Name x pos) (dVar i) := by
  refine PE.of (pe_var hN hv hd hcd) fun σ H Q ⟨ρ, env, st, s, e, p⟩ => ?_
  unfold dVar at p
  generalize hq : env[i]? = o at p
  match o, hq, p with
  | some (some w), hq, p =>
    obtain ⟨v, h1, h2⟩ := e.at_ i w hq
    exact ⟨v, h1, p.ok_ s h2⟩
  | some none, _, p => exact p.elim
  | none, _, p => exact p.elim
theorem ie_c {e : Expr} {v : V} {w : W} (h : PE X e (tC v)) (r : ∀ ρ H, VR X.K ρ H w v) : IE X ex Wx e (dC w) :=
  PE.of h fun σ H Q ⟨ρ, env, st, s, e, p⟩ => p.ok_ s (r ρ H)
theorem ie_op {a b : Expr} {op : Operator} {r : R2} {f : W → W → Store → Res W} {ma mb : D W} (ho : OpR X (binaryOp op) r) (hf : OpOk X r f) (ha : IE X ex Wx a ma) (hb : IE X ex Wx b mb) : IE X ex Wx (.BinOp a op b pos) (dOp f ma mb) :=
  PE.of (pe_op ho ha hb) fun σ H Q ⟨ρ, env, st, s, e, p⟩ => RG.bind s e p fun ρ1 H1 st1 a x g1 s1 e1 ra p1 => RG.bind s1 e1 p1 fun ρ2 H2 st2 b y g2 s2 e2 rb p2 =>
    hf Wx ρ2 H2 st2 σ a b x y Q s2 (VR.grow s1.apart g2 a x ra) rb p2
theorem ie_cmp {a b : Expr} {op : CmpOp} {r : R2} {f : W → W → Store → Res W} {ma mb : D W} (ho : OpR X (compareOp op) r) (hf : OpOk X r f) (ha : IE X ex Wx a ma) (hb : IE X ex Wx b mb) (hm : behindInMarks op b = false) : IE X ex Wx (.Compare a [op] [b] pos) (dOp f ma mb) :=
  PE.of (pe_cmpR ho ha hb hm) fun σ H Q ⟨ρ, env, st, s, e, p⟩ => RG.bind s e p fun ρ1 H1 st1 a x g1 s1 e1 ra p1 => RG.bind s1 e1 p1 fun ρ2 H2 st2 b y g2 s2 e2 rb p2 =>
    hf Wx ρ2 H2 st2 σ a b x y Q s2 (VR.grow s1.apart g2 a x ra) rb p2
/-- a value that is a bool, as a test -/
theorem dBool_step {m : D W} {σ : L2.St} {H : Hp} {Q : Bool → Hp → Prop} (h : RG X ex Wx relE (dBool m) σ H Q) : RG X ex Wx (relV X.K) m σ H fun x H' => ∃ k, x = .bl k ∧ Q k H' := by
  obtain ⟨ρ, env, st, s, e, p⟩ := h
  refine RG.bind s e p fun ρ1 H1 st1 a x g1 s1 e1 ra p1 => ?_
  cases a with
  | bl b =>
    simp only [VR] at ra
    exact ⟨b, ra, p1.ok_ s1 rfl⟩
  | _ => exact p1.elim
theorem it_cmp {a b : Expr} {op : CmpOp} {r : R2} {f : W → W → Store → Res W} {ma mb : D W} (ho : OpR X (compareOp op) r) (hf : OpOk X r f) (ha : IE X ex Wx a ma) (hb : IE X ex Wx b mb) (hm : behindInMarks op b = false) : IT X ex Wx (.Compare a [op] [b] pos) (dBool (dOp f ma mb)) :=
  PT.of (pt_cmpR ho ha hb hm) fun σ H Q h => by
    obtain ⟨ρ, env, st, s, e, p⟩ := dBool_step h
    exact RG.bind s e p fun ρ1 H1 st1 a x g1 s1 e1 ra p1 => RG.bind s1 e1 p1 fun ρ2 H2 st2 b y g2 s2 e2 rb p2 =>
      hf Wx ρ2 H2 st2 σ a b x y _ s2 (VR.grow s1.apart g2 a x ra) rb p2
theorem ie_un {a : Expr} {op : UnaryOp} {r : V → Hp → VK → Prop} {f : W → Store → Res W} {ma : D W} (ho : UnR X (unaryOp op) r) (hf : UnOk X r f) (ha : IE X ex Wx a ma) : IE X ex Wx (.UnaryOp op a pos) (dUn f ma) :=
  PE.of (pe_un ho ha) fun σ H Q ⟨ρ, env, st, s, e, p⟩ => RG.bind s e p fun ρ1 H1 st1 a x g1 s1 e1 ra p1 => hf Wx ρ1 H1 st1 σ a x Q s1 ra p1
theorem ie_if {c a b : Expr} {mc : D Bool} {ma mb : D W} (hc : IT X ex Wx c mc) (ha : IE X ex Wx a ma) (hb : IE X ex Wx b mb) : IE X ex Wx (.IfExp c a b pos) (dIf mc ma mb) :=
  PE.of (pe_ifExp hc ha hb) fun σ H Q ⟨ρ, env, st, s, e, p⟩ => RG.bind s e p fun ρ1 H1 st1 a x g1 s1 e1 ra p1 => by
    have ra' : a = x := ra
    subst ra'
    by_cases h : a = true
    · rw [if_pos h] at p1 ⊢; exact ⟨ρ1, env, st1, s1, e1, p1⟩
    · rw [if_neg h] at p1 ⊢; exact ⟨ρ1, env, st1, s1, e1, p1⟩
theorem ia_nil : IA X ex Wx [] dNil := PA.of pa_nil fun σ H Q ⟨ρ, env, st, s, e, p⟩ => p.ok_ s (by simp [VRs])
theorem ia_cons {e : Expr} {es : List Expr} {m : D W} {r : D (List W)} (he : IE X ex Wx e m) (hr : IA X ex Wx es r) (hs : starEach (e :: es) X.env = (false, eval e X.env) :: starEach es X.env := by rfl) : IA X ex Wx (e :: es) (dCons m r) :=
  PA.of (pa_cons he hr hs) fun σ H Q ⟨ρ, env, st, s, e, p⟩ => RG.bind s e p fun ρ1 H1 st1 a x g1 s1 e1 ra p1 => RG.bind s1 e1 p1 fun ρ2 H2 st2 l xs g2 s2 e2 rb p2 =>
    p2.ok_ s2 (VRs.cons' (VR.grow s1.apart g2 a x ra) rb)
theorem tup_new {ρ : List Addr} {H : Hp} {st : Store} {l : List W} {xs : List V} {p : Addr} (s : StR X.K ρ H st) (r : VRs X.K ρ H l xs) (hp : H p = none) : VR X.K ρ (upd H p (.tup xs)) (.tup l) (.ref p) := by
  simp only [VR]
  exact ⟨p, xs, rfl, .inl upd_same, VRs.grow s.apart (grow_imm hp) l xs r⟩
theorem lst_new {ρ : List Addr} {H : Hp} {st : Store} {l : List W} {xs : List V} {p : Addr} (s : StR X.K ρ H st) (r : VRs X.K ρ H l xs) (hp : H p = none) : StR X.K (ρ ++ [p]) (upd H p (.lst xs)) (st ++ [.lst l]) ∧ VR X.K (ρ ++ [p]) (upd H p (.lst xs)) (.loc st.length) (.ref p) := by
  have g : Grow ρ H (ρ ++ [p]) (upd H p (.lst xs)) := grow_new hp
  refine ⟨s.new hp g ⟨xs, upd_same, VRs.grow s.apart g l xs r⟩, ?_⟩
  simp only [VR]
  exact ⟨p, by rw [← s.len]; simp, rfl⟩
theorem ie_tup {es : List Expr} {m : D (List W)} {x1} (h : IA X ex Wx es m) : IE X ex Wx (.Tuple es x1 pos) (dTup m) :=
  PE.of (pe_tup h) fun σ H Q ⟨ρ, env, st, s, e, p⟩ => RG.bind s e p fun ρ1 H1 st1 l xs g1 s1 e1 r p1 => by
    by_cases hz : l.length ≤ sizeLine
    · rw [if_pos hz] at p1
      refine ⟨by rw [← VRs.length r]; exact hz, fun q hq => ?_⟩
      exact p1 ρ1 _ _ (grow_imm hq) (s1.grow_imm hq) (tup_new s1 r hq)
    · rw [if_neg hz] at p1; exact p1.elim
theorem ie_lst {es : List Expr} {m : D (List W)} (h : IA X ex Wx es m) : IE X ex Wx (.List es pos) (dLst m) :=
  PE.of (pe_lst h) fun σ H Q ⟨ρ, env, st, s, e, p⟩ => RG.bind s e p fun ρ1 H1 st1 l xs g1 s1 e1 r p1 => by
    by_cases hz : l.length ≤ sizeLine
    · rw [if_pos hz] at p1
      refine ⟨by rw [← VRs.length r]; exact hz, fun q hq => ?_⟩
      obtain ⟨a, b⟩ := lst_new s1 r hq
      exact p1 (ρ1 ++ [q]) _ _ (grow_new hq) a b
    · rw [if_neg hz] at p1; exact p1.elim
/-! tests -/
theorem iw_and1 {a : Expr} {m : D Bool} (ha : IT X ex Wx a m) : IW X ex Wx (.BoolOp .And [a] pos) m := pw_and1 ha
theorem iw_or1 {a : Expr} {m : D Bool} (ha : IT X ex Wx a m) : IW X ex Wx (.BoolOp .Or [a] pos) m := pw_or1 ha
theorem iw_and {a b : Expr} {rest : List Expr} {ma mb : D Bool} (ha : IT X ex Wx a ma) (hb : IW X ex Wx (.BoolOp .And (b :: rest) pos) mb) : IW X ex Wx (.BoolOp .And (a :: b :: rest) pos) (dAnd ma mb) :=
  PW.of (pw_and ha hb) fun σ H Q ⟨ρ, env, st, s, e, p⟩ => RG.bind s e p fun ρ1 H1 st1 a x g1 s1 e1 ra p1 => by
    have ra' : a = x := ra
    subst ra'
    by_cases h : a = true
    · rw [if_pos h] at p1 ⊢; exact ⟨ρ1, env, st1, s1, e1, p1⟩
    · rw [if_neg h] at p1 ⊢; exact p1.ok_ s1 rfl
theorem iw_or {a b : Expr} {rest : List Expr} {ma mb : D Bool} (ha : IT X ex Wx a ma) (hb : IW X ex Wx (.BoolOp .Or (b :: rest) pos) mb) : IW X ex Wx (.BoolOp .Or (a :: b :: rest) pos) (dOr ma mb) :=
  PW.of (pw_or ha hb) fun σ H Q ⟨ρ, env, st, s, e, p⟩ => RG.bind s e p fun ρ1 H1 st1 a x g1 s1 e1 ra p1 => by
    have ra' : a = x := ra
    subst ra'
    by_cases h : a = true
    · rw [if_pos h] at p1 ⊢; exact p1.ok_ s1 rfl
    · rw [if_neg h] at p1 ⊢; exact ⟨ρ1, env, st1, s1, e1, p1⟩
theorem it_w {e : Expr} {m : D Bool} (h : IW X ex Wx e m) : IT X ex Wx e m := PW.pt h
theorem it_not {a : Expr} {m : D Bool} (ha : IT X ex Wx a m) : IT X ex Wx (.UnaryOp .Not a pos) (dNot m) :=
  PT.of (pt_not ha) fun σ H Q ⟨ρ, env, st, s, e, p⟩ => RG.bind s e p fun ρ1 H1 st1 a x g1 s1 e1 ra p1 => by
    have ra' : a = x := ra
    subst ra'
    exact p1.ok_ s1 rfl
/-! as values -/
theorem ie_one {a : Expr} {op} {m : D W} (ha : IE X ex Wx a m) : IE X ex Wx (.BoolOp op [a] pos) m := pe_one ha
theorem ie_and {a b : Expr} {rest : List Expr} {ma mb : D W} (ha : IE X ex Wx a ma) (hb : IE X ex Wx (.BoolOp .And (b :: rest) pos) mb) : IE X ex Wx (.BoolOp .And (a :: b :: rest) pos) (dAndV ma mb) :=
  PE.of (pe_and ha hb) fun σ H Q ⟨ρ, env, st, s, e, p⟩ => RG.bind s e p fun ρ1 H1 st1 a x g1 s1 e1 ra p1 => by
    cases a with
    | bl c =>
      simp only [VR] at ra
      refine ⟨c, ra, ?_⟩
      simp only at p1
      by_cases h : c = true
      · rw [if_pos h] at p1 ⊢; exact ⟨ρ1, env, st1, s1, e1, p1⟩
      · rw [if_neg h] at p1 ⊢; exact p1.ok_ s1 (by simp [VR])
    | _ => exact p1.elim
theorem ie_or {a b : Expr} {rest : List Expr} {ma mb : D W} (ha : IE X ex Wx a ma) (hb : IE X ex Wx (.BoolOp .Or (b :: rest) pos) mb) : IE X ex Wx (.BoolOp .Or (a :: b :: rest) pos) (dOrV ma mb) :=
  PE.of (pe_or ha hb) fun σ H Q ⟨ρ, env, st, s, e, p⟩ => RG.bind s e p fun ρ1 H1 st1 a x g1 s1 e1 ra p1 => by
    cases a with
    | bl c =>
      simp only [VR] at ra
      refine ⟨c, ra, ?_⟩
      simp only at p1
      by_cases h : c = true
      · rw [if_pos h] at p1 ⊢; exact p1.ok_ s1 (by simp [VR])
      · rw [if_neg h] at p1 ⊢; exact ⟨ρ1, env, st1, s1, e1, p1⟩
    | _ => exact p1.elim
theorem ie_notV {a : Expr} {ma : D W} (ha : IE X ex Wx a ma) : IE X ex Wx (.UnaryOp .Not a pos) (dNotV ma) :=
  PE.of (pe_not ha) fun σ H Q ⟨ρ, env, st, s, e, p⟩ => RG.bind s e p fun ρ1 H1 st1 a x g1 s1 e1 ra p1 => by
    cases a with
    | bl c =>
      simp only [VR] at ra
      exact ⟨c, ra, p1.ok_ s1 (by simp [VR])⟩
    | _ => exact p1.elim
theorem ie_chain {a b c : Expr} {op op' : CmpOp} {r r' : R2} {f g : W → W → Store → Res W} {ma mb mc : D W} (ho : OpR X (compareOp op) r) (hf : OpOk X r f) (ho' : OpR X (compareOp op') r') (hg : OpOk X r' g) (ha : IE X ex Wx a ma) (hb : IE X ex Wx b mb) (hc : IE X ex Wx c mc)
    (hm : lastMarks [op, op'] [b, c] = false := by with_unfolding_all rfl) : IE X ex Wx (.Compare a [op, op'] [b, c] pos) (dChain f g ma mb mc) := by
  refine PE.of (pe_chain ho ho' ha hb hc hm) fun σ H Q ⟨ρ, env, st, s, e, p⟩ => RG.bind s e p fun ρ1 H1 st1 a x g1 s1 e1 ra p1 => RG.bind s1 e1 p1 fun ρ2 H2 st2 b y g2 s2 e2 rb p2 => ?_
  refine hf Wx ρ2 H2 st2 σ a b x y _ s2 (VR.grow s1.apart g2 a x ra) rb ?_
  generalize f a b st2 = q at p2
  cases q with
  | stuck => exact p2
  | err c fs st' => exact p2
  | ok z st3 =>
    intro ρ3 H3 zv g3 s3 rz
    simp only [Res.bind_ok] at p2
    cases z with
    | bl k =>
      simp only [relV, VR] at rz
      refine ⟨k, rz, ?_⟩
      cases k with
      | true =>
        rw [if_pos rfl]
        simp only at p2
        exact RG.bind s3 (e2.grow s2.apart g3) (Post.mono p2 g3) fun ρ4 H4 st4 c z g4 s4 e4 rc p4 => hg Wx ρ4 H4 st4 σ b c y z Q s4 (VR.grow s3.apart g4 b y (VR.grow s2.apart g3 b y rb)) rc p4
      | false =>
        rw [if_neg (by decide)]
        simp only at p2
        exact (Post.mono p2 g3).ok_ s3 (by simp [VR])
    | _ => exact p2.elim
end
end MP
namespace MP
open PySem PySem.Spec PyProof.Rows L2

/-! ### statements -/
inductive Fl where
  | nx | rt (v : W) | bk | ct
inductive RsS where
  | go (f : Fl) (env : EnvW) (st : Store)
  | err (c : Str) (fs : W) (env : EnvW) (st : Store)
  | stuck
abbrev DS := EnvW → Store → RsS
abbrev DT := W → EnvW → Store → Option (EnvW × Store)
/-- an expression's result, then a statement's -/
def Res.then {α : Type} (r : Res α) (env : EnvW) (k : α → Store → RsS) : RsS := match r with
  | .ok a st => k a st
  | .err c fs st => .err c fs env st
  | .stuck => .stuck
@[simp] theorem Res.then_ok {α : Type} (a : α) (st : Store) (env : EnvW) (k : α → Store → RsS) : (Res.ok a st).then env k = k a st := rfl
@[simp] theorem Res.then_err {α : Type} (c : Str) (fs : W) (st : Store) (env : EnvW) (k : α → Store → RsS) : (Res.err c fs st : Res α).then env k = .err c fs env st := rfl
@[simp] theorem Res.then_stuck {α : Type} (env : EnvW) (k : α → Store → RsS) : (Res.stuck : Res α).then env k = .stuck := rfl
def RsS.next (r : RsS) (k : EnvW → Store → RsS) : RsS := match r with
  | .go .nx env st => k env st
  | r => r
@[simp] theorem RsS.next_nx (env : EnvW) (st : Store) (k) : (RsS.go .nx env st).next k = k env st := rfl
@[simp] theorem RsS.next_rt (v : W) (env : EnvW) (st : Store) (k) : (RsS.go (.rt v) env st).next k = .go (.rt v) env st := rfl
@[simp] theorem RsS.next_bk (env : EnvW) (st : Store) (k) : (RsS.go .bk env st).next k = .go .bk env st := rfl
@[simp] theorem RsS.next_ct (env : EnvW) (st : Store) (k) : (RsS.go .ct env st).next k = .go .ct env st := rfl
@[simp] theorem RsS.next_err (c : Str) (fs : W) (env : EnvW) (st : Store) (k) : (RsS.err c fs env st).next k = .err c fs env st := rfl
@[simp] theorem RsS.next_stuck (k) : (RsS.stuck).next k = .stuck := rfl
def PostF (K : PySem.W.Frag) (D : Ends) (ρ : List Addr) (H : Hp) (σ : L2.St) : Fl → Prop
  | .nx => D.nx σ H
  | .bk => D.bk σ H
  | .ct => D.ct σ H
  | .rt v => ∀ x, VR K ρ H v x → D.rt x H
def PostS (K : PySem.W.Frag) (ex : Option Exn) (mg : Str → Option Value) (Wx : WX) (D : Ends) (ρ : List Addr) (H : Hp) (r : RsS) : Prop := match r with
  | .go f env' st' => ∀ ρ' H' σ', Grow ρ H ρ' H' → StR K ρ' H' st' → EnvR K ex ρ' H' env' σ' → PostF K D ρ' H' σ' f
  | .err c fs env' st' => ∀ ρ' H' σ' cls d, Grow ρ H ρ' H' → StR K ρ' H' st' → EnvR K ex ρ' H' env' σ' → ErR K mg ρ' H' c fs cls d → Wx cls d σ' H'
  | .stuck => False
section
variable {K : PySem.W.Frag} {ex : Option Exn} {mg : Str → Option Value} {Wx : WX} {ρ ρ1 : List Addr} {H H1 : Hp} {De : Ends}
theorem PostS.mono {r : RsS} (h : PostS K ex mg Wx De ρ H r) (g : Grow ρ H ρ1 H1) : PostS K ex mg Wx De ρ1 H1 r := by
  cases r with
  | go f env st => exact fun ρ' H' σ' g' => h ρ' H' σ' (g.trans g')
  | err c fs env st => exact fun ρ' H' σ' cls d g' => h ρ' H' σ' cls d (g.trans g')
  | stuck => exact h
theorem PostS.go_ {f : Fl} {env : EnvW} {st : Store} {σ : L2.St} (h : PostS K ex mg Wx De ρ H (.go f env st)) (s : StR K ρ H st) (e : EnvR K ex ρ H env σ) : PostF K De ρ H σ f := h ρ H σ .refl s e
end
def RS (X : Cx) (ex : Option Exn) (Wx : WX) (m : DS) : TS := fun D σ H => ∃ ρ env st, StR X.K ρ H st ∧ EnvR X.K ex ρ H env σ ∧ PostS X.K ex X.mg Wx D ρ H (m env st)
abbrev IS (X : Cx) (ex : Option Exn) (Wx : WX) (s : Stmt) (m : DS) : Prop := PS X s (RS X ex Wx m)
abbrev ISs (X : Cx) (ex : Option Exn) (Wx : WX) (s : List Stmt) (m : DS) : Prop := PSs X s (RS X ex Wx m)
theorem wipe_set {σ : L2.St} {i : Nat} {v : Option V} : ∀ {vs : List Nat}, i ∈ vs → wipe (σ.set i v) vs = wipe σ vs
  | [], h => nomatch h
  | j :: vs, h => by
    show (wipe (σ.set i v) vs).set j none = (wipe σ vs).set j none
    by_cases hj : i ∈ vs
    · rw [wipe_set hj]
    · have hij : i = j := by
        rcases List.mem_cons.mp h with h | h
        · exact h
        · exact absurd h hj
      subst hij
      have : ∀ (l : List Nat), i ∉ l → wipe (σ.set i v) l = (wipe σ l).set i v := by
        intro l
        induction l with
        | nil => intro _; rfl
        | cons k l ih =>
          intro hn
          have hk : i ≠ k := fun z => hn (z ▸ List.mem_cons_self)
          show (wipe (σ.set i v) l).set k none = ((wipe σ l).set k none).set i v
          rw [ih (fun z => hn (List.mem_cons_of_mem _ z)), List.set_comm _ _ hk]
      rw [this vs hj, List.set_set]
theorem wipe_wipe {σ : L2.St} {vs : List Nat} : wipe (wipe σ vs) vs = wipe σ vs := by
  have : ∀ (l : List Nat) (τ : L2.St), (∀ i ∈ l, i ∈ vs) → wipe (wipe τ l) vs = wipe τ vs := by
    intro l
    induction l with
    | nil => intro τ _; rfl
    | cons k l ih =>
      intro τ h
      show wipe ((wipe τ l).set k none) vs = wipe τ vs
      rw [wipe_set (h k List.mem_cons_self), ih τ fun i hi => h i (List.mem_cons_of_mem _ hi)]
  exact this vs σ fun _ h => h
/-- a target's reading: of the slots only those at vs may change -/
def RT (X : Cx) (ex : Option Exn) (vs : List Nat) (t : DT) : TG := fun v σ H Q => ∃ ρ env st w, StR X.K ρ H st ∧ EnvR X.K ex ρ H env σ ∧ VR X.K ρ H w v ∧ ∃ env' st', t w env st = some (env', st') ∧ ∀ ρ' H' σ', Grow ρ H ρ' H' → StR X.K ρ' H' st' → EnvR X.K ex ρ' H' env' σ' → wipe σ' vs = wipe σ vs → Q σ' H'
abbrev IG (X : Cx) (ex : Option Exn) (vs : List Nat) (e : Expr) (t : DT) : Prop := PG X e (RT X ex vs t)

/-! denotations -/
def sSeq (a b : DS) : DS := fun env st => (a env st).next b
def sNil : DS := fun env st => .go .nx env st
def sExpr (m : D W) : DS := fun env st => (m env st).then env fun _ st1 => .go .nx env st1
def sRet (m : D W) : DS := fun env st => (m env st).then env fun a st1 => .go (.rt a) env st1
def sRetN : DS := fun env st => .go (.rt .non) env st
def sBk : DS := fun env st => .go .bk env st
def sCt : DS := fun env st => .go .ct env st
def sIf (c : D Bool) (a b : DS) : DS := fun env st => (c env st).then env fun k st1 => if k = true then a env st1 else b env st1
def sNever : DS := fun _ _ => .stuck
def sAsg (m : D W) (t : DT) : DS := fun env st => (m env st).then env fun a st1 => match t a env st1 with
  | some (env', st2) => .go .nx env' st2
  | none => .stuck
def tName (i : Nat) : DT := fun w env st => some (env.set i (some w), st)
def tAll : List DT → List W → EnvW → Store → Option (EnvW × Store)
  | [], [], env, st => some (env, st)
  | t :: ts, w :: ws, env, st => (t w env st).bind fun p => tAll ts ws p.1 p.2
  | _, _, _, _ => none
def tTupT (ts : List DT) : DT := fun w env st => match w with
  | .tup ws => tAll ts ws env st
  | _ => none

section
variable {X : Cx} {ex : Option Exn} {Wx : WX} {pos : Pos} {α β : Type}
/-- an expression within a statement -/
theorem RS.step {rel : List Addr → Hp → α → β → Prop} {De : Ends} {ρ : List Addr} {H : Hp} {σ : L2.St} {env : EnvW} {st : Store} {m : D α} {k : α → Store → RsS} {R : β → Hp → Prop}
    (s : StR X.K ρ H st) (e : EnvR X.K ex ρ H env σ) (h : PostS X.K ex X.mg Wx De ρ H ((m env st).then env k))
    (hk : ∀ ρ1 H1 st1 a x, Grow ρ H ρ1 H1 → StR X.K ρ1 H1 st1 → EnvR X.K ex ρ1 H1 env σ → rel ρ1 H1 a x → PostS X.K ex X.mg Wx De ρ1 H1 (k a st1) → R x H1) : RG X ex Wx rel m σ H R := by
  refine ⟨ρ, env, st, s, e, ?_⟩
  generalize hm : m env st = r at h
  cases r with
  | ok a st' => exact fun ρ' H' x g s' r => hk ρ' H' st' a x g s' (e.grow s.apart g) r (PostS.mono h g)
  | err c fs st' => exact fun ρ' H' cls d g s' r => h ρ' H' σ cls d g s' (e.grow s.apart g) r
  | stuck => exact h
/-- the first of two statements -/
theorem PostS.seq {De : Ends} {ρ : List Addr} {H : Hp} {r : RsS} {k : DS} (h : PostS X.K ex X.mg Wx De ρ H (r.next k)) : PostS X.K ex X.mg Wx { De with nx := RS X ex Wx k De } ρ H r := by
  cases r with
  | stuck => exact h
  | err c fs env st => exact h
  | go f env st =>
    cases f with
    | nx => exact fun ρ' H' σ' g s e => ⟨ρ', env, st, s, e, PostS.mono h g⟩
    | rt v => exact h
    | bk => exact h
    | ct => exact h
theorem is_cons {a : Stmt} {rest : List Stmt} {m k : DS} (ha : IS X ex Wx a m) (hr : ISs X ex Wx rest k) : ISs X ex Wx (a :: rest) (sSeq m k) :=
  PSs.of (pss_cons ha hr) fun D σ H ⟨ρ, env, st, s, e, p⟩ => ⟨ρ, env, st, s, e, PostS.seq p⟩
theorem is_one {a : Stmt} {m : DS} (ha : IS X ex Wx a m) : ISs X ex Wx [a] m := pss_one ha
theorem is_nil : ISs X ex Wx [] sNil := PSs.of pss_nil fun D σ H ⟨ρ, env, st, s, e, p⟩ => p.go_ s e
theorem is_never {a : Stmt} : IS X ex Wx a sNever := PS.of ps_never fun D σ H ⟨ρ, env, st, s, e, p⟩ => p
theorem is_neverS {a : List Stmt} : ISs X ex Wx a sNever := PSs.of pss_never fun D σ H ⟨ρ, env, st, s, e, p⟩ => p
theorem is_pass : IS X ex Wx (.Pass pos) sNil := PS.of ps_pass fun D σ H ⟨ρ, env, st, s, e, p⟩ => p.go_ s e
theorem is_break : IS X ex Wx (.Break pos) sBk := PS.of ps_break fun D σ H ⟨ρ, env, st, s, e, p⟩ => p.go_ s e
theorem is_continue : IS X ex Wx (.Continue pos) sCt := PS.of ps_continue fun D σ H ⟨ρ, env, st, s, e, p⟩ => p.go_ s e
theorem is_expr {e : Expr} {m : D W} (he : IE X ex Wx e m) (hs : swapsWith e none pos.line X.env = pure false := by rfl) : IS X ex Wx (.Expr e pos) (sExpr m) :=
  PS.of (ps_expr he hs) fun De σ H ⟨ρ, env, st, s, e, p⟩ => RS.step s e p fun ρ1 H1 st1 a x g s1 e1 r p1 => PostS.go_ (f := .nx) p1 s1 e1
theorem is_ret {e : Expr} {m : D W} (he : IE X ex Wx e m) : IS X ex Wx (.Return (some e) pos) (sRet m) :=
  PS.of (ps_ret he) fun D σ H ⟨ρ, env, st, s, e, p⟩ => RS.step s e p fun ρ1 H1 st1 a x g s1 e1 r p1 => PostS.go_ (f := .rt a) p1 s1 e1 x r
theorem is_retN : IS X ex Wx (.Return none pos) sRetN := PS.of ps_retN fun D σ H ⟨ρ, env, st, s, e, p⟩ => p.go_ s e .non (by simp [VR])
theorem is_if {c : Expr} {a b : List Stmt} {mc : D Bool} {ma mb : DS} (hc : IT X ex Wx c mc) (ha : ISs X ex Wx a ma) (hb : ISs X ex Wx b mb) : IS X ex Wx (.If c a b pos) (sIf mc ma mb) :=
  PS.of (ps_if hc ha hb) fun D σ H ⟨ρ, env, st, s, e, p⟩ => RS.step (rel := relE) s e p fun ρ1 H1 st1 k x g s1 e1 r p1 => by
    have r' : k = x := r
    subst r'
    by_cases h : k = true
    · rw [if_pos h] at p1 ⊢; exact ⟨ρ1, env, st1, s1, e1, p1⟩
    · rw [if_neg h] at p1 ⊢; exact ⟨ρ1, env, st1, s1, e1, p1⟩
/-! targets -/
theorem ig_name {vs : List Nat} {i : Nat} {x : Str} (hv : i ∈ vs) (hx0 : ExOk ex i := by exact ExOk.none) (hN : X.N.Nodup) (hi : X.N[i]? = some x) (hx : Loc X.env.scope x) (hf : X.fn x = true ∨ X.env.scope.names.lookup x = some .local := by first | exact .inl rfl | exact .inr rfl | assumption) : IG X ex vs (.Name x pos) (tName i) :=
  ⟨fun pins s σ H v u Q I r h => (pg_name hN hi hx hf).run pins s σ H v u Q I r (by
    obtain ⟨ρ, env, st, w, s, e, rv, env', st', q, p⟩ := h
    cases q
    exact p ρ H _ .refl s (e.set hx0 rv) (wipe_set hv))⟩
theorem is_asg {vs : List Nat} {tg e : Expr} {m : D W} {t : DT} (he : IE X ex Wx e m) (hg : IG X ex vs tg t) (hs : swapsWithSole [tg] e pos.line X.env = pure false := by rfl) (hw : swappedStores [tg] e X.env = pure none := by rfl)
    (h1 : (assignEach [tg] X.env).map (·.2) = [assign tg X.env] := by rfl) : IS X ex Wx (.Assign [tg] e pos) (sAsg m t) :=
  PS.of (ps_asg he hg hs hw h1) fun D σ H ⟨ρ, env, st, s, e, p⟩ => RS.step s e p fun ρ1 H1 st1 a x g s1 e1 r p1 => by
    refine ⟨ρ1, env, st1, a, s1, e1, r, ?_⟩
    generalize t a env st1 = q at p1
    match q, p1 with
    | some (env', st'), p1 => exact ⟨env', st', rfl, fun ρ' H' σ' g' s' e' _ => p1 ρ' H' σ' g' s' e'⟩
    | none, p1 => exact p1.elim
theorem is_set {i : Nat} {x : Str} {e : Expr} {m : D W} {pos' : Pos} (hx0 : ExOk ex i) (hN : X.N.Nodup) (hi : X.N[i]? = some x) (hx : Loc X.env.scope x) (he : IE X ex Wx e m) (hs : swapsWith e (some (.Name x pos')) pos.line X.env = pure false := by rfl)
    (hf : X.fn x = true ∨ X.env.scope.names.lookup x = some .local := by first | exact .inl rfl | exact .inr rfl | assumption) : IS X ex Wx (.Assign [.Name x pos'] e pos) (sAsg m (tName i)) :=
  PS.of (ps_set hN hi hx he hs hf) fun D σ H ⟨ρ, env, st, s, e, p⟩ => RS.step s e p fun ρ1 H1 st1 a x g s1 e1 r p1 => PostS.go_ p1 s1 (e1.set hx0 r)
/-- several targets by the parts of a tuple -/
def RTs (X : Cx) (ex : Option Exn) (vl : List Nat) (ts : List DT) : TGs := fun vs σ H Q => ∃ ρ env st ws, StR X.K ρ H st ∧ EnvR X.K ex ρ H env σ ∧ VRs X.K ρ H ws vs ∧
  ∃ env' st', tAll ts ws env st = some (env', st') ∧ ∀ ρ' H' σ', Grow ρ H ρ' H' → StR X.K ρ' H' st' → EnvR X.K ex ρ' H' env' σ' → wipe σ' vl = wipe σ vl → Q σ' H'
abbrev IGs (X : Cx) (ex : Option Exn) (vl : List Nat) (es : List Expr) (ts : List DT) : Prop := PGs X es (RTs X ex vl ts)
theorem PGs.of {es : List Expr} {t t' : TGs} (h : PGs X es t) (w : ∀ vs σ H Q, t' vs σ H Q → t vs σ H Q) : PGs X es t' := ⟨fun pins s σ H vs us Q I r q => h.run pins s σ H vs us Q I r (w _ _ _ _ q)⟩
theorem PG.of {e : Expr} {t t' : TG} (h : PG X e t) (w : ∀ v σ H Q, t' v σ H Q → t v σ H Q) : PG X e t' := ⟨fun pins s σ H v u Q I r q => h.run pins s σ H v u Q I r (w _ _ _ _ q)⟩
theorem igs_nil {vl : List Nat} : IGs X ex vl [] [] := PGs.of pgs_nil fun vs σ H Q ⟨ρ, env, st, ws, s, e, r, env', st', q, p⟩ => by
  cases ws with
  | nil =>
    simp only [VRs] at r
    simp only [tAll, Option.some.injEq, Prod.mk.injEq] at q
    obtain ⟨rfl, rfl⟩ := q
    exact ⟨r, p ρ H σ .refl s e rfl⟩
  | cons w ws => simp [tAll] at q
theorem igs_cons {vl : List Nat} {e : Expr} {es : List Expr} {t : DT} {ts : List DT} (h1 : IG X ex vl e t) (h2 : IGs X ex vl es ts) (hs : (assignEach (e :: es) X.env).map (·.2) = assign e X.env :: (assignEach es X.env).map (·.2) := by rfl) : IGs X ex vl (e :: es) (t :: ts) :=
  PGs.of (pgs_cons h1 h2 hs) fun vs σ H Q ⟨ρ, env, st, ws, s, e, r, env', st', q, p⟩ => by
    cases ws with
    | nil => simp [tAll] at q
    | cons w ws =>
      simp only [VRs] at r
      obtain ⟨u, us, rfl, ru, rs⟩ := r
      unfold tAll at q
      cases ht : t w env st with
      | none => rw [ht] at q; cases q
      | some pr =>
        obtain ⟨env1, st1⟩ := pr
        rw [ht] at q
        refine ⟨u, us, rfl, ρ, env, st, w, s, e, ru, env1, st1, ht, fun ρ1 H1 σ1 g s1 e1 w1 => ?_⟩
        exact ⟨ρ1, env1, st1, ws, s1, e1, VRs.grow s.apart g ws us rs, env', st', q, fun ρ' H' σ' g' s' e' w' => p ρ' H' σ' (g.trans g') s' e' (w'.trans w1)⟩
theorem tAll_len : ∀ {ts : List DT} {ws : List W} {env : EnvW} {st : Store} {r : EnvW × Store}, tAll ts ws env st = some r → ws.length = ts.length
  | [], [], _, _, _, _ => rfl
  | [], _ :: _, _, _, _, h => by simp [tAll] at h
  | _ :: _, [], _, _, _, h => by simp [tAll] at h
  | t :: ts, w :: ws, env, st, r, h => by
    unfold tAll at h
    cases ht : t w env st with
    | none => rw [ht] at h; cases h
    | some pr => rw [ht] at h; simp [tAll_len (show tAll ts ws pr.1 pr.2 = some r from h)]
theorem ig_tup {vl : List Nat} {es : List Expr} {k : Nat} {ts : List DT} (hc : X.calm = true) (h : IGs X ex vl es ts) (hn : (assignEach es X.env).length = ts.length := by rfl) (hst : (assignEach es X.env).findIdx? (·.1) = none := by rfl) : IG X ex vl (.Tuple es k pos) (tTupT ts) :=
  PG.of (pg_tup hc h hn hst) fun v σ H Q ⟨ρ, env, st, w, s, e, r, env', st', q, p⟩ => by
    cases w with
    | tup ws =>
      simp only [VR] at r
      obtain ⟨a, us, rfl, ht, rs⟩ := r
      have q' : tAll ts ws env st = some (env', st') := q
      exact ⟨a, us, rfl, ht.sq, by rw [← VRs.length rs, tAll_len q'], ρ, env, st, ws, s, e, rs, env', st', q', p⟩
    | _ => simp [tTupT] at q
end
end MP
namespace MP
open PySem PySem.Spec PyProof.Rows L2
open Classical
noncomputable section

/-! ### what is walked -/
structure ItW where
  items : List W
  src : Option Nat
/-- the list that is walked stands as it stood -/
def ItW.Chk (it : ItW) (st : Store) : Prop := match it.src with
  | none => True
  | some n => st[n]? = some (.lst it.items)
@[simp] theorem ItW.chk_none (l : List W) (st : Store) : ItW.Chk ⟨l, none⟩ st = True := rfl
@[simp] theorem ItW.chk_some (l : List W) (n : Nat) (st : Store) : ItW.Chk ⟨l, some n⟩ st = (st[n]? = some (.lst l)) := rfl
def signs (x : Str) : List W := x.cps.toList.map fun c => .str ⟨#[c]⟩
def intsW (lo : Int) (n : Nat) : List W := (List.range n).map fun i => .int (lo + (i : Nat))
def itOf (a : W) (st : Store) : Res ItW := match a with
  | .tup xs => .ok ⟨xs, none⟩ st
  | .fro xs => .ok ⟨xs, none⟩ st
  | .str x => .ok ⟨signs x, none⟩ st
  | .loc n => match st[n]? with
    | some (.lst xs) => .ok ⟨xs, some n⟩ st
    | none => .stuck
  | _ => .stuck
def dIt (m : D W) : D ItW := fun env st => (m env st).bind fun a st1 => itOf a st1
def rangeW (lo hi : Int) (st : Store) : Res ItW := if -(2 ^ 62) ≤ lo ∧ lo < 2 ^ 62 ∧ -(2 ^ 62) ≤ hi ∧ hi < 2 ^ 62 then .ok ⟨intsW lo (hi - lo).toNat, none⟩ st else .stuck
def rangeOf (l : List W) (st : Store) : Res ItW := match l with
  | [.int j] => rangeW 0 j st
  | [.int i, .int j] => rangeW i j st
  | _ => .stuck
def dRange (m : D (List W)) : D ItW := fun env st => (m env st).bind fun l st1 => rangeOf l st1
def dRange1 (m : D (List W)) : D ItW := dRange (fun env st => (m env st).bind fun l st1 => match l with | [.int j] => .ok [.int j] st1 | _ => .stuck)
def dRange2 (m : D (List W)) : D ItW := dRange (fun env st => (m env st).bind fun l st1 => match l with | [.int i, .int j] => .ok [.int i, .int j] st1 | _ => .stuck)
def forW (chk : Store → Prop) (t : DT) (b : DS) : List W → DS
  | [], env, st => if chk st then .go .nx env st else .stuck
  | w :: ws, env, st => if chk st then
      match t w env st with
      | none => .stuck
      | some (env1, st1) => match b env1 st1 with
        | .go .nx env2 st2 => forW chk t b ws env2 st2
        | .go .ct env2 st2 => forW chk t b ws env2 st2
        | .go .bk env2 st2 => .go .nx env2 st2
        | r => r
    else .stuck
def sFor (m : D ItW) (t : DT) (b : DS) : DS := fun env st => (m env st).then env fun it st1 => forW it.Chk t b it.items env st1
def whileF (c : D Bool) (b : DS) : Nat → DS
  | 0, _, _ => .stuck
  | n + 1, env, st => (c env st).then env fun k st1 => if k = true then
      match b env st1 with
      | .go .nx env2 st2 => whileF c b n env2 st2
      | .go .ct env2 st2 => whileF c b n env2 st2
      | .go .bk env2 st2 => .go .nx env2 st2
      | r => r
    else .go .nx env st1
def sWhile (c : D Bool) (b : DS) : DS := fun env st => if h : ∃ n, whileF c b n env st ≠ .stuck then whileF c b h.choose env st else .stuck
/-- a comprehension's elements -/
def wipeW (env : EnvW) : List Nat → EnvW
  | [] => env
  | v :: vs => (wipeW env vs).set v none
def lcW (chk : Store → Prop) (env : EnvW) (t : DT) (c : D Bool) (e : D W) : List W → List W → Store → Option (List W × Store)
  | [], acc, st => if chk st then some (acc, st) else none
  | w :: ws, acc, st => if chk st then
      match t w env st with
      | none => none
      | some (env1, st1) => match c env1 st1 with
        | .ok true st2 => match e env1 st2 with
          | .ok y st3 => if acc.length < sizeLine then lcW chk env t c e ws (acc ++ [y]) st3 else none
          | _ => none
        | .ok false st2 => lcW chk env t c e ws acc st2
        | _ => none
    else none
def dYes : D Bool := fun _ st => .ok true st
def dLc (m : D ItW) (vs : List Nat) (t : DT) (c : D Bool) (e : D W) : D W := fun env st => (m env st).bind fun it st1 =>
  match lcW it.Chk (wipeW env vs) t c e it.items [] st1 with
  | some (acc, st2) => .ok (.loc st2.length) (st2 ++ [.lst acc])
  | none => .stuck

section
variable {X : Cx} {ex : Option Exn} {Wx : WX} {pos : Pos}
/-- an iterator walks these things -/
def relI (X : Cx) : List Addr → Hp → ItW → It → Prop := fun ρ0 H0 it J =>
  ∀ ρ H st, Grow ρ0 H0 ρ H → StR X.K ρ H st → it.Chk st → ∀ i, (∀ w, it.items[i]? = some w → J.go i H ∧ ∀ x H', J.yld i H x H' → Grow ρ H ρ H' ∧ StR X.K ρ H' st ∧ VR X.K ρ H' w x) ∧ (it.items.length ≤ i → J.stop i H)
abbrev II (X : Cx) (ex : Option Exn) (Wx : WX) (tg e : Expr) (m : D ItW) : Prop := PI X tg e (RG X ex Wx (relI X) m)
theorem PI.of {tg e : Expr} {t t' : TI} (h : PI X tg e t) (w : ∀ σ H R, t' σ H R → t σ H R) : PI X tg e t' := ⟨fun pins s σ H R I q => h.run pins s σ H R I (w _ _ _ q)⟩
theorem PI.or {tg e : Expr} {t t' : TI} (h : PI X tg e t) (h' : PI X tg e t') : PI X tg e (fun σ H R => t σ H R ∨ t' σ H R) := ⟨fun pins s σ H R I q => by
  rcases q with q | q
  · exact h.run pins s σ H R I q
  · exact h'.run pins s σ H R I q⟩
theorem relI_list {ρ : List Addr} {H : Hp} {st : Store} {ws : List W} {us : List V} {a : Addr} (s : StR X.K ρ H st) (ht : SqF X.K H a us) (r : VRs X.K ρ H ws us) : relI X ρ H ⟨ws, none⟩ (Itl X.K a) := by
  intro ρ' H' st' g s' _ i
  have h' := ht.grow s.apart g
  have r' := VRs.grow s.apart g ws us r
  refine ⟨fun w e => ?_, fun h => ⟨us, h'.sq, by rw [← VRs.length r]; exact h⟩⟩
  obtain ⟨v, e1, rv⟩ := r'.get e
  refine ⟨⟨us, v, h'.sq, e1⟩, fun x H2 ⟨e2, y⟩ => ?_⟩
  subst e2
  have := y us h'.sq
  rw [e1] at this; cases this
  exact ⟨.refl, s', rv⟩
theorem relI_tup {ρ : List Addr} {H : Hp} {st : Store} {ws : List W} {us : List V} {a : Addr} (s : StR X.K ρ H st) (ht : TpF X.K H a us) (r : VRs X.K ρ H ws us) : relI X ρ H ⟨ws, none⟩ (Itt X.K a) := by
  intro ρ' H' st' g s' _ i
  have h' := ht.grow s.apart g
  have r' := VRs.grow s.apart g ws us r
  refine ⟨fun w e => ?_, fun h => ⟨us, h'.sq, by rw [← VRs.length r]; exact h⟩⟩
  obtain ⟨v, e1, rv⟩ := r'.get e
  refine ⟨⟨us, v, h'.sq, e1⟩, fun x H2 ⟨e2, y⟩ => ?_⟩
  subst e2
  have := y us h'.sq
  rw [e1] at this; cases this
  exact ⟨.refl, s', rv⟩
theorem relI_loc {ρ : List Addr} {H : Hp} {ws : List W} {n : Nat} {a : Addr} (hn : ρ[n]? = some a) : relI X ρ H ⟨ws, some n⟩ (Itl X.K a) := by
  intro ρ' H' st' g s' ck i
  obtain ⟨m, e, _⟩ := g.pre
  subst e
  obtain ⟨b, hb, us, hu, r⟩ := s'.ob n (.lst ws) ck
  have : b = a := by
    rw [List.getElem?_append_left (List.getElem?_eq_some_iff.mp hn).1, hn] at hb
    exact (Option.some.inj hb).symm
  subst this
  have hs : SqL X.K H' b us := .inl (.inl hu)
  refine ⟨fun w e => ?_, fun h => ⟨us, hs, by rw [← VRs.length r]; exact h⟩⟩
  obtain ⟨v, e1, rv⟩ := r.get e
  refine ⟨⟨us, v, hs, e1⟩, fun x H2 ⟨e2, y⟩ => ?_⟩
  subst e2
  have := y us hs
  rw [e1] at this; cases this
  exact ⟨.refl, s', rv⟩
theorem relI_str {ρ : List Addr} {H : Hp} {z : Str} : relI X ρ H ⟨signs z, none⟩ (Its z) := by
  intro ρ' H' st' g s' _ i
  have hl : (signs z).length = z.cps.size := by simp [signs]
  refine ⟨fun w e => ?_, fun h => by show z.cps.size ≤ i; rw [← hl]; exact h⟩
  simp only [signs, List.getElem?_map] at e
  cases hc : z.cps.toList[i]? with
  | none => rw [hc] at e; cases e
  | some c =>
    rw [hc] at e
    cases e
    have hi : i < z.cps.size := by simpa using (List.getElem?_eq_some_iff.mp hc).1
    refine ⟨hi, fun x H2 ⟨e2, c', hc', e3⟩ => ?_⟩
    subst e2; subst e3
    have hcc : z.cps[i]? = some c := by simpa using hc
    rw [hcc] at hc'; cases hc'
    exact ⟨.refl, s', by simp [VR]⟩
theorem relI_range {ρ : List Addr} {H : Hp} {lo : Int} {n : Nat} : relI X ρ H ⟨intsW lo n, none⟩ (Itr lo n) := by
  intro ρ' H' st' g s' _ i
  have hl : (intsW lo n).length = n := by simp [intsW]
  refine ⟨fun w e => ?_, fun h => by show n ≤ i; rw [← hl]; exact h⟩
  have hi : i < n := by rw [← hl]; exact (List.getElem?_eq_some_iff.mp e).1
  refine ⟨hi, fun x H2 ⟨e2, e3⟩ => ?_⟩
  subst e2; subst e3
  simp only [intsW, List.getElem?_map, List.getElem?_range hi, Option.map_some, Option.some.injEq] at e
  subst e
  exact ⟨.refl, s', by simp [VR]⟩
theorem ii_val {tg e : Expr} {m : D W} (he : IE X ex Wx e m) : II X ex Wx tg e (dIt m) := by
  refine PI.of (PI.or (pi_list he) (PI.or (pi_tup he) (pi_str he))) fun σ H R ⟨ρ, env, st, s, e, p⟩ => ?_
  have key : ∀ (ok : W → Store → Prop) (R' : V → Hp → Prop), (∀ a st1, m env st = .ok a st1 → ok a st1) →
      (∀ ρ1 H1 st1 a x, ok a st1 → Grow ρ H ρ1 H1 → StR X.K ρ1 H1 st1 → VR X.K ρ1 H1 a x → Post X.K X.mg Wx (relI X) ρ1 H1 σ (itOf a st1) R → R' x H1) → RG X ex Wx (relV X.K) m σ H R' := fun ok R' h1 h2 => by
    refine ⟨ρ, env, st, s, e, ?_⟩
    unfold dIt at p
    generalize hm : m env st = r at p h1
    cases r with
    | ok a st' => exact fun ρ' H' x g s' r => h2 ρ' H' st' a x (h1 a st' rfl) g s' r (Post.mono p g)
    | err c fs st' => exact p
    | stuck => exact p
  have p0 := p
  unfold dIt at p0
  generalize hm : m env st = r at p0
  cases r with
  | stuck => exact p0.elim
  | err c fs st' =>
    refine .inl (key (fun _ _ => False) _ (fun a st1 h => ?_) (fun _ _ _ _ _ h => h.elim))
    rw [hm] at h; cases h
  | ok a0 st0 =>
    have same : ∀ a st1, m env st = .ok a st1 → (a = a0 ∧ st1 = st0) := fun a st1 h => by rw [hm] at h; cases h; exact ⟨rfl, rfl⟩
    cases a0 with
    | tup xs =>
      refine .inr (.inl (key _ _ same fun ρ1 H1 st1 a x h g s1 r q => ?_))
      obtain ⟨rfl, rfl⟩ := h
      simp only [VR] at r
      obtain ⟨ad, us, rfl, ht, rs⟩ := r
      exact ⟨ad, rfl, ⟨us, ht.sq⟩, q ρ1 H1 _ .refl s1 (relI_tup s1 ht rs)⟩
    | fro xs =>
      refine .inl (key _ _ same fun ρ1 H1 st1 a x h g s1 r q => ?_)
      obtain ⟨rfl, rfl⟩ := h
      simp only [VR] at r
      obtain ⟨ad, us, rfl, ht, rs⟩ := r
      exact ⟨ad, rfl, ⟨us, ht.sq⟩, q ρ1 H1 _ .refl s1 (relI_list s1 ht rs)⟩
    | loc n =>
      refine .inl (key _ _ same fun ρ1 H1 st1 a x h g s1 r q => ?_)
      obtain ⟨rfl, rfl⟩ := h
      simp only [VR] at r
      obtain ⟨ad, hn, rfl⟩ := r
      simp only [itOf] at q
      split at q
      · rename_i xs hx
        obtain ⟨b, hb, us, hu, rs⟩ := s1.ob n (.lst xs) hx
        rw [hn] at hb; cases hb
        exact ⟨ad, rfl, ⟨us, .inl (.inl hu)⟩, q ρ1 H1 _ .refl s1 (relI_loc hn)⟩
      · exact q.elim
    | str z =>
      refine .inr (.inr (key _ _ same fun ρ1 H1 st1 a x h g s1 r q => ?_))
      obtain ⟨rfl, rfl⟩ := h
      simp only [VR] at r
      exact ⟨z, r, q ρ1 H1 _ .refl s1 relI_str⟩
    | _ => exact p0.elim
theorem ii_range1 {tg a : Expr} {m : D (List W)} {p' : Pos} (hg : Gl X "range") (hm : X.mg "range" = none) (ha : IA X ex Wx [a] m) (hs : starEach [a] X.env = [(false, eval a X.env)] := by rfl) : II X ex Wx tg (.Call (.Name "range" p') [a] [] pos) (dRange1 m) :=
  PI.of (pi_range1 hg hm ha hs) fun σ H R ⟨ρ, env, st, s, e, p⟩ => by
    have p' : Post X.K X.mg Wx (relI X) ρ H σ ((m env st).bind fun l st1 => match l with | [.int j] => rangeW 0 j st1 | _ => .stuck) R := by
      unfold dRange1 dRange at p
      simp only at p
      generalize m env st = r at p ⊢
      cases r with
      | ok l st1 =>
        simp only [Res.bind_ok] at p ⊢
        match l, p with
        | [.int j], p => exact p
      | err c fs st1 => exact p
      | stuck => exact p
    refine RG.bind s e p' fun ρ1 H1 st1 l vs g1 s1 e1 r q => ?_
    match l, q, r with
    | [.int j], q, r =>
      simp only [VRs, VR] at r
      obtain ⟨_, _, rfl, rfl, rfl⟩ := r
      simp only [rangeW] at q
      split at q
      · rename_i hb
        have e0 : (j - 0).toNat = j.toNat := by omega
        rw [e0] at q
        exact ⟨j, rfl, hb.2.2.1, hb.2.2.2, q ρ1 H1 _ .refl s1 relI_range⟩
      · exact q.elim
theorem ii_range2 {tg a b : Expr} {m : D (List W)} {p' : Pos} (hg : Gl X "range") (hm : X.mg "range" = none) (ha : IA X ex Wx [a, b] m) (hs : starEach [a, b] X.env = [(false, eval a X.env), (false, eval b X.env)] := by rfl) (hs2 : starEach [b] X.env = [(false, eval b X.env)] := by rfl) :
    II X ex Wx tg (.Call (.Name "range" p') [a, b] [] pos) (dRange2 m) :=
  PI.of (pi_range2 hg hm ha hs hs2) fun σ H R ⟨ρ, env, st, s, e, p⟩ => by
    have p' : Post X.K X.mg Wx (relI X) ρ H σ ((m env st).bind fun l st1 => match l with | [.int i, .int j] => rangeW i j st1 | _ => .stuck) R := by
      unfold dRange2 dRange at p
      simp only at p
      generalize m env st = r at p ⊢
      cases r with
      | ok l st1 =>
        simp only [Res.bind_ok] at p ⊢
        match l, p with
        | [.int i, .int j], p => exact p
      | err c fs st1 => exact p
      | stuck => exact p
    refine RG.bind s e p' fun ρ1 H1 st1 l vs g1 s1 e1 r q => ?_
    match l, q, r with
    | [.int i, .int j], q, r =>
      simp only [VRs, VR] at r
      obtain ⟨_, _, rfl, rfl, _, _, rfl, rfl, rfl⟩ := r
      simp only [rangeW] at q
      split at q
      · rename_i hb
        exact ⟨i, j, rfl, hb, q ρ1 H1 _ .refl s1 relI_range⟩
      · exact q.elim
/-! ### loops -/
theorem is_for {vs : List Nat} {tg iter : Expr} {body : List Stmt} {m : D ItW} {t : DT} {b : DS} (hp : PassesOwn (model X.prog X.w) X.A X.env X.xe) (hc : X.calm = true) (hi : II X ex Wx tg iter m) (hg : IG X ex vs tg t) (hb : ISs X ex Wx body b) (hs : ∀ x, foldedSetIterable iter X.env x = pure x := by intro _; rfl) : IS X ex Wx (.For tg iter body [] pos) (sFor m t b) :=
  PS.of (ps_for hp hc hi hg hb hs) fun De σ H ⟨ρ, env, st, s, e, p⟩ => RS.step (rel := relI X) s e p fun ρ1 H1 st1 it J g s1 e1 r q => by
    refine ⟨fun i m σ H => m = it.items.length - i ∧ i ≤ it.items.length ∧ ∃ ρ env st, Grow ρ1 H1 ρ H ∧ StR X.K ρ H st ∧ EnvR X.K ex ρ H env σ ∧ PostS X.K ex X.mg Wx De ρ H (forW it.Chk t b (it.items.drop i) env st),
      ⟨_, rfl, Nat.zero_le _, ρ1, env, st1, .refl, s1, e1, q⟩, ?_⟩
    rintro i m σ' H' ⟨rfl, hi, ρ', env', st', g', s', e', q'⟩
    by_cases hlt : i < it.items.length
    · rw [List.drop_eq_getElem_cons hlt] at q'
      unfold forW at q'
      split at q'
      · rename_i ck
        obtain ⟨go, stop⟩ := r ρ' H' st' g' s' ck i
        obtain ⟨hgo, hy⟩ := go _ (List.getElem?_eq_getElem hlt)
        refine .inr ⟨hgo, fun σ2 H2 => ∃ ρ env st, Grow ρ1 H1 ρ H2 ∧ StR X.K ρ H2 st ∧ EnvR X.K ex ρ H2 env σ2 ∧ PostS X.K ex X.mg Wx De ρ H2 (forW it.Chk t b (it.items.drop (i + 1)) env st), fun σ2 H2 n => ⟨_, by omega, rfl, hlt, n⟩, fun x H2 y => ?_⟩
        obtain ⟨g2, s2, rv⟩ := hy x H2 y
        have e2 := e'.grow s'.apart g2
        cases ht : t it.items[i] env' st' with
        | none => rw [ht] at q'; exact q'.elim
        | some pr =>
          obtain ⟨env3, st3⟩ := pr
          rw [ht] at q'
          refine ⟨ρ', env', st', _, s2, e2, rv, env3, st3, ht, fun ρ3 H3 σ3 g3 s3 e3 _ => ⟨ρ3, env3, st3, s3, e3, ?_⟩⟩
          simp only at q'
          have gg := g'.trans (g2.trans g3)
          have q3 := PostS.mono q' (g2.trans g3)
          generalize hbr : b env3 st3 = br at q3
          cases br with
          | stuck => exact q3
          | err c fs env4 st4 => exact q3
          | go f env4 st4 =>
            cases f with
            | nx => exact fun ρ4 H4 σ4 g4 s4 e4 => ⟨ρ4, env4, st4, gg.trans g4, s4, e4, PostS.mono q3 g4⟩
            | ct => exact fun ρ4 H4 σ4 g4 s4 e4 => ⟨ρ4, env4, st4, gg.trans g4, s4, e4, PostS.mono q3 g4⟩
            | bk => exact q3
            | rt v => exact q3
      · exact q'.elim
    · have : i = it.items.length := by omega
      subst this
      rw [List.drop_length] at q'
      unfold forW at q'
      split at q'
      · rename_i ck
        exact .inl ⟨(r ρ' H' st' g' s' ck _).2 (Nat.le_refl _), PostS.go_ (f := .nx) q' s' e'⟩
      · exact q'.elim
theorem is_while {c : Expr} {body : List Stmt} {mc : D Bool} {b : DS} (hp : PassesOwn (model X.prog X.w) X.A X.env X.xe) (hc : IT X ex Wx c mc) (hb : ISs X ex Wx body b) : IS X ex Wx (.While c body [] pos) (sWhile mc b) :=
  PS.of (ps_while hp hc hb) fun De σ H ⟨ρ, env, st, s, e, p⟩ => by
    unfold sWhile at p
    split at p
    · rename_i hn
      refine ⟨fun m σ H => ∃ ρ env st, StR X.K ρ H st ∧ EnvR X.K ex ρ H env σ ∧ PostS X.K ex X.mg Wx De ρ H (whileF mc b m env st), ⟨_, ρ, env, st, s, e, p⟩, ?_⟩
      rintro m σ' H' ⟨ρ', env', st', s', e', q⟩
      cases m with
      | zero => exact q.elim
      | succ m =>
        unfold whileF at q
        refine RS.step (rel := relE) s' e' q fun ρ1 H1 st1 k x g1 s1 e1 r p1 => ?_
        have r' : k = x := r
        subst r'
        by_cases h : k = true
        · rw [if_pos h] at p1 ⊢
          refine ⟨fun σ2 H2 => ∃ ρ env st, StR X.K ρ H2 st ∧ EnvR X.K ex ρ H2 env σ2 ∧ PostS X.K ex X.mg Wx De ρ H2 (whileF mc b m env st), fun σ2 H2 n => ⟨m, Nat.lt_succ_self m, n⟩, ρ1, env', st1, s1, e1, ?_⟩
          generalize hbr : b env' st1 = br at p1
          cases br with
          | stuck => exact p1
          | err c fs env4 st4 => exact p1
          | go f env4 st4 =>
            cases f with
            | nx => exact fun ρ4 H4 σ4 g4 s4 e4 => ⟨ρ4, env4, st4, s4, e4, PostS.mono p1 g4⟩
            | ct => exact fun ρ4 H4 σ4 g4 s4 e4 => ⟨ρ4, env4, st4, s4, e4, PostS.mono p1 g4⟩
            | bk => exact p1
            | rt v => exact p1
        · rw [if_neg h] at p1 ⊢
          exact PostS.go_ (f := .nx) p1 s1 e1
    · exact p.elim
end
theorem whileF_mono {c : D Bool} {b : DS} : ∀ {n m : Nat} {env : EnvW} {st : Store}, whileF c b n env st ≠ .stuck → n ≤ m → whileF c b m env st = whileF c b n env st
  | 0, _, _, _, h, _ => absurd rfl h
  | n + 1, 0, _, _, _, hl => by omega
  | n + 1, m + 1, env, st, h, hl => by
    unfold whileF at h ⊢
    cases hc : c env st with
    | stuck => rfl
    | err x fs st1 => rfl
    | ok k st1 =>
      rw [hc] at h
      simp only [Res.then_ok] at h ⊢
      by_cases hk : k = true
      · rw [if_pos hk] at h ⊢
        rw [if_pos hk]
        cases hb : b env st1 with
        | stuck => rfl
        | err x fs env2 st2 => rfl
        | go f env2 st2 =>
          rw [hb] at h
          cases f with
          | nx => exact whileF_mono (n := n) (m := m) h (by omega)
          | ct => exact whileF_mono (n := n) (m := m) h (by omega)
          | bk => rfl
          | rt v => rfl
      · rw [if_neg hk, if_neg hk]
theorem sWhile_eq {c : D Bool} {b : DS} {env : EnvW} {st : Store} {r : RsS} (n : Nat) (h : whileF c b n env st = r) (hr : r ≠ .stuck) : sWhile c b env st = r := by
  have h1 : whileF c b n env st ≠ .stuck := by rw [h]; exact hr
  unfold sWhile
  rw [dif_pos ⟨n, h1⟩]
  have h2 := (⟨n, h1⟩ : ∃ n, whileF c b n env st ≠ .stuck).choose_spec
  rcases Nat.le_total n (⟨n, h1⟩ : ∃ n, whileF c b n env st ≠ .stuck).choose with hl | hl
  · rw [whileF_mono h1 hl, h]
  · rw [← whileF_mono h2 hl, h]
end
end MP
namespace MP
open PySem PySem.Spec PyProof.Rows L2
open Classical
noncomputable section

/-! ### comprehensions -/
mutual
theorem VR.imm {K : PySem.W.Frag} {ρ : List Addr} {H H' : Hp} (h1 : ∀ a xs, H a = some (.tup xs) → H' a = some (.tup xs)) (h2 : ∀ a o u, H a = some (.frz o u) → H' a = some (.frz o u)) : ∀ (w : W) (v : V), VR K ρ H w v → VR K ρ H' w v
  | .non, _, h => by simpa only [VR] using h
  | .bl _, _, h => by simpa only [VR] using h
  | .int _, _, h => by simpa only [VR] using h
  | .str _, _, h => by simpa only [VR] using h
  | .gl _, _, h => by simpa only [VR] using h
  | .loc n, _, h => by simpa only [VR] using h
  | .tup ws, v, h => by
    simp only [VR] at h ⊢
    obtain ⟨a, us, e, t, r⟩ := h
    exact ⟨a, us, e, t.imp (h1 a us) id, VRs.imm h1 h2 ws us r⟩
  | .fro ws, v, h => by
    simp only [VR] at h ⊢
    obtain ⟨a, us, e, t, r⟩ := h
    exact ⟨a, us, e, t.imp (fun ⟨o, z⟩ => ⟨o, h2 a o _ z⟩) id, VRs.imm h1 h2 ws us r⟩
theorem VRs.imm {K : PySem.W.Frag} {ρ : List Addr} {H H' : Hp} (h1 : ∀ a xs, H a = some (.tup xs) → H' a = some (.tup xs)) (h2 : ∀ a o u, H a = some (.frz o u) → H' a = some (.frz o u)) : ∀ (ws : List W) (vs : List V), VRs K ρ H ws vs → VRs K ρ H' ws vs
  | [], _, h => by simpa only [VRs] using h
  | w :: ws, vs, h => by
    simp only [VRs] at h ⊢
    obtain ⟨u, us, e, r, rs⟩ := h
    exact ⟨u, us, e, VR.imm h1 h2 w u r, VRs.imm h1 h2 ws us rs⟩
end
mutual
theorem VR.more {K : PySem.W.Frag} {ρ m : List Addr} {H : Hp} : ∀ (w : W) (v : V), VR K ρ H w v → VR K (ρ ++ m) H w v
  | .non, _, h => by simpa only [VR] using h
  | .bl _, _, h => by simpa only [VR] using h
  | .int _, _, h => by simpa only [VR] using h
  | .str _, _, h => by simpa only [VR] using h
  | .gl _, _, h => by simpa only [VR] using h
  | .loc n, _, h => by
    simp only [VR] at h ⊢
    obtain ⟨a, e, r⟩ := h
    exact ⟨a, by rw [List.getElem?_append_left (List.getElem?_eq_some_iff.mp e).1]; exact e, r⟩
  | .tup ws, v, h => by
    simp only [VR] at h ⊢
    obtain ⟨a, us, e, t, r⟩ := h
    exact ⟨a, us, e, t, VRs.more ws us r⟩
  | .fro ws, v, h => by
    simp only [VR] at h ⊢
    obtain ⟨a, us, e, t, r⟩ := h
    exact ⟨a, us, e, t, VRs.more ws us r⟩
theorem VRs.more {K : PySem.W.Frag} {ρ m : List Addr} {H : Hp} : ∀ (ws : List W) (vs : List V), VRs K ρ H ws vs → VRs K (ρ ++ m) H ws vs
  | [], _, h => by simpa only [VRs] using h
  | w :: ws, vs, h => by
    simp only [VRs] at h ⊢
    obtain ⟨u, us, e, r, rs⟩ := h
    exact ⟨u, us, e, VR.more w u r, VRs.more ws us rs⟩
end
section
variable {X : Cx} {Wx : WX} {pos : Pos}
/-- a list that the store doesn't have is changed -/
theorem side_imm {H : Hp} {D : Addr} {xs : List V} {o : HO} (hD : H D = some (.lst xs)) : (∀ a ys, H a = some (.tup ys) → upd H D o a = some (.tup ys)) ∧ (∀ a b u, H a = some (.frz b u) → upd H D o a = some (.frz b u)) := by
  refine ⟨fun a ys e => ?_, fun a b u e => ?_⟩
  · rw [upd_ne (ne_of e hD (by intro z; cases z))]; exact e
  · rw [upd_ne (ne_of e hD (by intro z; cases z))]; exact e
theorem StR.side {K : PySem.W.Frag} {ρ : List Addr} {H : Hp} {st : Store} {D : Addr} {xs : List V} {o : HO} (s : StR K ρ H st) (hD : H D = some (.lst xs)) (hn : D ∉ ρ) : StR K ρ (upd H D o) st := by
  obtain ⟨i1, i2⟩ := side_imm (o := o) hD
  refine ⟨s.len, s.nd, fun n ob e => ?_⟩
  obtain ⟨a, ha, hob⟩ := s.ob n ob e
  have hne : a ≠ D := fun z => hn (z ▸ List.mem_of_getElem? ha)
  refine ⟨a, ha, ?_⟩
  cases ob with
  | lst ws =>
    obtain ⟨us, hu, hr⟩ := hob
    exact ⟨us, by rw [upd_ne hne]; exact hu, VRs.imm i1 i2 ws us hr⟩
theorem EnvR.side {K : PySem.W.Frag} {ρ : List Addr} {H : Hp} {env : EnvW} {σ : L2.St} {D : Addr} {xs : List V} {o : HO} (e : EnvR K none ρ H env σ) (hD : H D = some (.lst xs)) : EnvR K none ρ (upd H D o) env σ := by
  obtain ⟨i1, i2⟩ := side_imm (o := o) hD
  exact ⟨e.len, fun i w h => let ⟨v, h1, h2⟩ := e.at_ i w h; ⟨v, h1, VR.imm i1 i2 w v h2⟩, fun _ h => nomatch h⟩
theorem EnvR.wipe {K : PySem.W.Frag} {ρ : List Addr} {H : Hp} {env : EnvW} {σ : L2.St} (e : EnvR K none ρ H env σ) : ∀ vs : List Nat, EnvR K none ρ H (wipeW env vs) (wipe σ vs)
  | [] => e
  | v :: vs => (e.wipe vs).unset .none
abbrev W0 : WX := fun _ _ _ _ => False
/-- a comprehension with one for -/
theorem lc_read {env : EnvW} {st : Store} {ρ : List Addr} {H : Hp} {σ : L2.St} {Q : VK} {m : D ItW} {t : DT} {vs : List Nat} {c : D Bool} {el : D W} {tt : TT}
    (s : StR X.K ρ H st) (e : EnvR X.K none ρ H env σ) (p : Post X.K X.mg Wx (relV X.K) ρ H σ (dLc m vs t c el env st) Q)
    (htt : ∀ σ H Q, RG X none W0 relE c σ H Q → tt σ H Q) :
    tLc (RG X none Wx (relI X) m) (RT X none vs t) tt (RG X none W0 (relV X.K) el) vs σ H Q := by
  refine RG.bind s e p fun ρ1 H1 st1 it J g s1 e1 r q => fun D hD => ?_
  have nD : D ∉ ρ1 := s1.none_of hD
  generalize hl : lcW it.Chk (wipeW env vs) t c el it.items [] st1 = res at q
  cases res with
  | none => exact q.elim
  | some pr =>
    obtain ⟨fin, stf⟩ := pr
    simp only at q
    have ew : EnvR X.K none ρ1 H1 (wipeW env vs) (wipe σ vs) := e1.wipe vs
    refine ⟨fun i m H => m = it.items.length - i ∧ i ≤ it.items.length ∧ ∃ ρ st acc us, Grow ρ1 H1 ρ H ∧ StR X.K ρ H st ∧ H D = some (.lst us) ∧ D ∉ ρ ∧ VRs X.K ρ H acc us ∧ lcW it.Chk (wipeW env vs) t c el (it.items.drop i) acc st = some (fin, stf),
      ⟨_, rfl, Nat.zero_le _, ρ1, st1, [], [], grow_imm hD, s1.grow_imm hD, upd_same, nD, by simp [VRs], hl⟩, ?_⟩
    rintro i m H' ⟨rfl, hi, ρ', st', acc, us, g', s', hD', nD', ra, hq⟩
    have ew' : EnvR X.K none ρ' H' (wipeW env vs) (wipe σ vs) := ew.grow s1.apart g'
    by_cases hlt : i < it.items.length
    · rw [List.drop_eq_getElem_cons hlt] at hq
      unfold lcW at hq
      split at hq
      · rename_i ck
        obtain ⟨go, stop⟩ := r ρ' H' st' g' s' ck i
        obtain ⟨hgo, hy⟩ := go _ (List.getElem?_eq_getElem hlt)
        refine .inr ⟨hgo, fun H2 => ∃ ρ st acc us, Grow ρ1 H1 ρ H2 ∧ StR X.K ρ H2 st ∧ H2 D = some (.lst us) ∧ D ∉ ρ ∧ VRs X.K ρ H2 acc us ∧ lcW it.Chk (wipeW env vs) t c el (it.items.drop (i + 1)) acc st = some (fin, stf), fun H2 n => ⟨_, by omega, rfl, hlt, n⟩, fun x H2 y => ?_⟩
        obtain ⟨g2, s2, rv⟩ := hy x H2 y
        have hD2 : H2 D = some (.lst us) := g2.keep D _ hD' nD'
        have e2 := ew'.grow s'.apart g2
        cases htt' : t it.items[i] (wipeW env vs) st' with
        | none => rw [htt'] at hq; cases hq
        | some pr =>
          obtain ⟨env3, st3⟩ := pr
          rw [htt'] at hq
          simp only at hq
          refine ⟨ρ', wipeW env vs, st', _, s2, e2, rv, env3, st3, htt', fun ρ3 H3 σ3 g3 s3 e3 w3 => ⟨w3.trans wipe_wipe, ?_⟩⟩
          have hD3 : H3 D = some (.lst us) := g3.keep D _ hD2 nD'
          have nD3 : D ∉ ρ3 := fun z => by
            obtain ⟨mm, em, fm⟩ := g3.pre
            subst em
            rcases List.mem_append.mp z with z | z
            · exact nD' z
            · have := fm D z; rw [hD2] at this; cases this
          refine htt _ _ _ ⟨ρ3, env3, st3, s3, e3, ?_⟩
          generalize hc : c env3 st3 = rc at hq
          cases rc with
          | stuck => cases hq
          | err cc fs st4 => cases hq
          | ok b st4 =>
            intro ρ4 H4 b' g4 s4 rb
            have rb' : b = b' := rb
            subst rb'
            have hD4 : H4 D = some (.lst us) := g4.keep D _ hD3 nD3
            have nD4 : D ∉ ρ4 := fun z => by
              obtain ⟨mm, em, fm⟩ := g4.pre
              subst em
              rcases List.mem_append.mp z with z | z
              · exact nD3 z
              · have := fm D z; rw [hD3] at this; cases this
            have g24 : Grow ρ' H' ρ4 H4 := g2.trans (g3.trans g4)
            have ra4 : VRs X.K ρ4 H4 acc us := VRs.grow s'.apart g24 acc us ra
            have e4 := e3.grow s3.apart g4
            cases b with
            | false =>
              rw [if_neg (by decide)]
              exact ⟨ρ4, st4, acc, us, g'.trans g24, s4, hD4, nD4, ra4, hq⟩
            | true =>
              rw [if_pos rfl]
              simp only at hq
              refine ⟨ρ4, env3, st4, s4, e4, ?_⟩
              generalize hel : el env3 st4 = re at hq
              cases re with
              | stuck => cases hq
              | err cc fs st5 => cases hq
              | ok y st5 =>
                intro ρ5 H5 yv g5 s5 ry
                simp only at hq
                split at hq
                · rename_i hsz
                  have hD5 : H5 D = some (.lst us) := g5.keep D _ hD4 nD4
                  have nD5 : D ∉ ρ5 := fun z => by
                    obtain ⟨mm, em, fm⟩ := g5.pre
                    subst em
                    rcases List.mem_append.mp z with z | z
                    · exact nD4 z
                    · have := fm D z; rw [hD4] at this; cases this
                  have ra5 : VRs X.K ρ5 H5 acc us := VRs.grow s4.apart g5 acc us ra4
                  obtain ⟨i1, i2⟩ := side_imm (o := .lst (us ++ [yv])) hD5
                  refine ⟨us, hD5, by rw [← VRs.length ra5]; exact hsz, ρ5, st5, acc ++ [y], us ++ [yv], ?_, s5.side hD5 nD5, upd_same, nD5, VRs.imm i1 i2 _ _ (ra5.append (.one ry)), hq⟩
                  have g15 : Grow ρ1 H1 ρ5 H5 := g'.trans (g24.trans g5)
                  exact ⟨g15.pre, fun a o ha hn => by rw [upd_ne (ne_of_none ha hD)]; exact g15.keep a o ha hn, fun a ha hn => by
                    by_cases z : a = D
                    · subst z; rw [upd_same]; simp
                    · rw [upd_ne z]; exact g15.live a ha hn⟩
                · cases hq
      · cases hq
    · have : i = it.items.length := by omega
      subst this
      rw [List.drop_length] at hq
      unfold lcW at hq
      split at hq
      · rename_i ck
        cases hq
        refine .inl ⟨(r ρ' H' _ g' s' ck _).2 (Nat.le_refl _), ?_⟩
        have gD : Grow ρ1 H1 (ρ' ++ [D]) H' := by
          obtain ⟨mm, em, fm⟩ := g'.pre
          subst em
          exact ⟨⟨mm ++ [D], by simp, fun a ha => by
            rcases List.mem_append.mp ha with ha | ha
            · exact fm a ha
            · have : a = D := by simpa using ha
              subst this; exact hD⟩, g'.keep, g'.live⟩
        have sD : StR X.K (ρ' ++ [D]) H' (stf ++ [.lst fin]) := by
          have gg : Grow ρ' H' (ρ' ++ [D]) H' ∨ True := .inr trivial
          refine ⟨by simp [s'.len], ?_, fun n o en => ?_⟩
          · rw [List.nodup_append]
            exact ⟨s'.nd, List.nodup_cons.mpr ⟨by simp, List.nodup_nil⟩, fun a ha b hb ee => by
              have : b = D := by simpa using hb
              subst this; subst ee; exact nD' ha⟩
          · by_cases hn : n < stf.length
            · rw [List.getElem?_append_left hn] at en
              obtain ⟨a, ha, hob⟩ := s'.ob n o en
              have hl2 := (List.getElem?_eq_some_iff.mp ha).1
              refine ⟨a, by rw [List.getElem?_append_left hl2]; exact ha, ?_⟩
              cases o with
              | lst ws =>
                obtain ⟨us2, hu, hr⟩ := hob
                exact ⟨us2, hu, VRs.more ws us2 hr⟩
            · have hl2 : n < (stf ++ [Ob.lst fin]).length := (List.getElem?_eq_some_iff.mp en).1
              have : n = stf.length := by simp at hl2; omega
              subst this
              rw [List.getElem?_append_right (Nat.le_refl _)] at en
              simp at en; subst en
              exact ⟨D, by rw [← s'.len, List.getElem?_append_right (Nat.le_refl _)]; simp, us, hD', VRs.more _ _ ra⟩
        exact q (ρ' ++ [D]) H' (.ref D) gD sD (by
          simp only [relV, VR]
          exact ⟨D, by rw [← s'.len]; simp, rfl⟩)
      · cases hq
theorem ie_lc {elt tg iter : Expr} {scope : Scope} {own : List (Str × Nat)} {m : D ItW} {t : DT} {el : D W} (hc : X.calm = true) (hN : X.N.Nodup) (hi : II X none Wx tg iter m) (ok : BlkOk X.N X.env.scope scope own)
    (hg : ∀ (s : Shared) (H : Hp) (C : Addr) (cl : List (Str × Addr)) (fp : List Addr), IG (X.blk s H scope (compEnvC scope cl C X.env) fp) none (own.map (·.2)) tg t)
    (he : ∀ (s : Shared) (H : Hp) (C : Addr) (cl : List (Str × Addr)) (fp : List Addr), IE (X.blk s H scope (compEnvC scope cl C X.env) fp) none W0 elt el) (hs : ∀ x, foldedSetIterable iter X.env x = pure x := by intro _; rfl) :
    IE X none Wx (.ListComp elt [⟨tg, iter, [], 0⟩] scope pos) (dLc m (own.map (·.2)) t dYes el) :=
  PE.of (pe_lc hc hN hi ok hg (fun _ _ _ _ _ => pts_nil) he hs) fun σ H Q ⟨ρ, env, st, s, e, p⟩ => lc_read s e p fun σ H Q ⟨ρ, env, st, s, e, p⟩ => Post.ok_ p s rfl
theorem ie_lcIf {elt tg iter cnd : Expr} {scope : Scope} {own : List (Str × Nat)} {m : D ItW} {t : DT} {c : D Bool} {el : D W} (hc : X.calm = true) (hN : X.N.Nodup) (hi : II X none Wx tg iter m) (ok : BlkOk X.N X.env.scope scope own)
    (hg : ∀ (s : Shared) (H : Hp) (C : Addr) (cl : List (Str × Addr)) (fp : List Addr), IG (X.blk s H scope (compEnvC scope cl C X.env) fp) none (own.map (·.2)) tg t)
    (ht : ∀ (s : Shared) (H : Hp) (C : Addr) (cl : List (Str × Addr)) (fp : List Addr), IT (X.blk s H scope (compEnvC scope cl C X.env) fp) none W0 cnd c)
    (he : ∀ (s : Shared) (H : Hp) (C : Addr) (cl : List (Str × Addr)) (fp : List Addr), IE (X.blk s H scope (compEnvC scope cl C X.env) fp) none W0 elt el) (hs : ∀ x, foldedSetIterable iter X.env x = pure x := by intro _; rfl) :
    IE X none Wx (.ListComp elt [⟨tg, iter, [cnd], 0⟩] scope pos) (dLc m (own.map (·.2)) t c el) :=
  PE.of (pe_lc hc hN hi ok hg (fun s H C cl fp => pts_one (ht s H C cl fp)) he hs) fun σ H Q ⟨ρ, env, st, s, e, p⟩ => lc_read s e p fun σ H Q h => h
/-- y = [..] -/
theorem is_setLc {i : Nat} {y : Str} {py spos : Pos} {elt tg iter : Expr} {scope : Scope} {own : List (Str × Nat)} {m : D ItW} {t : DT} {el : D W} (hc : X.calm = true) (hN : X.N.Nodup) (hy : X.N[i]? = some y) (hyl : X.env.scope.names.lookup y = some .local)
    (hsw : swapsWith (.ListComp elt [⟨tg, iter, [], 0⟩] scope pos) (some (.Name y py)) spos.line X.env = pure true) (hi : II X none Wx tg iter m) (ok : BlkOk X.N X.env.scope scope own)
    (hg : ∀ (s : Shared) (H : Hp) (C : Addr) (cl : List (Str × Addr)) (fp : List Addr), IG (X.blk s H scope (compEnvC scope cl C X.env) fp) none (own.map (·.2)) tg t)
    (he : ∀ (s : Shared) (H : Hp) (C : Addr) (cl : List (Str × Addr)) (fp : List Addr), IE (X.blk s H scope (compEnvC scope cl C X.env) fp) none W0 elt el) (hs : ∀ x, foldedSetIterable iter X.env x = pure x := by intro _; rfl) :
    IS X none Wx (.Assign [.Name y py] (.ListComp elt [⟨tg, iter, [], 0⟩] scope pos) spos) (sAsg (dLc m (own.map (·.2)) t dYes el) (tName i)) :=
  PS.of (ps_setLc hc hN hy hyl hsw hi ok hg (fun _ _ _ _ _ => pts_nil) he hs) fun De σ H ⟨ρ, env, st, s, e, p⟩ => by
    have z : RG X none Wx (relV X.K) (dLc m (own.map (·.2)) t dYes el) σ H fun x H1 => gName i x σ H1 De.nx :=
      RS.step s e p fun ρ1 H1 st1 a x g s1 e1 r p1 => PostS.go_ (f := .nx) p1 s1 (e1.set .none r)
    obtain ⟨ρ', env', st', s', e', p'⟩ := z
    exact lc_read s' e' p' fun σ H Q ⟨ρ, env, st, s, e, p⟩ => Post.ok_ p s rfl
theorem is_setLcIf {i : Nat} {y : Str} {py spos : Pos} {elt tg iter cnd : Expr} {scope : Scope} {own : List (Str × Nat)} {m : D ItW} {t : DT} {c : D Bool} {el : D W} (hc : X.calm = true) (hN : X.N.Nodup) (hy : X.N[i]? = some y) (hyl : X.env.scope.names.lookup y = some .local)
    (hsw : swapsWith (.ListComp elt [⟨tg, iter, [cnd], 0⟩] scope pos) (some (.Name y py)) spos.line X.env = pure true) (hi : II X none Wx tg iter m) (ok : BlkOk X.N X.env.scope scope own)
    (hg : ∀ (s : Shared) (H : Hp) (C : Addr) (cl : List (Str × Addr)) (fp : List Addr), IG (X.blk s H scope (compEnvC scope cl C X.env) fp) none (own.map (·.2)) tg t)
    (ht : ∀ (s : Shared) (H : Hp) (C : Addr) (cl : List (Str × Addr)) (fp : List Addr), IT (X.blk s H scope (compEnvC scope cl C X.env) fp) none W0 cnd c)
    (he : ∀ (s : Shared) (H : Hp) (C : Addr) (cl : List (Str × Addr)) (fp : List Addr), IE (X.blk s H scope (compEnvC scope cl C X.env) fp) none W0 elt el) (hs : ∀ x, foldedSetIterable iter X.env x = pure x := by intro _; rfl) :
    IS X none Wx (.Assign [.Name y py] (.ListComp elt [⟨tg, iter, [cnd], 0⟩] scope pos) spos) (sAsg (dLc m (own.map (·.2)) t c el) (tName i)) :=
  PS.of (ps_setLc hc hN hy hyl hsw hi ok hg (fun s H C cl fp => pts_one (ht s H C cl fp)) he hs) fun De σ H ⟨ρ, env, st, s, e, p⟩ => by
    have z : RG X none Wx (relV X.K) (dLc m (own.map (·.2)) t c el) σ H fun x H1 => gName i x σ H1 De.nx :=
      RS.step s e p fun ρ1 H1 st1 a x g s1 e1 r p1 => PostS.go_ (f := .nx) p1 s1 (e1.set .none r)
    obtain ⟨ρ', env', st', s', e', p'⟩ := z
    exact lc_read s' e' p' fun σ H Q h => h
end
end
end MP
namespace MP
open PySem PySem.Spec PyProof.Rows L2
open Classical
noncomputable section

/-! ### what a def leaves behind is let go -/
mutual
def clB (n : Nat) : W → Bool
  | .loc k => decide (k < n)
  | .tup ws => clBs n ws
  | .fro ws => clBs n ws
  | .non => true
  | .bl _ => true
  | .int _ => true
  | .str _ => true
  | .gl _ => true
def clBs (n : Nat) : List W → Bool
  | [] => true
  | w :: ws => clB n w && clBs n ws
end
def clO (n : Nat) : Ob → Bool
  | .lst ws => clBs n ws
/-- what stood at the entry stands, or is closed -/
def GcOk (st0 st : Store) : Prop := ∀ i : Nat, i < st0.length → st[i]? = st0[i]? ∨ ∃ o, st[i]? = some o ∧ clO st0.length o = true
def gc (st0 : Store) (v : W) (st : Store) : Res W :=
  if GcOk st0 st then
    if clB st0.length v = true then .ok v (st.take st0.length)
    else match v with
      | .loc m => match st[m]? with
        | some (.lst ws) => if clBs st0.length ws = true then .ok (.loc st0.length) (st.take st0.length ++ [.lst ws]) else .ok v st
        | _ => .ok v st
      | _ => .ok v st
  else .ok v st
section
variable {K : PySem.W.Frag} {ρ m : List Addr} {H : Hp}
mutual
theorem VR.less : ∀ (w : W) (v : V), clB ρ.length w = true → VR K (ρ ++ m) H w v → VR K ρ H w v
  | .non, _, _, h => by simpa only [VR] using h
  | .bl _, _, _, h => by simpa only [VR] using h
  | .int _, _, _, h => by simpa only [VR] using h
  | .str _, _, _, h => by simpa only [VR] using h
  | .gl _, _, _, h => by simpa only [VR] using h
  | .loc n, _, c, h => by
    simp only [VR] at h ⊢
    simp only [clB, decide_eq_true_eq] at c
    obtain ⟨a, e, r⟩ := h
    exact ⟨a, by rw [List.getElem?_append_left c] at e; exact e, r⟩
  | .tup ws, v, c, h => by
    simp only [VR] at h ⊢
    simp only [clB] at c
    obtain ⟨a, us, e, t, r⟩ := h
    exact ⟨a, us, e, t, VRs.less ws us c r⟩
  | .fro ws, v, c, h => by
    simp only [VR] at h ⊢
    simp only [clB] at c
    obtain ⟨a, us, e, t, r⟩ := h
    exact ⟨a, us, e, t, VRs.less ws us c r⟩
theorem VRs.less : ∀ (ws : List W) (vs : List V), clBs ρ.length ws = true → VRs K (ρ ++ m) H ws vs → VRs K ρ H ws vs
  | [], _, _, h => by simpa only [VRs] using h
  | w :: ws, vs, c, h => by
    simp only [VRs] at h ⊢
    simp only [clBs, Bool.and_eq_true] at c
    obtain ⟨u, us, e, r, rs⟩ := h
    exact ⟨u, us, e, VR.less w u c.1 r, VRs.less ws us c.2 rs⟩
end
mutual
theorem VR.cl : ∀ (w : W) (v : V), VR K ρ H w v → clB ρ.length w = true
  | .non, _, _ => rfl
  | .bl _, _, _ => rfl
  | .int _, _, _ => rfl
  | .str _, _, _ => rfl
  | .gl _, _, _ => rfl
  | .loc n, _, h => by
    simp only [VR] at h
    obtain ⟨a, e, _⟩ := h
    simp only [clB, decide_eq_true_eq]
    exact (List.getElem?_eq_some_iff.mp e).1
  | .tup ws, v, h => by
    simp only [VR] at h
    obtain ⟨a, us, e, t, r⟩ := h
    simp only [clB]
    exact VRs.cl ws us r
  | .fro ws, v, h => by
    simp only [VR] at h
    obtain ⟨a, us, e, t, r⟩ := h
    simp only [clB]
    exact VRs.cl ws us r
theorem VRs.cl : ∀ (ws : List W) (vs : List V), VRs K ρ H ws vs → clBs ρ.length ws = true
  | [], _, _ => rfl
  | w :: ws, vs, h => by
    simp only [VRs] at h
    obtain ⟨u, us, e, r, rs⟩ := h
    simp only [clBs, Bool.and_eq_true]
    exact ⟨VR.cl w u r, VRs.cl ws us rs⟩
end
theorem ObR.cl {a : Addr} {o : Ob} (h : ObR K ρ H a o) : clO ρ.length o = true := by
  cases o with
  | lst ws =>
    obtain ⟨us, _, r⟩ := h
    exact VRs.cl ws us r
theorem ObR.less {a : Addr} {o : Ob} (c : clO ρ.length o = true) (h : ObR K (ρ ++ m) H a o) : ObR K ρ H a o := by
  cases o with
  | lst ws =>
    obtain ⟨us, e, r⟩ := h
    exact ⟨us, e, VRs.less ws us c r⟩
theorem gc_ok {H0 : Hp} {st0 st : Store} {v : W} {x : V} (s0 : StR K ρ H0 st0) (g : Grow ρ H0 (ρ ++ m) H) (s : StR K (ρ ++ m) H st) (r : VR K (ρ ++ m) H v x) :
    ∃ v' st' ρ', gc st0 v st = .ok v' st' ∧ Grow ρ H0 ρ' H ∧ StR K ρ' H st' ∧ VR K ρ' H v' x := by
  unfold gc
  by_cases hg : GcOk st0 st
  · rw [if_pos hg]
    have hlen : st0.length = ρ.length := s0.len.symm
    have hle : ρ.length ≤ st.length := by rw [← s.len]; simp
    have g' : Grow ρ H0 ρ H := ⟨⟨[], by simp, fun _ h => nomatch h⟩, g.keep, g.live⟩
    have s' : StR K ρ H (st.take st0.length) := by
      refine ⟨by rw [List.length_take, hlen]; omega, s0.nd, fun n o e => ?_⟩
      have hn : n < st0.length := by
        have := (List.getElem?_eq_some_iff.mp e).1
        rw [List.length_take] at this; omega
      rw [List.getElem?_take_of_lt hn] at e
      obtain ⟨a, ha, hob⟩ := s.ob n o e
      rw [List.getElem?_append_left (by omega)] at ha
      refine ⟨a, ha, hob.less ?_⟩
      rcases hg n hn with h | ⟨o', h1, h2⟩
      · rw [e] at h
        obtain ⟨_, _, ho0⟩ := s0.ob n o h.symm
        exact ho0.cl
      · rw [e] at h1; cases h1
        rw [← hlen]; exact h2
    by_cases hc : clB st0.length v = true
    · rw [if_pos hc]
      exact ⟨_, _, ρ, rfl, g', s', VR.less v x (by rw [← hlen]; exact hc) r⟩
    · rw [if_neg hc]
      have dflt : ∃ v' st' ρ', (Res.ok v st : Res W) = .ok v' st' ∧ Grow ρ H0 ρ' H ∧ StR K ρ' H st' ∧ VR K ρ' H v' x := ⟨_, _, _, rfl, g, s, r⟩
      cases v with
      | loc k =>
        simp only
        cases hk : st[k]? with
        | none => exact dflt
        | some o =>
          cases o with
          | lst ws =>
            simp only
            by_cases hw : clBs st0.length ws = true
            · rw [if_pos hw]
              obtain ⟨a, ha, us, hu, ru⟩ := s.ob k (.lst ws) hk
              have hka : ρ.length ≤ k := by
                simp only [clB, decide_eq_true_eq] at hc; omega
              rw [List.getElem?_append_right hka] at ha
              have ham : a ∈ m := List.mem_of_getElem? ha
              have hna : a ∉ ρ := fun z => by
                have := s.nd
                rw [List.nodup_append] at this
                exact this.2.2 a z a ham rfl
              obtain ⟨m', em, fm⟩ := g.pre
              have em' : m = m' := List.append_cancel_left em
              subst em'
              have ru' : VRs K ρ H ws us := VRs.less ws us (by rw [← hlen]; exact hw) ru
              refine ⟨_, _, ρ ++ [a], rfl, ⟨⟨[a], rfl, fun b hb => by
                have : b = a := by simpa using hb
                subst this; exact fm _ ham⟩, g.keep, g.live⟩, ?_, ?_⟩
              · refine ⟨by simp [s'.len], ?_, fun n o en => ?_⟩
                · rw [List.nodup_append]
                  exact ⟨s0.nd, List.nodup_cons.mpr ⟨by simp, List.nodup_nil⟩, fun b hb c hcc e => by
                    have : c = a := by simpa using hcc
                    subst this; subst e; exact hna hb⟩
                · by_cases hn : n < (st.take st0.length).length
                  · rw [List.getElem?_append_left hn] at en
                    obtain ⟨b, hb, hob⟩ := s'.ob n o en
                    refine ⟨b, by rw [List.getElem?_append_left (List.getElem?_eq_some_iff.mp hb).1]; exact hb, ?_⟩
                    cases o with
                    | lst ws2 =>
                      obtain ⟨us2, e2, r2⟩ := hob
                      exact ⟨us2, e2, VRs.more ws2 us2 r2⟩
                  · have hl2 : n < (st.take st0.length ++ [Ob.lst ws]).length := (List.getElem?_eq_some_iff.mp en).1
                    have : n = (st.take st0.length).length := by rw [List.length_append] at hl2; simp at hl2 hn ⊢; omega
                    subst this
                    rw [List.getElem?_append_right (Nat.le_refl _)] at en
                    simp at en; subst en
                    exact ⟨a, by rw [← s'.len, List.getElem?_append_right (Nat.le_refl _)]; simp, us, hu, VRs.more ws us ru'⟩
              · simp only [VR] at r ⊢
                obtain ⟨b, hb, rfl⟩ := r
                rw [List.getElem?_append_right hka, ha] at hb
                cases hb
                exact ⟨a, by rw [hlen]; simp, rfl⟩
            · rw [if_neg hw]; exact dflt
      | _ => exact dflt
  · rw [if_neg hg]
    exact ⟨_, _, _, rfl, g, s, r⟩
end
/-- a def's denotation by its body's -/
def fnDen (slots : Nat) (body : DS) : List W → Store → Res W := fun ws st =>
  match body (ws.map some ++ List.replicate (slots - ws.length) none) st with
  | .go (.rt v) _ st' => gc st v st'
  | .go .nx _ st' => gc st .non st'
  | .err c w _ st' => .err c w st'
  | _ => .stuck
/-- a def's promise -/
def SpM (K : PySem.W.Frag) (mg : Str → Option Value) (n : Nat) (den : List W → Store → Res W) : Sp := fun vs H Q E =>
  ∃ ρ ws st, StR K ρ H st ∧ VRs K ρ H ws vs ∧ ws.length = n ∧ Post K mg (fun c d _ H => E c d H) (relV K) ρ H [] (den ws st) Q
abbrev WxOf (E : XK) : WX := fun c d _ H => E c d H
section
variable {P : Program} {w : World} {K : PySem.W.Frag} {mg : Str → Option Value} {base : Heap}
/-- a def of the text keeps its promise -/
theorem fn_ok {x qual : Str} {st : Stmt} {f : Addr} {fd : FuncData} {N ps : List Str} {k : Nat} {body : DS} (F : Fun K x qual st f fd) (S : FnScope N ps (defScope st)) 
    (hb : ∀ (cdv : Value) (A : Around) (outer : List Env) (s : Shared) (H : Hp) (E : XK), Room k (A.deeper (envOfC qual (defScope st) s.heap.objs.size f cdv)) →
      ISs (cxOf (L2.CX P w) P w K mg base N qual (defScope st) f cdv A outer s H E) none (WxOf E) (defBody st) body) :
    FnOk P w K mg base (L2.CX P w) (k + 1) f fd ps (SpM K mg ps.length (fnDen N.length body)) := by
  refine F.okX S (fun vs H Q E h => ?_) (fun cdv A outer s H vs Q E hr h => ?_)
  · obtain ⟨ρ, ws, st, _, r, e, _⟩ := h
    rw [← VRs.length r, e]
  · obtain ⟨ρ, ws, st0, s0, r, hl, p⟩ := h
    refine ⟨_, hb cdv A outer s H E hr, ρ, ws.map some ++ List.replicate (N.length - ws.length) none, st0, s0, ?_, ?_⟩
    · refine ⟨?_, fun i w' e => ?_, fun _ h => nomatch h⟩
      · simp [L2.start, VRs.length r]
      · by_cases hi : i < ws.length
        · rw [List.getElem?_append_left (by simpa using hi)] at e
          rw [List.getElem?_map] at e
          cases hw : ws[i]? with
          | none => rw [hw] at e; cases e
          | some w2 =>
            rw [hw] at e
            cases e
            obtain ⟨v, e1, rv⟩ := r.get hw
            refine ⟨v, ?_, rv⟩
            unfold L2.start
            rw [List.getElem?_append_left (by rw [List.length_map, ← VRs.length r]; exact hi), List.getElem?_map, e1]
            rfl
        · rw [List.getElem?_append_right (by simpa using hi)] at e
          rw [List.getElem?_replicate] at e
          split at e <;> cases e
    · unfold fnDen at p
      generalize body (ws.map some ++ List.replicate (N.length - ws.length) none) st0 = res at p
      cases res with
      | stuck => exact p.elim
      | err c v env' st' => exact fun ρ' H' σ' cls d g s' e' er => p ρ' H' cls d g s' er
      | go f env' st' =>
        cases f with
        | bk => exact p.elim
        | ct => exact p.elim
        | nx =>
          intro ρ' H' σ' g s' e'
          obtain ⟨mm, em, _⟩ := id g.pre
          subst em
          obtain ⟨v', st2, ρ2, e2, g2, s2, r2⟩ := gc_ok (v := .non) (x := .non) s0 g s' (by simp [VR])
          simp only [e2] at p
          exact p ρ2 H' _ g2 s2 r2
        | rt v =>
          intro ρ' H' σ' g s' e' x rx
          obtain ⟨mm, em, _⟩ := id g.pre
          subst em
          obtain ⟨v', st2, ρ2, e2, g2, s2, r2⟩ := gc_ok s0 g s' rx
          simp only [e2] at p
          exact p ρ2 H' _ g2 s2 r2
end

/-! ### calls -/
section
variable {X : Cx} {ex : Option Exn} {Wx : WX} {pos p : Pos} {k : Nat} {f : Addr} {fd : FuncData} {ps ks : List Str} {n : Nat} {den : List W → Store → Res W} {x : Str} {e : Expr} {es : List Expr}
theorem sp_of {ρ : List Addr} {H : Hp} {st : Store} {σ : L2.St} {l : List W} {vs : List V} {Q : VK} (s : StR X.K ρ H st) (r : VRs X.K ρ H l vs) (hl : l.length = n) (p : Post X.K X.mg Wx (relV X.K) ρ H σ (den l st) Q) : SpM X.K X.mg n den vs H Q (WE Wx σ) := by
  refine ⟨ρ, l, st, s, r, hl, ?_⟩
  generalize den l st = res at p
  cases res with
  | ok a st' => exact p
  | err c v st' => exact p
  | stuck => exact p
/-- a def applied: the number of arguments is looked after -/
def dCall (n : Nat) (den : List W → Store → Res W) (m : D (List W)) : D W := fun env st => (m env st).bind fun l st1 => if l.length = n then den l st1 else .stuck
theorem ie_call {m : D (List W)} (F : FnOk X.prog X.w X.K X.mg X.base (L2.CX X.prog X.w) k f fd ps (SpM X.K X.mg n den)) (hr : Room k X.A) (hg : Gl X x) (hm : X.mg x = some (.ref f)) (hk : PySem.W.keepIn X.K (.ref f) = true) (hb : Binds X.K fd ps []) (tk : Takes X Wx)
    (ha : IA X ex Wx (e :: es) m) (hdb : (x == ("__debug__" : Str)) = false := by decide) (he : starEach (e :: es) X.env = (false, eval e X.env) :: starEach es X.env := by rfl) (hpl : (backTo pos (starEach es X.env)).any (·.1) = false := by rfl) :
    IE X ex Wx (.Call (.Name x p) (e :: es) [] pos) (dCall n den m) :=
  PE.of (pe_callS F hr hg hm hk hb (fun σ => passAt tk σ) ha hdb he hpl) fun σ H Q ⟨ρ, env, st, s, e, p⟩ => RG.bind s e p fun ρ1 H1 st1 l vs g s1 e1 r p1 => by
    split at p1
    · rename_i hl; exact sp_of s1 r hl p1
    · exact p1.elim
theorem pe_call0S {sp : Sp} {E : L2.St → XK} {CX : CXT} (F : FnOk X.prog X.w X.K X.mg X.base CX k f fd ps sp) (hr : Room k X.A) (hg : Gl X x) (hm : X.mg x = some (.ref f)) (hk : PySem.W.keepIn X.K (.ref f) = true) (hb : Binds X.K fd ps []) (hx : ∀ σ, PassesAt CX X σ (E σ))
    (hdb : (x == ("__debug__" : Str)) = false := by decide) : PE X (.Call (.Name x p) [] [] pos) (tCallS sp E tNil) := by
  refine ⟨fun pins s σ H Q I h => ?_⟩
  refine wpAny_Call_Name_kw (ld_glob I hg hm ?_ hdb)
  exact PySem.W.callWith_K0 I.kIn hk (run_fnS F hr hb (hx σ) I .nil h)
theorem ie_call0 (F : FnOk X.prog X.w X.K X.mg X.base (L2.CX X.prog X.w) k f fd ps (SpM X.K X.mg n den)) (hr : Room k X.A) (hg : Gl X x) (hm : X.mg x = some (.ref f)) (hk : PySem.W.keepIn X.K (.ref f) = true) (hb : Binds X.K fd ps []) (tk : Takes X Wx)
    (hdb : (x == ("__debug__" : Str)) = false := by decide) : IE X ex Wx (.Call (.Name x p) [] [] pos) (dCall n den dNil) :=
  PE.of (pe_call0S F hr hg hm hk hb (fun σ => passAt tk σ) hdb) fun σ H Q ⟨ρ, env, st, s, e, p⟩ => by
    show SpM X.K X.mg n den [] H Q (WE Wx σ)
    unfold dCall dNil at p
    simp only [Res.bind_ok] at p
    split at p
    · rename_i hl; exact sp_of s (by simp [VRs]) hl p
    · exact p.elim
/-- built-in functions and types -/
theorem ie_callB {id : String} {r : List V → Hp → VK → Prop} {g : List W → Store → Res W} {m : D (List W)} (hc : CallR X (.builtin id) r) (hf : CallOk X r g) (hg : Gl X x) (hm : X.mg x = none) (hv : bootBuiltins x = some (.builtin id)) (ha : IA X ex Wx (e :: es) m) (hn : x ≠ "__name__" := by decide)
    (hdb : (x == ("__debug__" : Str)) = false := by decide) (he : starEach (e :: es) X.env = (false, eval e X.env) :: starEach es X.env := by rfl) (hpl : (backTo pos (starEach es X.env)).any (·.1) = false := by rfl) : IE X ex Wx (.Call (.Name x p) (e :: es) [] pos) (dApp g m) :=
  PE.of (pe_callB hc hg hm hv ha hn hdb he hpl) fun σ H Q ⟨ρ, env, st, s, e, p⟩ => RG.bind s e p fun ρ1 H1 st1 l vs g s1 e1 r p1 => hf Wx ρ1 H1 st1 σ l vs Q s1 r p1
theorem ie_callTy {T : String} {r : List V → Hp → VK → Prop} {g : List W → Store → Res W} {m : D (List W)} (hc : CallR X (.type T) r) (hf : CallOk X r g) (hg : Gl X x) (hm : X.mg x = none) (hv : bootBuiltins x = some (.type T)) (ha : IA X ex Wx (e :: es) m) (hn : x ≠ "__name__" := by decide)
    (hdb : (x == ("__debug__" : Str)) = false := by decide) (he : starEach (e :: es) X.env = (false, eval e X.env) :: starEach es X.env := by rfl) (hpl : (backTo pos (starEach es X.env)).any (·.1) = false := by rfl) : IE X ex Wx (.Call (.Name x p) (e :: es) [] pos) (dApp g m) :=
  PE.of (pe_callTy hc hg hm hv ha hn hdb he hpl) fun σ H Q ⟨ρ, env, st, s, e, p⟩ => RG.bind s e p fun ρ1 H1 st1 l vs g s1 e1 r p1 => hf Wx ρ1 H1 st1 σ l vs Q s1 r p1
/-- methods of built-in types; ty: the receiver is of the type -/
def dBm (ty : W → Store → Bool) (g : W → List W → Store → Res W) (mo : D W) (m : D (List W)) : D W := fun env st => (mo env st).bind fun a st1 => if ty a st1 = true then (m env st1).bind fun l st2 => g a l st2 else .stuck
def MtOk (X : Cx) (r : V → List V → Hp → VK → Prop) (g : W → List W → Store → Res W) : Prop :=
  ∀ (Wx : WX) (ρ : List Addr) (H : Hp) (st : Store) (σ : L2.St) (a : W) (l : List W) (x : V) (vs : List V) (Q : VK), StR X.K ρ H st → VR X.K ρ H a x → VRs X.K ρ H l vs → Post X.K X.mg Wx (relV X.K) ρ H σ (g a l st) Q → r x vs H Q
def TyOk (X : Cx) (T : String) (ty : W → Store → Bool) : Prop :=
  ∀ (ρ : List Addr) (H : Hp) (st : Store) (a : W) (x : V), StR X.K ρ H st → VR X.K ρ H a x → ty a st = true → tyV X.K T x H
theorem ie_bm {T name id : String} {o : Expr} {apos cpos : Pos} {r : V → List V → Hp → VK → Prop} {mo : D W} {m : D (List W)} {g : W → List W → Store → Res W} {ty : W → Store → Bool} (pa : PlainAttrs T) (slot : Slot T name id) (hty : typeOf (.builtin id) = pure (.type "method_descriptor")) (hm : MtR X id r) 
    (hf : MtOk X r g) (hv : TyOk X T ty) (ho : IE X ex Wx o mo) (ha : IA X ex Wx (e :: es) m)
    (hbase : attributeBase o name X.env (eval o X.env) = eval o X.env := by rfl)
    (hfew : ((backTo cpos (starEach (e :: es) X.env)).all (fun x => !x.1) && (backToKw cpos (keywordEach [] X.env)).all (fun x => x.1.isSome)
      && decide ((e :: es).length + ([] : List Keyword).length + (if ([] : List Keyword).isEmpty then 0 else 1) < 30)) = true := by rfl)
    (hline : (apos.endLine == cpos.line) = true := by rfl) (hs : starEach (e :: es) X.env = (false, eval e X.env) :: starEach es X.env := by rfl) (hplain : (backTo cpos (starEach es X.env)).any (·.1) = false := by rfl) :
    IE X ex Wx (.Call (.Attribute o name apos) (e :: es) [] cpos) (dBm ty g mo m) :=
  PE.of (pe_bm pa slot hty hm ho ha hbase hfew hline hs hplain) fun σ H Q ⟨ρ, env, st, s, e, p⟩ => RG.bind s e p fun ρ1 H1 st1 a x g1 s1 e1 ra p1 => by
    split at p1
    · rename_i ht
      exact ⟨hv ρ1 H1 st1 a x s1 ra ht, RG.bind s1 e1 p1 fun ρ2 H2 st2 l vs g2 s2 e2 rl p2 => hf Wx ρ2 H2 st2 σ a l x vs Q s2 (VR.grow s1.apart g2 a x ra) rl p2⟩
    · exact p1.elim
theorem ie_bm0 {T name id : String} {o : Expr} {apos cpos : Pos} {r : V → List V → Hp → VK → Prop} {mo : D W} {g : W → List W → Store → Res W} {ty : W → Store → Bool} (pa : PlainAttrs T) (slot : Slot T name id) (hty : typeOf (.builtin id) = pure (.type "method_descriptor")) (hm : MtR X id r) 
    (hf : MtOk X r g) (hv : TyOk X T ty) (ho : IE X ex Wx o mo)
    (hbase : attributeBase o name X.env (eval o X.env) = eval o X.env := by rfl) (hline : (apos.endLine == cpos.line) = true := by rfl) :
    IE X ex Wx (.Call (.Attribute o name apos) [] [] cpos) (dBm ty g mo dNil) :=
  PE.of (pe_bm0 pa slot hty hm ho hbase hline) fun σ H Q ⟨ρ, env, st, s, e, p⟩ => RG.bind s e p fun ρ1 H1 st1 a x g1 s1 e1 ra p1 => by
    split at p1
    · rename_i ht
      exact ⟨hv ρ1 H1 st1 a x s1 ra ht, hf Wx ρ1 H1 st1 σ a [] x [] Q s1 ra (by simp [VRs]) p1⟩
    · exact p1.elim
end
end
end MP
namespace MP
open PySem PySem.Spec PyProof.Rows L2
open Classical
noncomputable section

/-! ### errors -/
/-- the promise of an error's __init__: self.value = value -/
def spExc (K : PySem.W.Frag) : Sp := fun vs H Q _ => ∃ (a C : Addr) (y : V), vs = [.ref a, y] ∧ OexC K C ∧ PySem.W.findIn K (.ref C) ("value" : Str) = some none ∧ H a = some (exo a C none) ∧
  ∀ d, H d = none → d ≠ a → Q .non (upd (upd H d (exd d [(("value" : Str), y)])) a (exo a C (some d)))
section
variable {P : Program} {w : World} {K : PySem.W.Frag} {mg : Str → Option Value} {base : Heap}
theorem exc_init_ok {x qual : Str} {st : Stmt} {f : Addr} {fd : FuncData} {p1 p2 p3 p4 : Pos} (F : Fun K x qual st f fd) (S : FnScope ["self", "value"] ["self", "value"] (defScope st))
    (hst : defBody st = [.Assign [.Attribute (.Name "self" p1) "value" p2] (.Name "value" p3) p4]) (hv1 : (defScope st).names.lookup ("self" : Str) = some NameKind.local) (hv2 : (defScope st).names.lookup ("value" : Str) = some NameKind.local) :
    FnOk P w K mg base (L2.CX P w) 1 f fd ["self", "value"] (spExc K) := by
  refine F.okX S (fun vs H Q E h => ?_) (fun cdv A outer s H vs Q E hr h => ?_)
  · obtain ⟨a, C, y, rfl, _⟩ := h
    rfl
  · rw [hst]
    refine ⟨_, pss_one (ps_ost (pv 0 rfl (.inl hv1)) (pv 1 rfl (.inl hv2))), ?_⟩
    obtain ⟨a, C, y, rfl, T, hn, ha, q⟩ := h
    exact ⟨y, rfl, .ref a, rfl, a, C, rfl, T, hn, .inl ⟨ha, fun d hd ne => q d hd ne⟩⟩
end
/-- what the written part says of an error class with the __init__ at f -/
structure ErrC (K : PySem.W.Frag) (mg : Str → Option Value) (x : Str) (C f : Addr) : Prop where
  cls : OexC K C
  mgC : mg x = some (.ref C)
  ini : PySem.W.findIn K (.ref C) "__init__" = some (some (.ref f))
  ity : PySem.W.typeIn K (.ref f) = some (.type "function")
  noV : PySem.W.findIn K (.ref C) ("value" : Str) = some none
  xf : XfC K C
def sRaise (x : Str) (m : D (List W)) : DS := fun env st => (m env st).then env fun l st1 => match l with
  | [w] => .err x w env st1
  | _ => .stuck
section
variable {X : Cx} {ex : Option Exn} {Wx : WX} {pos pos2 p : Pos} {k : Nat} {f C : Addr} {fd : FuncData} {x : Str} {e : Expr}
theorem raise_heap {H : Hp} {a d : Addr} {C : Addr} {y : V} (ha : H a = none) (hd : upd H a (exo a C none) d = none) (hda : d ≠ a) :
    upd (del (upd (upd (upd H a (exo a C none)) d (exd d [(("value" : Str), y)])) a (exo a C (some d))) a) d (.xd [(("value" : Str), y)]) = upd H d (.xd [(("value" : Str), y)]) := by
  funext b
  by_cases h1 : b = d
  · rw [h1, upd_same, upd_same]
  · rw [upd_ne h1, upd_ne h1]
    by_cases h2 : b = a
    · rw [h2, del_same, ha]
    · rw [del_ne h2, upd_ne h2, upd_ne h1, upd_ne h2]
theorem is_raise {m : D (List W)} (hc : X.calm = true) (tk : Takes X Wx) (T : ErrC X.K X.mg x C f) (F : FnOk X.prog X.w X.K X.mg X.base (L2.CX X.prog X.w) k f fd ["self", "value"] (spExc X.K)) (hr : Room (k + 1) X.A) (hb : Binds X.K fd ["self", "value"] []) (hg : Gl X x)
    (ha : IA X ex Wx [e] m) (hdb : (x == ("__debug__" : Str)) = false := by decide) (he : starEach [e] X.env = (false, eval e X.env) :: starEach [] X.env := by rfl) (hpl : (backTo pos (starEach [] X.env)).any (·.1) = false := by rfl) :
    IS X ex Wx (.Raise (some (.Call (.Name x p) [e] [] pos)) none pos2) (sRaise x m) :=
  PS.of (ps_raise hc tk (pmk_oex T.cls T.ini T.ity F hr hb .nil passL hg T.mgC ha hdb he hpl)) fun De σ H ⟨ρ, env, st, s, e, q⟩ => RS.step (rel := relVs X.K) s e q fun ρ1 H1 st1 l vs g s1 e1 r q1 => by
    match l, r, q1 with
    | [w], r, q1 =>
      have r' := r
      simp only [relVs, VRs] at r'
      obtain ⟨y, _, rfl, ry, rfl⟩ := r'
      refine ⟨by show 1 ≤ 1000; decide, fun a na => ⟨a, C, y, rfl, T.cls, T.noV, upd_same, fun d nd dne => ⟨rfl, d, [(("value" : Str), y)], upd_same, ?_, ?_, ?_⟩⟩⟩
      · rw [upd_ne dne, upd_same]
      · rw [upd_ne dne] at nd; exact nd
      · rw [raise_heap na nd dne]
        have nd1 : H1 d = none := by rw [upd_ne dne] at nd; exact nd
        exact q1 ρ1 _ σ _ _ (grow_imm nd1) (s1.grow_imm nd1) (e1.grow s1.apart (grow_imm nd1)) ⟨C, d, y, T.mgC, rfl, rfl, upd_same, s1.none_of nd1, VR.grow s1.apart (grow_imm nd1) w y ry⟩
/-! ### try .. except X as n -/
def unAt (i : Nat) (r : RsS) : RsS := match r with
  | .go f env st => .go f (env.set i none) st
  | .err _ _ _ _ => .stuck
  | .stuck => .stuck
/-- sub: which error names the clause takes (none: not known) -/
def sTryAs (i : Nat) (b : DS) (sub : Str → Option Bool) (su : Str → W → DS) : DS := fun env st => match b env st with
  | .err c w env1 st1 => match sub c with
    | some true => if i < env1.length then unAt i (su c w (env1.set i none) st1) else .stuck
    | some false => .err c w env1 st1
    | none => .stuck
  | r => r
def SubOk (X : Cx) (cv : Value) (sub : Str → Option Bool) : Prop := ∀ c b, sub c = some b → ∀ C, X.mg c = some (.ref C) → PySem.W.exmOne X.K (.ref C) cv = some b ∧ (b = true → XfC X.K C ∧ PySem.W.findIn X.K (.ref C) ("value" : Str) = some none)
/-- the suite: over each error that comes -/
def SuOk (X : Cx) (i : Nat) (stmts : List Stmt) (sub : Str → Option Bool) (su : Str → W → DS) : Prop :=
  ∀ (c : Str) (C dd a : Addr) (y : V) (w : W) (oe : Obj) (pn : List (Addr × Obj)), sub c = some true → X.mg c = some (.ref C) → XfC X.K C → PySem.W.findIn X.K (.ref C) ("value" : Str) = some none → Zc (.ref C) (some dd) oe → (∃ vs, oe.data = .fields vs) → ISs (X.suite a ((a, oe) :: pn)) (some ⟨i, a, dd, y, w⟩) W0 stmts (su c w)
theorem pss_ex {X : Cx} {st : List Stmt} {α : Type} {t : α → TS} (h : ∀ a, PSs X st (t a)) : PSs X st (fun D σ H => ∃ a, t a D σ H) := ⟨fun pins s σ H D I ⟨a, q⟩ => (h a).run pins s σ H D I q⟩
theorem pss_and {X : Cx} {st : List Stmt} {φ : Prop} {t : TS} (h : φ → PSs X st t) : PSs X st (fun D σ H => φ ∧ t D σ H) := ⟨fun pins s σ H D I ⟨f, q⟩ => (h f).run pins s σ H D I q⟩
theorem is_try_as {x n : Str} {c : Value} {i : Nat} {body suite : List Stmt} {b₀ : Stmt} {np pos' : Pos} {b : DS} {sub : Str → Option Bool} {su : Str → W → DS} (hs : X.stack = X.env :: X.outer) (hf : X.env.frame = some X.env.locals) (hN : X.N.Nodup) (hi : X.N[i]? = some n) (hln : X.env.kindOf n = some .local) (hc : Names X x c) (tk : Takes X Wx)
    (hb : ∀ (W : WX) (pn : List (Addr × Obj)) (xe : Value → Shared → Prop), Takes (X.tr pn xe) W → PassesOwn (model X.prog X.w) X.A X.env xe → ISs (X.tr pn xe) none W body b) (hsub : SubOk X c sub) (hsu : SuOk X i (b₀ :: suite) sub su) :
    IS X none Wx (.Try body [.ExceptHandler (some (.Name x np)) (some n) (b₀ :: suite) pos'] [] [] pos) (sTryAs i b sub su) := by
  refine PS.of (ps_try_as (tb := fun W => RS X none W b)
    (ts := fun a cls d De σ H => ∃ (c1 : Str) (C dd : Addr) (y : V) (w : MP.W), (sub c1 = some true ∧ X.mg c1 = some (.ref C) ∧ cls = .ref C ∧ d = some dd ∧ XfC X.K C ∧ PySem.W.findIn X.K (.ref C) ("value" : Str) = some none) ∧ RS X (some ⟨i, a, dd, y, w⟩) W0 (su c1 w) De σ H) hs hf hN hi hln hc tk hb ?_) ?_
  · intro a oe cls d pn hz hfv
    refine pss_ex fun c1 => pss_ex fun C => pss_ex fun dd => pss_ex fun y => pss_ex fun w => pss_and fun h => ?_
    obtain ⟨hs1, hm1, rfl, rfl, xf, nv⟩ := h
    exact hsu c1 C dd a y w oe pn hs1 hm1 xf nv hz hfv
  · intro De σ H ⟨ρ, env, st, s, e, q⟩
    refine ⟨ρ, env, st, s, e, ?_⟩
    unfold sTryAs at q
    generalize b env st = res at q
    cases res with
    | stuck => exact q
    | go f env1 st1 => exact q
    | err c1 w env1 st1 =>
      intro ρ' H' σ' cls d g s' e' er
      simp only at q
      obtain ⟨C, dd, y, hm, rfl, rfl, hx, ndd, rw⟩ := id er
      cases hsb : sub c1 with
      | none => rw [hsb] at q; exact q.elim
      | some bb =>
        rw [hsb] at q
        obtain ⟨hb1, hb2⟩ := hsub c1 bb hsb C hm
        refine ⟨bb, hb1, fun hbt a na => ?_, fun hbf => ?_⟩
        · subst hbt
          simp only at q
          obtain ⟨xf, nv⟩ := hb2 rfl
          by_cases hil0 : i < env1.length
          case neg => rw [if_neg hil0] at q; exact q.elim
          rw [if_pos hil0] at q
          refine ⟨c1, C, dd, y, w, ⟨hsb, hm, rfl, rfl, xf, nv⟩, ρ', env1.set i none, st1, s', ⟨by simp [e'.len], fun j w' h => ?_, fun x h => ?_⟩, ?_⟩
          · by_cases hj : i = j
            · subst hj
              rw [List.getElem?_set] at h
              split at h
              · first | cases h | (split at h <;> cases h)
              · rename_i z; exact absurd rfl z
            · rw [List.getElem?_set_ne hj] at h
              obtain ⟨v, h1, h2⟩ := e'.at_ j w' h
              exact ⟨v, by rw [List.getElem?_set_ne hj]; exact h1, h2⟩
          · cases h
            refine ⟨?_, hx, ndd, rw⟩
            have hil : i < σ'.length := by rw [e'.len]; exact hil0
            show (σ'.set i (some (V.ref a)))[i]? = _
            rw [List.getElem?_set_self hil]
          · generalize su c1 w (env1.set i none) st1 = r2 at q
            have q := PostS.mono q g
            cases r2 with
            | stuck => exact q
            | err c2 w2 env2 st2 => exact q.elim
            | go f env2 st2 =>
              intro ρ2 H2 σ2 g2 s2 e2
              have e3 : EnvR X.K none ρ2 H2 (env2.set i none) (σ2.set i none) := ⟨by simp [e2.len], fun j w' h => by
                by_cases hj : i = j
                · subst hj
                  rw [List.getElem?_set] at h
                  split at h
                  · first | cases h | (split at h <;> cases h)
                  · rename_i z; exact absurd rfl z
                · rw [List.getElem?_set_ne hj] at h
                  obtain ⟨v, h1, h2⟩ := e2.at_ j w' h
                  exact ⟨v, by rw [List.getElem?_set_ne hj]; exact h1, h2⟩, fun _ h => nomatch h⟩
              have z := q ρ2 H2 (σ2.set i none) g2 s2 e3
              cases f with
              | nx => exact z
              | bk => exact z
              | ct => exact z
              | rt v => exact z
        · subst hbf
          simp only at q
          exact q ρ' H' σ' _ _ g s' e' er
/-- n.value in the suite -/
def dExc (w : W) : D W := fun _ st => .ok w st
theorem ie_exc {a C dd : Addr} {y : V} {w : W} {i : Nat} {oe : Obj} {pn : List (Addr × Obj)} {n : Str} {q1 : Pos} (T : XfC X.K C) (hno : PySem.W.findIn X.K (.ref C) ("value" : Str) = some none) (hz : Zc (.ref C) (some dd) oe) (hf : ∃ vs, oe.data = .fields vs)
    (hN : X.N[i]? = some n) (hv : Vis X.env.scope n) (hd : (n == ("__debug__" : Str)) = false := by decide) (hcd : (n == ("__classdict__" : Str)) = false := by decide) :
    IE (X.suite a ((a, oe) :: pn)) (some ⟨i, a, dd, y, w⟩) Wx (.Attribute (.Name n q1) "value" pos) (dExc w) := by
  refine PE.of (pe_xf T hno hz hf (pe_var (i := i) hN hv hd hcd)) fun σ H Q ⟨ρ, env, st, s, e, p⟩ => ?_
  obtain ⟨h1, h2, h3, h4⟩ := e.exc _ rfl
  exact ⟨.ref a, h1, rfl, rfl, dd, _, y, rfl, h2, by simp [List.lookup], p.ok_ s h4⟩
end
end
end MP
namespace MP
open PySem PySem.Spec PyProof.Rows L2
open Classical
noncomputable section

section
variable {X : Cx} {ex : Option Exn} {Wx : WX} {pos : Pos}
theorem loc_lst {ρ : List Addr} {H : Hp} {st : Store} {n : Nat} {x : V} {xs : List W} (s : StR X.K ρ H st) (r : VR X.K ρ H (.loc n) x) (h : st[n]? = some (.lst xs)) : ∃ a us, ρ[n]? = some a ∧ x = .ref a ∧ H a = some (.lst us) ∧ VRs X.K ρ H xs us := by
  simp only [VR] at r
  obtain ⟨a, ha, rfl⟩ := r
  obtain ⟨b, hb, us, hu, rs⟩ := s.ob n _ h
  rw [ha] at hb; cases hb
  exact ⟨a, us, ha, rfl, hu, rs⟩
theorem tup_of {ρ : List Addr} {H : Hp} {x : V} {xs : List W} (r : VR X.K ρ H (.tup xs) x) : ∃ a us, x = .ref a ∧ TpF X.K H a us ∧ VRs X.K ρ H xs us := by
  simpa only [VR] using r
theorem fro_of {ρ : List Addr} {H : Hp} {x : V} {xs : List W} (r : VR X.K ρ H (.fro xs) x) : ∃ a us, x = .ref a ∧ SqF X.K H a us ∧ VRs X.K ρ H xs us := by
  simpa only [VR] using r
theorem int_of {ρ : List Addr} {H : Hp} {x : V} {i : Int} (r : VR X.K ρ H (.int i) x) : x = .int i := by simpa only [VR] using r
theorem str_of {ρ : List Addr} {H : Hp} {x : V} {i : Str} (r : VR X.K ρ H (.str i) x) : x = .str i := by simpa only [VR] using r
theorem bl_of {ρ : List Addr} {H : Hp} {x : V} {i : Bool} (r : VR X.K ρ H (.bl i) x) : x = .bl i := by simpa only [VR] using r
theorem non_of {ρ : List Addr} {H : Hp} {x : V} (r : VR X.K ρ H .non x) : x = .non := by simpa only [VR] using r
/-- an answer that is a new list -/
theorem post_lst {ρ : List Addr} {H : Hp} {st : Store} {σ : L2.St} {l : List W} {us : List V} {Q : VK} (s : StR X.K ρ H st) (r : VRs X.K ρ H l us) (p : Post X.K X.mg Wx (relV X.K) ρ H σ (.ok (.loc st.length) (st ++ [.lst l])) Q) : ∀ q, H q = none → Q (.ref q) (upd H q (.lst us)) := fun q hq => by
  obtain ⟨a, b⟩ := lst_new s r hq
  exact p (ρ ++ [q]) _ _ (grow_new hq) a b
theorem post_tup {ρ : List Addr} {H : Hp} {st : Store} {σ : L2.St} {l : List W} {us : List V} {Q : VK} (s : StR X.K ρ H st) (r : VRs X.K ρ H l us) (p : Post X.K X.mg Wx (relV X.K) ρ H σ (.ok (.tup l) st) Q) : ∀ q, H q = none → Q (.ref q) (upd H q (.tup us)) := fun q hq =>
  p ρ _ _ (grow_imm hq) (s.grow_imm hq) (tup_new s r hq)
theorem post_int {ρ : List Addr} {H : Hp} {st : Store} {σ : L2.St} {i : Int} {Q : VK} (s : StR X.K ρ H st) (p : Post X.K X.mg Wx (relV X.K) ρ H σ (.ok (.int i) st) Q) : Q (.int i) H := p.ok_ s (by simp [VR])
theorem post_str {ρ : List Addr} {H : Hp} {st : Store} {σ : L2.St} {i : Str} {Q : VK} (s : StR X.K ρ H st) (p : Post X.K X.mg Wx (relV X.K) ρ H σ (.ok (.str i) st) Q) : Q (.str i) H := p.ok_ s (by simp [VR])
theorem post_bl {ρ : List Addr} {H : Hp} {st : Store} {σ : L2.St} {i : Bool} {Q : VK} (s : StR X.K ρ H st) (p : Post X.K X.mg Wx (relV X.K) ρ H σ (.ok (.bl i) st) Q) : Q (.bl i) H := p.ok_ s (by simp [VR])
/-! ### + - * // % ** -/
def lst2 (st : Store) (m n : Nat) : Option (List W × List W) := match st[m]?, st[n]? with
  | some (.lst xs), some (.lst ys) => some (xs, ys)
  | _, _ => none
def addW (a b : W) (st : Store) : Res W := match a, b with
  | .int i, .int j => .ok (.int (i + j)) st
  | .str x, .str y => if x.length + y.length ≤ sizeLine then .ok (.str (x ++ y)) st else .stuck
  | .tup xs, .tup ys => if xs.length + ys.length ≤ sizeLine then .ok (.tup (xs ++ ys)) st else .stuck
  | .loc m, .loc n => match lst2 st m n with
    | some (xs, ys) => if xs.length + ys.length ≤ sizeLine then .ok (.loc st.length) (st ++ [.lst (xs ++ ys)]) else .stuck
    | none => .stuck
  | _, _ => .stuck
theorem lst2_of {st : Store} {m n : Nat} {xs ys : List W} (h : lst2 st m n = some (xs, ys)) : st[m]? = some (.lst xs) ∧ st[n]? = some (.lst ys) := by
  unfold lst2 at h
  split at h
  · rename_i h1 h2; cases h; exact ⟨h1, h2⟩
  · cases h
def rAdd (K : PySem.W.Frag) : R2 := fun x y H Q => (rI0 (fun i j => .int (i + j)) x y H Q) ∨ ((∃ i j, x = .str i ∧ y = .str j ∧ i.length + j.length ≤ sizeLine ∧ Q (.str (i ++ j)) H) ∨ (rCatA K x y H Q ∨ rCat x y H Q))
theorem opr_add : OpR X (binaryOp .Add) (rAdd X.K) := OpR.or op_add (OpR.or op_add_str (OpR.or op_catA op_cat))
theorem add_ok : OpOk X (rAdd X.K) addW := fun Wx ρ H st σ a b x y Q s ra rb p => by
  unfold addW at p
  split at p
  · rw [int_of ra, int_of rb]
    exact .inl ⟨_, _, rfl, rfl, post_int s p⟩
  · rw [str_of ra, str_of rb]
    split at p
    · rename_i hz
      exact .inr (.inl ⟨_, _, rfl, rfl, hz, post_str s p⟩)
    · exact p.elim
  · split at p
    · rename_i xs ys hz
      obtain ⟨a1, us, rfl, ht, r1⟩ := tup_of ra
      obtain ⟨b1, vs, rfl, hu, r2⟩ := tup_of rb
      refine .inr (.inr (.inl ⟨a1, b1, us, vs, rfl, rfl, ht.sq, hu.sq, by rw [← VRs.length r1, ← VRs.length r2]; exact hz, fun e => ?_, fun _ e => ?_, fun _ _ => post_tup s (r1.append r2) p⟩))
      · refine p.ok_ s ?_
        have e1 : xs = [] := by cases xs with
          | nil => rfl
          | cons _ _ => have := VRs.length r1; rw [e] at this; simp at this
        subst e1
        simp only [List.nil_append, relV, VR]
        exact ⟨b1, vs, rfl, hu, r2⟩
      · refine p.ok_ s ?_
        have e1 : ys = [] := by cases ys with
          | nil => rfl
          | cons _ _ => have := VRs.length r2; rw [e] at this; simp at this
        subst e1
        simp only [List.append_nil, relV, VR]
        exact ⟨a1, us, rfl, ht, r1⟩
    · exact p.elim
  · split at p
    · rename_i xs ys hl
      obtain ⟨h1, h2⟩ := lst2_of hl
      split at p
      · rename_i hz
        obtain ⟨a1, us, _, rfl, hu, r1⟩ := loc_lst s ra h1
        obtain ⟨b1, vs, _, rfl, hv, r2⟩ := loc_lst s rb h2
        exact .inr (.inr (.inr ⟨a1, b1, us, vs, rfl, rfl, hu, hv, by rw [← VRs.length r1, ← VRs.length r2]; exact hz, post_lst s (r1.append r2) p⟩))
      · exact p.elim
    · exact p.elim
  · exact p.elim
theorem ie_add {a b : Expr} {ma mb : D W} (ha : IE X ex Wx a ma) (hb : IE X ex Wx b mb) : IE X ex Wx (.BinOp a .Add b pos) (dOp addW ma mb) := ie_op opr_add add_ok ha hb
def subW (a b : W) (st : Store) : Res W := match a, b with
  | .int i, .int j => .ok (.int (i - j)) st
  | _, _ => .stuck
theorem sub_ok : OpOk X (rI0 fun i j => .int (i - j)) subW := fun Wx ρ H st σ a b x y Q s ra rb p => by
  unfold subW at p
  split at p
  · rw [int_of ra, int_of rb]; exact ⟨_, _, rfl, rfl, post_int s p⟩
  · exact p.elim
theorem ie_sub {a b : Expr} {ma mb : D W} (ha : IE X ex Wx a ma) (hb : IE X ex Wx b mb) : IE X ex Wx (.BinOp a .Sub b pos) (dOp subW ma mb) := ie_op op_sub sub_ok ha hb
theorem op_mulI : OpR X (binaryOp .Mult) (rI IntMulOk fun i j => .int (i * j)) := opI fun _ _ _ _ _ _ _ hc q => mul_int q hc
/-- z, k times -/
def repS (z : Str) (k : Nat) : Str := ⟨(List.replicate k z.cps).foldl (· ++ ·) #[]⟩
def CRepS (z : Str) (k : Int) : Prop := 2 ≤ k ∧ k ≤ 1000 ∧ 1 ≤ z.length ∧ z.length ≤ 1000 ∧ (repS z k.toNat).length ≤ sizeLine
theorem op_mulS : OpR X (binaryOp .Mult) (fun x y H Q => ∃ z k, x = .str z ∧ y = .int k ∧ CRepS z k ∧ Q (.str (repS z k.toNat)) H) := by
  intro pins s σ H x y v u Q I rx ry h
  obtain ⟨z, k, rfl, rfl, ⟨h1, h2, h3, h4, h5⟩, q⟩ := h
  obtain ⟨t, rfl⟩ := rx
  obtain ⟨t', rfl⟩ := ry
  have hk1 : (k == 1) = false := by simp; omega
  have hz0 : (z.length == 0) = false := by simp; omega
  refine PySem.P.mul_str ?_ (fun _ _ => ?_) (fun _ _ => ?_) ?_
  · have a1 : ¬ k < -(2 ^ 63 : Int) := by omega
    have a2 : ¬ k ≥ 2 ^ 63 := by omega
    rw [decide_eq_false a1, decide_eq_false a2]; rfl
  · have : (2 : Int) ^ 63 - 1 = 9223372036854775807 := by decide
    rw [this]
    intro hgt
    have h6 : (1000 : Int) ≤ 9223372036854775807 / k := by
      rw [Int.le_ediv_iff_mul_le (by omega)]; omega
    omega
  · have hle : z.length * k.toNat ≤ 1000 * 1000 := Nat.mul_le_mul h4 (by omega)
    exact decide_eq_false (by rw [sizeLine_eq]; omega)
  · rw [if_neg (by omega), hk1, hz0]
    exact ⟨h5, .str _, H, I.tok _, ⟨_, rfl⟩, q⟩
def mulW (a b : W) (st : Store) : Res W := match a, b with
  | .int i, .int j => if IntMulOk i j then .ok (.int (i * j)) st else .stuck
  | .str z, .int k => if CRepS z k then .ok (.str (repS z k.toNat)) st else .stuck
  | .loc m, .int k => match st[m]? with
    | some (.lst xs) => if -(2 ^ 63) ≤ k ∧ k < 2 ^ 63 ∧ xs.length * k.toNat ≤ sizeLine then .ok (.loc st.length) (st ++ [.lst (List.replicate k.toNat xs).flatten]) else .stuck
    | _ => .stuck
  | _, _ => .stuck
theorem VRs.rep {K : PySem.W.Frag} {ρ : List Addr} {H : Hp} {ws : List W} {us : List V} (r : VRs K ρ H ws us) : ∀ n : Nat, VRs K ρ H (List.replicate n ws).flatten (List.replicate n us).flatten
  | 0 => by simp [VRs]
  | n + 1 => by
    simp only [List.replicate_succ, List.flatten_cons]
    exact r.append (r.rep n)
theorem mul_ok : OpOk X (fun x y H Q => rI IntMulOk (fun i j => .int (i * j)) x y H Q ∨ ((∃ z k, x = .str z ∧ y = .int k ∧ CRepS z k ∧ Q (.str (repS z k.toNat)) H) ∨ rRep x y H Q)) mulW := fun Wx ρ H st σ a b x y Q s ra rb p => by
  unfold mulW at p
  split at p
  · split at p
    · rename_i hz
      rw [int_of ra, int_of rb]; exact .inl ⟨_, _, rfl, rfl, hz, post_int s p⟩
    · exact p.elim
  · split at p
    · rename_i hz
      rw [str_of ra, int_of rb]; exact .inr (.inl ⟨_, _, rfl, rfl, hz, post_str s p⟩)
    · exact p.elim
  · split at p
    · rename_i xs hl
      split at p
      · rename_i hz
        obtain ⟨a1, us, _, rfl, hu, r1⟩ := loc_lst s ra hl
        rw [int_of rb]
        exact .inr (.inr ⟨a1, _, us, rfl, rfl, hu, hz.1, hz.2.1, by rw [← VRs.length r1]; exact hz.2.2, post_lst s (r1.rep _) p⟩)
      · exact p.elim
    · exact p.elim
  · exact p.elim
theorem ie_mul {a b : Expr} {ma mb : D W} (ha : IE X ex Wx a ma) (hb : IE X ex Wx b mb) : IE X ex Wx (.BinOp a .Mult b pos) (dOp mulW ma mb) := ie_op (OpR.or op_mulI (OpR.or op_mulS op_rep)) mul_ok ha hb
def fdivW (a b : W) (st : Store) : Res W := match a, b with
  | .int i, .int j => if CDivW i j then .ok (.int (i / j)) st else .stuck
  | _, _ => .stuck
theorem fdiv_ok : OpOk X (rI CDivW fun i j => .int (i / j)) fdivW := fun Wx ρ H st σ a b x y Q s ra rb p => by
  unfold fdivW at p
  split at p
  · split at p
    · rename_i hz
      rw [int_of ra, int_of rb]; exact ⟨_, _, rfl, rfl, hz, post_int s p⟩
    · exact p.elim
  · exact p.elim
theorem ie_fdiv {a b : Expr} {ma mb : D W} (ha : IE X ex Wx a ma) (hb : IE X ex Wx b mb) : IE X ex Wx (.BinOp a .FloorDiv b pos) (dOp fdivW ma mb) := ie_op op_fdivW fdiv_ok ha hb
theorem op_modP : OpR X (binaryOp .Mod) (rI (fun _ j => 0 < j) fun i j => .int (i % j)) := opI fun i j _ _ _ _ _ hc q => mod_int' (by omega) (by rw [Int.fmod_eq_emod_of_nonneg i (by omega)]; exact q)
def modW (a b : W) (st : Store) : Res W := match a, b with
  | .int i, .int j => if 0 < j then .ok (.int (i % j)) st else .stuck
  | _, _ => .stuck
theorem mod_ok : OpOk X (rI (fun _ j => 0 < j) fun i j => .int (i % j)) modW := fun Wx ρ H st σ a b x y Q s ra rb p => by
  unfold modW at p
  split at p
  · split at p
    · rename_i hz
      rw [int_of ra, int_of rb]; exact ⟨_, _, rfl, rfl, hz, post_int s p⟩
    · exact p.elim
  · exact p.elim
theorem ie_mod {a b : Expr} {ma mb : D W} (ha : IE X ex Wx a ma) (hb : IE X ex Wx b mb) : IE X ex Wx (.BinOp a .Mod b pos) (dOp modW ma mb) := ie_op op_modP mod_ok ha hb
def CPowW (i j : Int) : Prop := 0 ≤ j ∧ (Builtin.Int.intBits i : Int) * j ≤ 2 ^ 27
theorem op_powI : OpR X (binaryOp .Pow) (rI CPowW fun i j => .int (i ^ j.toNat)) := opI fun _ _ _ _ _ _ _ hc q => pow_int hc.1 hc.2 q
def powW (a b : W) (st : Store) : Res W := match a, b with
  | .int i, .int j => if CPowW i j then .ok (.int (i ^ j.toNat)) st else .stuck
  | _, _ => .stuck
theorem pow_ok : OpOk X (rI CPowW fun i j => .int (i ^ j.toNat)) powW := fun Wx ρ H st σ a b x y Q s ra rb p => by
  unfold powW at p
  split at p
  · split at p
    · rename_i hz
      rw [int_of ra, int_of rb]; exact ⟨_, _, rfl, rfl, hz, post_int s p⟩
    · exact p.elim
  · exact p.elim
theorem ie_pow {a b : Expr} {ma mb : D W} (ha : IE X ex Wx a ma) (hb : IE X ex Wx b mb) : IE X ex Wx (.BinOp a .Pow b pos) (dOp powW ma mb) := ie_op op_powI pow_ok ha hb
def negW (a : W) (st : Store) : Res W := match a with
  | .int i => .ok (.int (-i)) st
  | _ => .stuck
theorem neg_ok : UnOk X (rU fun i => .int (-i)) negW := fun Wx ρ H st σ a x Q s ra p => by
  unfold negW at p
  split at p
  · rw [int_of ra]; exact ⟨_, rfl, post_int s p⟩
  · exact p.elim
theorem ie_neg {a : Expr} {ma : D W} (ha : IE X ex Wx a ma) : IE X ex Wx (.UnaryOp .USub a pos) (dUn negW ma) := ie_un un_neg neg_ok ha
/-! ### == != by data -/
def allO {α : Type} : List (Option α) → Option (List α)
  | [] => some []
  | some a :: r => (allO r).map (a :: ·)
  | none :: _ => none
def datF (st : Store) : Nat → W → Option PyData
  | 0, _ => none
  | n + 1, w => match w with
    | .non => some .none
    | .bl b => some (.bool b)
    | .int i => some (.int i)
    | .str x => some (.str x)
    | .tup ws => (allO (ws.map (datF st n))).map .tuple
    | .fro ws => (allO (ws.map (datF st n))).map .list
    | .loc k => match st[k]? with
      | some (.lst ws) => (allO (ws.map (datF st n))).map .list
      | none => none
    | .gl _ => none
theorem allO_dp {ρ : List Addr} {H : Hp} {f : W → Option PyData} (h : ∀ w v d, VR X.K ρ H w v → f w = some d → Dp X.K H v d) : ∀ {ws : List W} {us : List V} {ds : List PyData}, VRs X.K ρ H ws us → allO (ws.map f) = some ds → DpAll X.K H us ds
  | [], us, ds, r, e => by
    simp only [VRs] at r
    simp only [List.map_nil, allO, Option.some.injEq] at e
    subst r; subst e
    exact .nil
  | w :: ws, us, ds, r, e => by
    simp only [VRs] at r
    obtain ⟨u, vs, rfl, rw, rs⟩ := r
    simp only [List.map_cons] at e
    cases hf : f w with
    | none => rw [hf] at e; simp [allO] at e
    | some d =>
      rw [hf] at e
      simp only [allO] at e
      cases ha : allO (ws.map f) with
      | none => rw [ha] at e; cases e
      | some dr =>
        rw [ha] at e
        cases e
        exact .cons (h w u d rw hf) (allO_dp h rs ha)
theorem datF_dp {ρ : List Addr} {H : Hp} {st : Store} (s : StR X.K ρ H st) : ∀ (n : Nat) (w : W) (v : V) (d : PyData), VR X.K ρ H w v → datF st n w = some d → Dp X.K H v d
  | 0, _, _, _, _, e => by simp [datF] at e
  | n + 1, w, v, d, r, e => by
    unfold datF at e
    cases w with
    | non => simp only at e; cases e; rw [non_of r]; constructor
    | bl b => simp only at e; cases e; rw [bl_of r]; constructor
    | int i => simp only at e; cases e; rw [int_of r]; constructor
    | str x => simp only at e; cases e; rw [str_of r]; constructor
    | gl u => simp only at e; cases e
    | tup ws =>
      simp only at e
      cases ha : allO (ws.map (datF st n)) with
      | none => rw [ha] at e; cases e
      | some ds =>
        rw [ha] at e; cases e
        obtain ⟨a, us, rfl, ht, rs⟩ := tup_of r
        exact .tup ht.sq (allO_dp (datF_dp s n) rs ha)
    | fro ws =>
      simp only at e
      cases ha : allO (ws.map (datF st n)) with
      | none => rw [ha] at e; cases e
      | some ds =>
        rw [ha] at e; cases e
        obtain ⟨a, us, rfl, ht, rs⟩ := fro_of r
        exact .lst ht.sq (allO_dp (datF_dp s n) rs ha)
    | loc k =>
      simp only at e
      cases hk : st[k]? with
      | none => rw [hk] at e; cases e
      | some o =>
        cases o with
        | lst ws =>
          rw [hk] at e
          simp only at e
          cases ha : allO (ws.map (datF st n)) with
          | none => rw [ha] at e; cases e
          | some ds =>
            rw [ha] at e; cases e
            obtain ⟨a, us, _, rfl, hu, rs⟩ := loc_lst s r hk
            exact .lst (.of hu) (allO_dp (datF_dp s n) rs ha)
end
end
end MP
namespace MP
open PySem PySem.Spec PyProof.Rows L2
open Classical
noncomputable section

section
variable {X : Cx} {ex : Option Exn} {Wx : WX} {pos p : Pos}
def eqW (a b : W) (st : Store) : Res W := match datF st 66 a, datF st 66 b with
  | some d, some e => if SeqAt.shaped d = true ∧ SeqAt.shaped e = true then .ok (.bl (PyData.eqv d e)) st else .stuck
  | _, _ => .stuck
def neW (a b : W) (st : Store) : Res W := match datF st 66 a, datF st 66 b with
  | some d, some e => if SeqAt.shaped d = true ∧ SeqAt.shaped e = true then .ok (.bl (!PyData.eqv d e)) st else .stuck
  | _, _ => .stuck
theorem eq_ok : OpOk X (rEqD X.K) eqW := fun Wx ρ H st σ a b x y Q s ra rb p => by
  unfold eqW at p
  split at p
  · rename_i d e hd he
    split at p
    · rename_i hz
      exact ⟨d, e, datF_dp s 66 a x d ra hd, datF_dp s 66 b y e rb he, hz.1, hz.2, post_bl s p⟩
    · exact p.elim
  · exact p.elim
theorem ne_ok : OpOk X (rNeD X.K) neW := fun Wx ρ H st σ a b x y Q s ra rb p => by
  unfold neW at p
  split at p
  · rename_i d e hd he
    split at p
    · rename_i hz
      exact ⟨d, e, datF_dp s 66 a x d ra hd, datF_dp s 66 b y e rb he, hz.1, hz.2, post_bl s p⟩
    · exact p.elim
  · exact p.elim
section
variable {a b : Expr} {ma mb : D W} {k : Nat}
theorem ie_eq (hr : Room k X.A) (ha : IE X ex Wx a ma) (hb : IE X ex Wx b mb) : IE X ex Wx (.Compare a [.Eq] [b] pos) (dOp eqW ma mb) := ie_cmp (op_eqD hr.units) eq_ok ha hb (nomark _)
theorem ie_ne (hr : Room k X.A) (ha : IE X ex Wx a ma) (hb : IE X ex Wx b mb) : IE X ex Wx (.Compare a [.NotEq] [b] pos) (dOp neW ma mb) := ie_cmp (op_neD hr.units) ne_ok ha hb (nomark _)
theorem it_eq (hr : Room k X.A) (ha : IE X ex Wx a ma) (hb : IE X ex Wx b mb) : IT X ex Wx (.Compare a [.Eq] [b] pos) (dBool (dOp eqW ma mb)) := it_cmp (op_eqD hr.units) eq_ok ha hb (nomark _)
theorem it_ne (hr : Room k X.A) (ha : IE X ex Wx a ma) (hb : IE X ex Wx b mb) : IT X ex Wx (.Compare a [.NotEq] [b] pos) (dBool (dOp neW ma mb)) := it_cmp (op_neD hr.units) ne_ok ha hb (nomark _)
end
/-! ### < <= > >= -/
def ltW (a b : W) (st : Store) : Res W := match a, b with
  | .int i, .int j => .ok (.bl (decide (i < j))) st
  | .str x, .str y => .ok (.bl (decide (x.cps.toList < y.cps.toList))) st
  | _, _ => .stuck
def leW (a b : W) (st : Store) : Res W := match a, b with
  | .int i, .int j => .ok (.bl (decide (i ≤ j))) st
  | .str x, .str y => .ok (.bl (!decide (y.cps.toList < x.cps.toList))) st
  | _, _ => .stuck
def gtW (a b : W) (st : Store) : Res W := match a, b with
  | .int i, .int j => .ok (.bl (decide (j < i))) st
  | .str x, .str y => .ok (.bl (decide (y.cps.toList < x.cps.toList))) st
  | _, _ => .stuck
def geW (a b : W) (st : Store) : Res W := match a, b with
  | .int i, .int j => .ok (.bl (decide (j ≤ i))) st
  | .str x, .str y => .ok (.bl (!decide (x.cps.toList < y.cps.toList))) st
  | _, _ => .stuck
theorem ord_ok {f : W → W → Store → Res W} {g : Int → Int → Bool} {h : Str → Str → Bool} (hf : ∀ a b st, f a b st = match a, b with
    | .int i, .int j => .ok (.bl (g i j)) st
    | .str x, .str y => .ok (.bl (h x y)) st
    | _, _ => .stuck) : OpOk X (fun x y H Q => rI0 (fun i j => .bl (g i j)) x y H Q ∨ ∃ i j, x = .str i ∧ y = .str j ∧ Q (.bl (h i j)) H) f := fun Wx ρ H st σ a b x y Q s ra rb p => by
  rw [hf] at p
  split at p
  · rw [int_of ra, int_of rb]; exact .inl ⟨_, _, rfl, rfl, post_bl s p⟩
  · rw [str_of ra, str_of rb]; exact .inr ⟨_, _, rfl, rfl, post_bl s p⟩
  · exact p.elim
section
variable {a b : Expr} {ma mb : D W}
theorem ie_lt (ha : IE X ex Wx a ma) (hb : IE X ex Wx b mb) : IE X ex Wx (.Compare a [.Lt] [b] pos) (dOp ltW ma mb) := ie_cmp (OpR.or op_lt op_lt_str) (ord_ok fun _ _ _ => rfl) ha hb (nomark _)
theorem ie_le (ha : IE X ex Wx a ma) (hb : IE X ex Wx b mb) : IE X ex Wx (.Compare a [.LtE] [b] pos) (dOp leW ma mb) := ie_cmp (OpR.or op_le op_le_str) (ord_ok fun _ _ _ => rfl) ha hb (nomark _)
theorem ie_gt (ha : IE X ex Wx a ma) (hb : IE X ex Wx b mb) : IE X ex Wx (.Compare a [.Gt] [b] pos) (dOp gtW ma mb) := ie_cmp (OpR.or op_gt op_gt_str) (ord_ok fun _ _ _ => rfl) ha hb (nomark _)
theorem ie_ge (ha : IE X ex Wx a ma) (hb : IE X ex Wx b mb) : IE X ex Wx (.Compare a [.GtE] [b] pos) (dOp geW ma mb) := ie_cmp (OpR.or op_ge op_ge_str) (ord_ok fun _ _ _ => rfl) ha hb (nomark _)
theorem it_lt (ha : IE X ex Wx a ma) (hb : IE X ex Wx b mb) : IT X ex Wx (.Compare a [.Lt] [b] pos) (dBool (dOp ltW ma mb)) := it_cmp (OpR.or op_lt op_lt_str) (ord_ok fun _ _ _ => rfl) ha hb (nomark _)
theorem it_le (ha : IE X ex Wx a ma) (hb : IE X ex Wx b mb) : IT X ex Wx (.Compare a [.LtE] [b] pos) (dBool (dOp leW ma mb)) := it_cmp (OpR.or op_le op_le_str) (ord_ok fun _ _ _ => rfl) ha hb (nomark _)
theorem it_gt (ha : IE X ex Wx a ma) (hb : IE X ex Wx b mb) : IT X ex Wx (.Compare a [.Gt] [b] pos) (dBool (dOp gtW ma mb)) := it_cmp (OpR.or op_gt op_gt_str) (ord_ok fun _ _ _ => rfl) ha hb (nomark _)
theorem it_ge (ha : IE X ex Wx a ma) (hb : IE X ex Wx b mb) : IT X ex Wx (.Compare a [.GtE] [b] pos) (dBool (dOp geW ma mb)) := it_cmp (OpR.or op_ge op_ge_str) (ord_ok fun _ _ _ => rfl) ha hb (nomark _)
/-- a <= b <= c -/
theorem ie_lele {c : Expr} {mc : D W} (ha : IE X ex Wx a ma) (hb : IE X ex Wx b mb) (hc : IE X ex Wx c mc) (hm : lastMarks [.LtE, .LtE] [b, c] = false := by with_unfolding_all rfl) : IE X ex Wx (.Compare a [.LtE, .LtE] [b, c] pos) (dChain leW leW ma mb mc) :=
  ie_chain (OpR.or op_le op_le_str) (ord_ok fun _ _ _ => rfl) (OpR.or op_le op_le_str) (ord_ok fun _ _ _ => rfl) ha hb hc hm
/-- a <= b < c -/
theorem ie_lelt {c : Expr} {mc : D W} (ha : IE X ex Wx a ma) (hb : IE X ex Wx b mb) (hc : IE X ex Wx c mc) (hm : lastMarks [.LtE, .Lt] [b, c] = false := by with_unfolding_all rfl) : IE X ex Wx (.Compare a [.LtE, .Lt] [b, c] pos) (dChain leW ltW ma mb mc) :=
  ie_chain (OpR.or op_le op_le_str) (ord_ok fun _ _ _ => rfl) (OpR.or op_lt op_lt_str) (ord_ok fun _ _ _ => rfl) ha hb hc hm
end
theorem tru_step {m : D W} (σ : L2.St) (H : Hp) (Q : Bool → Hp → Prop) (h : RG X ex Wx relE (dBool m) σ H Q) : RG X ex Wx (relV X.K) m σ H fun x H' => ∃ k, TruV X.K x H' k ∧ Q k H' := by
  obtain ⟨ρ, env, st, s, e, q⟩ := dBool_step h
  refine ⟨ρ, env, st, s, e, ?_⟩
  generalize m env st = r at q
  cases r with
  | stuck => exact q
  | err c w st1 => exact q
  | ok a st1 =>
    intro ρ' H' x g s' r
    obtain ⟨k, ek, q'⟩ := q ρ' H' x g s' r
    subst ek
    exact ⟨k, rfl, q'⟩
/-- a bool's expression as a test -/
theorem it_val {e : Expr} {m : D W} (he : IE X ex Wx e m) (hw : ∀ whole, isTrue e X.env whole = (do let v ← whole; standAt e.pos; holding [v] (truthy v)) := by intro _; rfl) : IT X ex Wx e (dBool m) :=
  PT.of (pt_truth he hw) (tru_step)
theorem chain_step {op op' : CmpOp} {r r' : R2} {f g : W → W → Store → Res W} {ma mb mc : D W} (hf : OpOk X r f) (hg : OpOk X r' g) (σ : L2.St) (H : Hp) (Q : VK) (h : RG X ex Wx (relV X.K) (dChain f g ma mb mc) σ H Q) :
    tChain r r' (RG X ex Wx (relV X.K) ma) (RG X ex Wx (relV X.K) mb) (RG X ex Wx (relV X.K) mc) σ H Q := by
  obtain ⟨ρ, env, st, s, e, q⟩ := h
  refine RG.bind s e q fun ρ1 H1 st1 a x g1 s1 e1 ra p1 => RG.bind s1 e1 p1 fun ρ2 H2 st2 b y g2 s2 e2 rb p2 => ?_
  refine hf Wx ρ2 H2 st2 σ a b x y _ s2 (VR.grow s1.apart g2 a x ra) rb ?_
  generalize f a b st2 = q2 at p2
  cases q2 with
  | stuck => exact p2
  | err c fs st' => exact p2
  | ok z st3 =>
    intro ρ3 H3 zv g3 s3 rz
    simp only [Res.bind_ok] at p2
    cases z with
    | bl k =>
      refine ⟨k, bl_of rz, ?_⟩
      cases k with
      | true =>
        rw [if_pos rfl]
        exact RG.bind s3 (e2.grow s2.apart g3) (Post.mono p2 g3) fun ρ4 H4 st4 c z g4 s4 e4 rc p4 => hg Wx ρ4 H4 st4 σ b c y z Q s4 (VR.grow s3.apart g4 b y (VR.grow s2.apart g3 b y rb)) rc p4
      | false =>
        rw [if_neg (by decide)]
        exact post_bl s3 (Post.mono p2 g3)
    | _ => exact p2.elim
theorem it_lele {a b c : Expr} {ma mb mc : D W} (ha : IE X ex Wx a ma) (hb : IE X ex Wx b mb) (hc : IE X ex Wx c mc) (hm : lastMarks [.LtE, .LtE] [b, c] = false := by with_unfolding_all rfl) : IT X ex Wx (.Compare a [.LtE, .LtE] [b, c] pos) (dBool (dChain leW leW ma mb mc)) :=
  PT.of (pt_chain (OpR.or op_le op_le_str) (OpR.or op_le op_le_str) ha hb hc hm) fun σ H Q h => chain_step (op := .LtE) (op' := .LtE) (ord_ok fun _ _ _ => rfl) (ord_ok fun _ _ _ => rfl) σ H _ (dBool_step h)
theorem it_lelt {a b c : Expr} {ma mb mc : D W} (ha : IE X ex Wx a ma) (hb : IE X ex Wx b mb) (hc : IE X ex Wx c mc) (hm : lastMarks [.LtE, .Lt] [b, c] = false := by with_unfolding_all rfl) : IT X ex Wx (.Compare a [.LtE, .Lt] [b, c] pos) (dBool (dChain leW ltW ma mb mc)) :=
  PT.of (pt_chain (OpR.or op_le op_le_str) (OpR.or op_lt op_lt_str) ha hb hc hm) fun σ H Q h => chain_step (op := .LtE) (op' := .Lt) (ord_ok fun _ _ _ => rfl) (ord_ok fun _ _ _ => rfl) σ H _ (dBool_step h)
/-- any value's truth: a list, a text, a number -/
def truW (a : W) (st : Store) : Res Bool := match a with
  | .non => .ok false st
  | .bl b => .ok b st
  | .int i => .ok (i != 0) st
  | .str y => if y.length ≤ sizeLine then .ok ((y.length : Int) != 0) st else .stuck
  | _ => .stuck
def dTru (m : D W) : D Bool := fun env st => (m env st).bind fun a st1 => truW a st1
theorem it_tru {e : Expr} {m : D W} (he : IE X ex Wx e m) (hw : ∀ whole, isTrue e X.env whole = (do let v ← whole; standAt e.pos; holding [v] (truthy v)) := by intro _; rfl) : IT X ex Wx e (dTru m) :=
  PT.of (pt_truth he hw) fun σ H Q ⟨ρ, env, st, s, e, p⟩ => RG.bind s e p fun ρ1 H1 st1 a x g1 s1 e1 ra p1 => by
    unfold truW at p1
    split at p1
    · rw [non_of ra]; exact ⟨false, rfl, p1.ok_ s1 rfl⟩
    · rw [bl_of ra]; exact ⟨_, rfl, p1.ok_ s1 rfl⟩
    · rw [int_of ra]; exact ⟨_, rfl, p1.ok_ s1 rfl⟩
    · split at p1
      · rename_i hz
        rw [str_of ra]; exact ⟨_, ⟨hz, rfl⟩, p1.ok_ s1 rfl⟩
      · exact p1.elim
    · exact p1.elim
/-! ### is None -/
def isNW (a b : W) (st : Store) : Res W := match b with
  | .non => match a with
    | .non => .ok (.bl true) st
    | .gl _ => .stuck
    | _ => .ok (.bl false) st
  | _ => .stuck
def isNotNW (a b : W) (st : Store) : Res W := match b with
  | .non => match a with
    | .non => .ok (.bl false) st
    | .gl _ => .stuck
    | _ => .ok (.bl true) st
  | _ => .stuck
theorem notNon {ρ : List Addr} {H : Hp} {a : W} {x : V} (r : VR X.K ρ H a x) (h : a ≠ .non) (h2 : ∀ u, a ≠ .gl u) : x ≠ .non := by
  cases a with
  | non => exact absurd rfl h
  | gl u => exact absurd rfl (h2 u)
  | bl b => rw [bl_of r]; intro z; cases z
  | int b => rw [int_of r]; intro z; cases z
  | str b => rw [str_of r]; intro z; cases z
  | tup b => obtain ⟨_, _, rfl, _⟩ := tup_of r; intro z; cases z
  | fro b => obtain ⟨_, _, rfl, _⟩ := fro_of r; intro z; cases z
  | loc n => simp only [VR] at r; obtain ⟨_, _, rfl⟩ := r; intro z; cases z
theorem isN_ok : OpOk X (fun x y H Q => y = .non ∧ Q (.bl (decide (x = .non))) H) isNW := fun Wx ρ H st σ a b x y Q s ra rb p => by
  cases b with
  | non =>
    refine ⟨non_of rb, ?_⟩
    by_cases h : a = .non
    · subst h
      rw [non_of ra]
      exact post_bl s p
    · by_cases h2 : ∃ u, a = .gl u
      · obtain ⟨u, rfl⟩ := h2; exact p.elim
      · rw [decide_eq_false (notNon ra h fun u e => h2 ⟨u, e⟩)]
        cases a with
        | non => exact absurd rfl h
        | gl u => exact p.elim
        | _ => exact post_bl s p
  | _ => exact p.elim
theorem isNotN_ok : OpOk X (fun x y H Q => y = .non ∧ Q (.bl (!decide (x = .non))) H) isNotNW := fun Wx ρ H st σ a b x y Q s ra rb p => by
  cases b with
  | non =>
    refine ⟨non_of rb, ?_⟩
    by_cases h : a = .non
    · subst h
      rw [non_of ra]
      exact post_bl s p
    · by_cases h2 : ∃ u, a = .gl u
      · obtain ⟨u, rfl⟩ := h2; exact p.elim
      · rw [decide_eq_false (notNon ra h fun u e => h2 ⟨u, e⟩)]
        cases a with
        | non => exact absurd rfl h
        | gl u => exact p.elim
        | _ => exact post_bl s p
  | _ => exact p.elim
theorem ie_isN {a : Expr} {b : Expr} {ma mb : D W} (ha : IE X ex Wx a ma) (hb : IE X ex Wx b mb) : IE X ex Wx (.Compare a [.Is] [b] pos) (dOp isNW ma mb) := ie_cmp op_isN isN_ok ha hb (nomark _)
theorem ie_isNotN {a : Expr} {b : Expr} {ma mb : D W} (ha : IE X ex Wx a ma) (hb : IE X ex Wx b mb) : IE X ex Wx (.Compare a [.IsNot] [b] pos) (dOp isNotNW ma mb) := ie_cmp op_notN isNotN_ok ha hb (nomark _)
theorem it_isN {a : Expr} {b : Expr} {ma mb : D W} (ha : IE X ex Wx a ma) (hb : IE X ex Wx b mb) : IT X ex Wx (.Compare a [.Is] [b] pos) (dBool (dOp isNW ma mb)) := it_cmp op_isN isN_ok ha hb (nomark _)
theorem it_isNotN {a : Expr} {b : Expr} {ma mb : D W} (ha : IE X ex Wx a ma) (hb : IE X ex Wx b mb) : IT X ex Wx (.Compare a [.IsNot] [b] pos) (dBool (dOp isNotNW ma mb)) := it_cmp op_notN isNotN_ok ha hb (nomark _)
/-! ### sequences -/
def seqW (st : Store) : W → Option (List W)
  | .tup ws => some ws
  | .fro ws => some ws
  | .loc n => match st[n]? with
    | some (.lst ws) => some ws
    | none => none
  | _ => none
def lstW (st : Store) : W → Option (List W)
  | .fro ws => some ws
  | .loc n => match st[n]? with
    | some (.lst ws) => some ws
    | none => none
  | _ => none
theorem lstW_of {ρ : List Addr} {H : Hp} {st : Store} {a : W} {x : V} {ws : List W} (s : StR X.K ρ H st) (r : VR X.K ρ H a x) (h : lstW st a = some ws) : ∃ q us, x = .ref q ∧ SqL X.K H q us ∧ VRs X.K ρ H ws us := by
  unfold lstW at h
  split at h
  · cases h
    obtain ⟨q, us, rfl, hq, rs⟩ := fro_of r
    exact ⟨q, us, rfl, hq.sq, rs⟩
  · split at h
    · rename_i hk
      cases h
      obtain ⟨q, us, _, rfl, hu, rs⟩ := loc_lst s r hk
      exact ⟨q, us, rfl, .of hu, rs⟩
    · cases h
  · cases h
theorem seqW_of {ρ : List Addr} {H : Hp} {st : Store} {a : W} {x : V} {ws : List W} (s : StR X.K ρ H st) (r : VR X.K ρ H a x) (h : seqW st a = some ws) : ∃ q us, x = .ref q ∧ (SqL X.K H q us ∨ SqT X.K H q us) ∧ VRs X.K ρ H ws us := by
  cases a with
  | tup l =>
    cases h
    obtain ⟨q, us, rfl, hq, rs⟩ := tup_of r
    exact ⟨q, us, rfl, .inr hq.sq, rs⟩
  | fro l =>
    obtain ⟨q, us, e, hq, rs⟩ := lstW_of s r (ws := ws) h
    exact ⟨q, us, e, .inl hq, rs⟩
  | loc n =>
    obtain ⟨q, us, e, hq, rs⟩ := lstW_of s r (ws := ws) h
    exact ⟨q, us, e, .inl hq, rs⟩
  | _ => cases h
/-! ### in, not in -/
def flV : W → Option V
  | .non => some .non
  | .bl b => some (.bl b)
  | .int i => some (.int i)
  | .str x => some (.str x)
  | _ => none
theorem flV_of {ρ : List Addr} {H : Hp} {a : W} {x v : V} (r : VR X.K ρ H a x) (h : flV a = some v) : x = v ∧ flatV x = true := by
  cases a with
  | non => cases h; rw [non_of r]; exact ⟨rfl, rfl⟩
  | bl b => cases h; rw [bl_of r]; exact ⟨rfl, rfl⟩
  | int b => cases h; rw [int_of r]; exact ⟨rfl, rfl⟩
  | str b => cases h; rw [str_of r]; exact ⟨rfl, rfl⟩
  | _ => cases h
theorem allO_map {α β : Type} {f : α → Option β} : ∀ {l : List α} {r : List β}, allO (l.map f) = some r → ∀ {P : β → Prop}, (∀ a b, a ∈ l → f a = some b → P b) → ∀ b ∈ r, P b
  | [], r, h, P, _, b, hb => by simp only [List.map_nil, allO, Option.some.injEq] at h; subst h; cases hb
  | a :: l, r, h, P, hp, b, hb => by
    simp only [List.map_cons] at h
    cases hf : f a with
    | none => rw [hf] at h; simp [allO] at h
    | some c =>
      rw [hf] at h
      simp only [allO] at h
      cases ha : allO (l.map f) with
      | none => rw [ha] at h; cases h
      | some r' =>
        rw [ha] at h; cases h
        rcases List.mem_cons.mp hb with e | hb
        · rw [e]; exact hp a c List.mem_cons_self hf
        · exact allO_map ha (fun a b m => hp a b (List.mem_cons_of_mem _ m)) b hb
theorem flVs_of {ρ : List Addr} {H : Hp} : ∀ {ws : List W} {us vs : List V}, VRs X.K ρ H ws us → allO (ws.map flV) = some vs → us = vs ∧ us.all flatV = true
  | [], us, vs, r, h => by
    simp only [VRs] at r
    simp only [List.map_nil, allO, Option.some.injEq] at h
    subst r; subst h; exact ⟨rfl, rfl⟩
  | w :: ws, us, vs, r, h => by
    simp only [VRs] at r
    obtain ⟨u, us', rfl, rw, rs⟩ := r
    simp only [List.map_cons] at h
    cases hf : flV w with
    | none => rw [hf] at h; simp [allO] at h
    | some v =>
      rw [hf] at h
      simp only [allO] at h
      cases ha : allO (ws.map flV) with
      | none => rw [ha] at h; cases h
      | some r' =>
        rw [ha] at h; cases h
        obtain ⟨e1, f1⟩ := flV_of rw hf
        obtain ⟨e2, f2⟩ := flVs_of rs ha
        exact ⟨by rw [e1, e2], by simp [f1, f2]⟩
def oneSign (x : Str) : Option Nat := if x.cps.size = 1 then x.cps[0]? else none
theorem oneSign_of {x : Str} {c : Nat} (h : oneSign x = some c) : x = ⟨#[c]⟩ := by
  unfold oneSign at h
  split at h
  · rename_i hs
    obtain ⟨cps⟩ := x
    obtain ⟨l⟩ := cps
    match l, hs, h with
    | [d], _, h => simp at h; subst h; rfl
  · cases h
def inB (a b : W) (st : Store) : Option Bool := match b with
  | .str z => match a with
    | .str x => (oneSign x).map fun c => decide (c ∈ z.cps.toList)
    | _ => none
  | b => match seqW st b with
    | some ws => match flV a, allO (ws.map flV) with
      | some v, some vs => some (inV v vs)
      | _, _ => none
    | none => none
def inW (neg : Bool) (a b : W) (st : Store) : Res W := match inB a b st with
  | some k => .ok (.bl (if neg then !k else k)) st
  | none => .stuck
def rInS (neg : Bool) : R2 := fun x y H Q => ∃ (c : Nat) (z : Str), x = .str ⟨#[c]⟩ ∧ y = .str z ∧ Q (.bl (if neg then !decide (c ∈ z.cps.toList) else decide (c ∈ z.cps.toList))) H
theorem in_ok (neg : Bool) : OpOk X (fun x y H Q => rInS neg x y H Q ∨ rIn X.K neg x y H Q) (inW neg) := fun Wx ρ H st σ a b x y Q s ra rb p => by
  unfold inW at p
  cases hk : inB a b st with
  | none => rw [hk] at p; exact p.elim
  | some k =>
    rw [hk] at p
    have q := post_bl s p
    have seqc : (∃ ws v vs, seqW st b = some ws ∧ flV a = some v ∧ allO (ws.map flV) = some vs ∧ k = inV v vs) → rIn X.K neg x y H Q := fun ⟨ws, v, vs, hs, hv, hvs, e⟩ => by
      subst e
      obtain ⟨q1, us, rfl, hq, rs⟩ := seqW_of s rb hs
      obtain ⟨e1, f1⟩ := flV_of ra hv
      obtain ⟨e2, f2⟩ := flVs_of rs hvs
      refine ⟨q1, us, rfl, hq, f1, f2, ?_⟩
      rw [e1, e2]; exact q
    unfold inB at hk
    split at hk
    · rename_i z
      split at hk
      · rename_i x1
        cases ho : oneSign x1 with
        | none => rw [ho] at hk; cases hk
        | some c =>
          rw [ho] at hk
          cases hk
          exact .inl ⟨c, z, by rw [str_of ra, oneSign_of ho], str_of rb, q⟩
      · cases hk
    · split at hk
      · rename_i ws hs
        split at hk
        · rename_i v vs hv hvs
          cases hk
          exact .inr (seqc ⟨ws, v, vs, hs, hv, hvs, rfl⟩)
        · cases hk
      · cases hk
theorem opr_in : OpR X (compareOp .In) (fun x y H Q => rInS false x y H Q ∨ rIn X.K false x y H Q) := OpR.or op_in_sign op_in_seq
theorem opr_notIn : OpR X (compareOp .NotIn) (fun x y H Q => rInS true x y H Q ∨ rIn X.K true x y H Q) := OpR.or op_notIn_sign op_notIn_seq
theorem ie_in {a b : Expr} {ma mb : D W} (ha : IE X ex Wx a ma) (hb : IE X ex Wx b mb) (hm : behindInMarks .In b = false := by with_unfolding_all rfl) : IE X ex Wx (.Compare a [.In] [b] pos) (dOp (inW false) ma mb) := ie_cmp opr_in (in_ok false) ha hb hm
theorem ie_notIn {a b : Expr} {ma mb : D W} (ha : IE X ex Wx a ma) (hb : IE X ex Wx b mb) (hm : behindInMarks .NotIn b = false := by with_unfolding_all rfl) : IE X ex Wx (.Compare a [.NotIn] [b] pos) (dOp (inW true) ma mb) := ie_cmp opr_notIn (in_ok true) ha hb hm
theorem it_in {a b : Expr} {ma mb : D W} (ha : IE X ex Wx a ma) (hb : IE X ex Wx b mb) (hm : behindInMarks .In b = false := by with_unfolding_all rfl) : IT X ex Wx (.Compare a [.In] [b] pos) (dBool (dOp (inW false) ma mb)) := it_cmp opr_in (in_ok false) ha hb hm
theorem it_notIn {a b : Expr} {ma mb : D W} (ha : IE X ex Wx a ma) (hb : IE X ex Wx b mb) (hm : behindInMarks .NotIn b = false := by with_unfolding_all rfl) : IT X ex Wx (.Compare a [.NotIn] [b] pos) (dBool (dOp (inW true) ma mb)) := it_cmp opr_notIn (in_ok true) ha hb hm
/-! ### a[i], a[i:j] -/
def ixW (a b : W) (st : Store) : Res W := match b with
  | .int i => match a with
    | .str z => if z.length ≤ sizeLine then match atI z.cps.toList i with
        | some c => .ok (.str ⟨#[c]⟩) st
        | none => .stuck
      else .stuck
    | a => match seqW st a with
      | some ws => match atI ws i with
        | some w => .ok w st
        | none => .stuck
      | none => .stuck
  | _ => .stuck
theorem VRs.at {K : PySem.W.Frag} {ρ : List Addr} {H : Hp} {ws : List W} {us : List V} {i : Int} {w : W} (r : VRs K ρ H ws us) (h : atI ws i = some w) : ∃ v, atI us i = some v ∧ VR K ρ H w v := by
  unfold atI at h ⊢
  rw [← VRs.length r]
  cases hj : ixN ws.length i with
  | none => rw [hj] at h; cases h
  | some j =>
    rw [hj] at h
    obtain ⟨v, h1, h2⟩ := r.get (i := j) h
    exact ⟨v, h1, h2⟩
theorem ix_ok : OpOk X (rIx X.K) ixW := fun Wx ρ H st σ a b x y Q s ra rb p => by
  unfold ixW at p
  split at p
  · rw [int_of rb]
    split at p
    · rename_i z
      split at p
      · rename_i hz
        split at p
        · rename_i c hc
          exact .inr (.inr ⟨z, _, c, str_of ra, rfl, hz, hc, post_str s p⟩)
        · exact p.elim
      · exact p.elim
    · split at p
      · rename_i ws hs
        split at p
        · rename_i w hw
          obtain ⟨q, us, rfl, hq, rs⟩ := seqW_of s ra hs
          obtain ⟨v, h1, h2⟩ := rs.at hw
          have := p.ok_ s h2
          rcases hq with hq | hq
          · exact .inl ⟨q, us, _, v, rfl, rfl, hq, h1, this⟩
          · exact .inr (.inl ⟨q, us, _, v, rfl, rfl, hq, h1, this⟩)
        · exact p.elim
      · exact p.elim
  · exact p.elim
theorem ie_ix {a b : Expr} {ma mb : D W} (ha : IE X ex Wx a ma) (hb : IE X ex Wx b mb) (hs : PlainIx b := by intro _ _; rfl) : IE X ex Wx (.Subscript a b pos) (dOp ixW ma mb) :=
  PE.of (pe_ix ix_seq ha hb hs) fun σ H Q ⟨ρ, env, st, s, e, p⟩ => RG.bind s e p fun ρ1 H1 st1 a x g1 s1 e1 ra p1 => RG.bind s1 e1 p1 fun ρ2 H2 st2 b y g2 s2 e2 rb p2 =>
    ix_ok Wx ρ2 H2 st2 σ a b x y Q s2 (VR.grow s1.apart g2 a x ra) rb p2
def cutW (ws : List W) (lo hi : Option Int) : List W := (ws.drop (HT.sIx ws.length 0 lo)).take (HT.sIx ws.length ws.length hi - HT.sIx ws.length 0 lo)
def slW (a : W) (lo hi : Option Int) (st : Store) : Res W := match a with
  | .str z => if z.length ≤ sizeLine then .ok (.str (cutS z lo hi)) st else .stuck
  | .tup ws => .ok (.tup (cutW ws lo hi)) st
  | a => match lstW st a with
    | some ws => .ok (.loc st.length) (st ++ [.lst (cutW ws lo hi)])
    | none => .stuck
def dNoPart : D (Option Int) := fun _ st => .ok none st
def dPart (m : D W) : D (Option Int) := fun env st => (m env st).bind fun a st1 => match a with
  | .int i => .ok (some i) st1
  | _ => .stuck
def dSl (m : D W) (lo hi : D (Option Int)) : D W := fun env st => (m env st).bind fun a st1 => (lo env st1).bind fun l st2 => (hi env st2).bind fun h st3 => slW a l h st3
abbrev IO (X : Cx) (ex : Option Exn) (Wx : WX) (e : Option Expr) (m : D (Option Int)) : Prop := PO X e (RG X ex Wx relE m)
theorem PO.of {e : Option Expr} {t t' : TO} (h : PO X e t) (w : ∀ σ H Q, t' σ H Q → t σ H Q) : PO X e t' := ⟨fun pins s σ H Q I q => h.run pins s σ H Q I (w _ _ _ q)⟩
theorem io_none : IO X ex Wx none dNoPart := PO.of po_none fun σ H Q ⟨ρ, env, st, s, e, p⟩ => Post.ok_ p s rfl
theorem io_some {e : Expr} {m : D W} (he : IE X ex Wx e m) : IO X ex Wx (some e) (dPart m) := PO.of (po_some he) fun σ H Q ⟨ρ, env, st, s, e, p⟩ => RG.bind s e p fun ρ1 H1 st1 a x g1 s1 e1 ra p1 => by
  split at p1
  · exact ⟨_, int_of ra, p1.ok_ s1 rfl⟩
  · exact p1.elim
theorem cutV_whole {us : List V} {lo hi : Option Int} (h : HT.sIx us.length 0 lo = 0 ∧ HT.sIx us.length us.length hi = us.length) : cutV us lo hi = us := by
  unfold cutV
  rw [h.1, h.2]; simp
theorem VRs.cut {K : PySem.W.Frag} {ρ : List Addr} {H : Hp} {ws : List W} {us : List V} (r : VRs K ρ H ws us) (lo hi : Option Int) : VRs K ρ H (cutW ws lo hi) (cutV us lo hi) := by
  unfold cutW cutV
  rw [← VRs.length r]
  exact (r.drop _).take _
theorem sl_ok {Wx : WX} {ρ : List Addr} {H : Hp} {st : Store} {σ : L2.St} {a : W} {x : V} {lo hi : Option Int} {Q : VK} (s : StR X.K ρ H st) (ra : VR X.K ρ H a x) (p : Post X.K X.mg Wx (relV X.K) ρ H σ (slW a lo hi st) Q) :
    rSlA X.K x lo hi H Q ∨ (rSlL X.K x lo hi H Q ∨ rSlS x lo hi H Q) := by
  unfold slW at p
  split at p
  · split at p
    · rename_i hz
      exact .inr (.inr ⟨_, str_of ra, hz, post_str s p⟩)
    · exact p.elim
  · obtain ⟨q, us, rfl, hq, rs⟩ := tup_of ra
    refine .inl ⟨q, us, rfl, hq.sq, fun hw => ?_, fun _ => post_tup s (rs.cut lo hi) p⟩
    refine p.ok_ s ?_
    have rc := rs.cut lo hi
    rw [cutV_whole hw] at rc
    simp only [relV, VR]
    exact ⟨q, us, rfl, hq, rc⟩
  · split at p
    · rename_i ws hs
      obtain ⟨q, us, rfl, hq, rs⟩ := lstW_of s ra hs
      exact .inr (.inl ⟨q, us, rfl, hq, post_lst s (rs.cut lo hi) p⟩)
    · exact p.elim
theorem ie_slice {e : Expr} {lo hi : Option Expr} {m : D W} {ml mh : D (Option Int)} {p2 : Pos} (he : IE X ex Wx e m) (hl : IO X ex Wx lo ml) (hh : IO X ex Wx hi mh) : IE X ex Wx (.Subscript e (.Slice lo hi none p2) pos) (dSl m ml mh) :=
  PE.of (pe_slice (SlR.or sl_tupA (SlR.or sl_list sl_str)) he hl hh) fun σ H Q ⟨ρ, env, st, s, e, p⟩ => RG.bind s e p fun ρ1 H1 st1 a x g1 s1 e1 ra p1 => RG.bind (relA := relE) s1 e1 p1 fun ρ2 H2 st2 l l' g2 s2 e2 rl p2 =>
    RG.bind (relA := relE) s2 e2 p2 fun ρ3 H3 st3 h h' g3 s3 e3 rh p3 => by
      have rl' : l = l' := rl
      have rh' : h = h' := rh
      subst rl'; subst rh'
      exact sl_ok s3 (VR.grow s2.apart g3 a x (VR.grow s1.apart g2 a x ra)) p3
end
end
end MP
namespace MP
open PySem PySem.Spec PyProof.Rows L2
open Classical
noncomputable section
section
variable {X : Cx} {ex : Option Exn} {Wx : WX} {pos p : Pos} {k : Nat} {f : Addr} {fd : FuncData} {ps : List Str} {n : Nat} {den : List W → Store → Res W} {x : Str} {e : Expr} {es : List Expr}
theorem vrs1 {K : PySem.W.Frag} {ρ : List Addr} {H : Hp} {a : W} {vs : List V} (r : VRs K ρ H [a] vs) : ∃ x, vs = [x] ∧ VR K ρ H a x := by
  simp only [VRs] at r
  obtain ⟨u, _, rfl, r, rfl⟩ := r
  exact ⟨u, rfl, r⟩
theorem vrs2 {K : PySem.W.Frag} {ρ : List Addr} {H : Hp} {a b : W} {vs : List V} (r : VRs K ρ H [a, b] vs) : ∃ x y, vs = [x, y] ∧ VR K ρ H a x ∧ VR K ρ H b y := by
  simp only [VRs] at r
  obtain ⟨u, _, rfl, r, v, _, rfl, r2, rfl⟩ := r
  exact ⟨u, v, rfl, r, r2⟩
/-! ### len, int, abs, max, min, all, any, sum, list, tuple, divmod -/
def lenW (l : List W) (st : Store) : Res W := match l with
  | [.str z] => if z.length ≤ sizeLine then .ok (.int z.length) st else .stuck
  | [a] => match seqW st a with
    | some ws => .ok (.int ws.length) st
    | none => .stuck
  | _ => .stuck
theorem len_ok : CallOk X (fun xs H Q => ∃ x n, xs = [x] ∧ LenV X.K x H n ∧ Q (.int n) H) lenW := fun Wx ρ H st σ l vs Q s r p => by
  unfold lenW at p
  split at p
  · rename_i z
    obtain ⟨x, rfl, ra⟩ := vrs1 r
    split at p
    · rename_i hz
      rw [str_of ra]
      exact ⟨_, _, rfl, ⟨hz, rfl⟩, post_int s p⟩
    · exact p.elim
  · rename_i a _
    obtain ⟨x, rfl, ra⟩ := vrs1 r
    split at p
    · rename_i ws hs
      obtain ⟨q, us, rfl, hq, rs⟩ := seqW_of s ra hs
      refine ⟨_, ws.length, rfl, ?_, post_int s p⟩
      rcases hq with hq | hq
      · exact .inl ⟨us, hq, VRs.length rs⟩
      · exact .inr ⟨us, hq, VRs.length rs⟩
    · exact p.elim
  · exact p.elim
theorem ie_len {m : D (List W)} (hg : Gl X "len") (hm : X.mg "len" = none) (ha : IA X ex Wx (e :: es) m) (he : starEach (e :: es) X.env = (false, eval e X.env) :: starEach es X.env := by rfl) (hpl : (backTo pos (starEach es X.env)).any (·.1) = false := by rfl) :
    IE X ex Wx (.Call (.Name "len" p) (e :: es) [] pos) (dApp lenW m) := ie_callB call_len len_ok hg hm PySem.boot_len ha (by decide) (by decide) he hpl
def intOfW (l : List W) (st : Store) : Res W := match l with
  | [.int i] => .ok (.int i) st
  | [.bl b] => .ok (.int (if b then 1 else 0)) st
  | _ => .stuck
theorem intOf_ok : CallOk X (fun xs H Q => (∃ i, xs = [.int i] ∧ Q (.int i) H) ∨ ∃ k, xs = [.bl k] ∧ Q (.int (if k then 1 else 0)) H) intOfW := fun Wx ρ H st σ l vs Q s r p => by
  unfold intOfW at p
  split at p
  · obtain ⟨x, rfl, ra⟩ := vrs1 r; rw [int_of ra]; exact .inl ⟨_, rfl, post_int s p⟩
  · obtain ⟨x, rfl, ra⟩ := vrs1 r; rw [bl_of ra]; exact .inr ⟨_, rfl, post_int s p⟩
  · exact p.elim
theorem ie_intOf {m : D (List W)} (hg : Gl X "int") (hm : X.mg "int" = none) (ha : IA X ex Wx (e :: es) m) (he : starEach (e :: es) X.env = (false, eval e X.env) :: starEach es X.env := by rfl) (hpl : (backTo pos (starEach es X.env)).any (·.1) = false := by rfl) :
    IE X ex Wx (.Call (.Name "int" p) (e :: es) [] pos) (dApp intOfW m) := ie_callTy call_int1 intOf_ok hg hm (by decide +kernel) ha (by decide) (by decide) he hpl
def absW (l : List W) (st : Store) : Res W := match l with
  | [.int i] => .ok (.int (if i < 0 then -i else i)) st
  | _ => .stuck
theorem abs_ok : CallOk X (fun xs H Q => ∃ i, xs = [.int i] ∧ Q (.int (if i < 0 then -i else i)) H) absW := fun Wx ρ H st σ l vs Q s r p => by
  unfold absW at p
  split at p
  · obtain ⟨x, rfl, ra⟩ := vrs1 r; rw [int_of ra]; exact ⟨_, rfl, post_int s p⟩
  · exact p.elim
theorem ie_abs {m : D (List W)} (hg : Gl X "abs") (hm : X.mg "abs" = none) (ha : IA X ex Wx (e :: es) m) (he : starEach (e :: es) X.env = (false, eval e X.env) :: starEach es X.env := by rfl) (hpl : (backTo pos (starEach es X.env)).any (·.1) = false := by rfl) :
    IE X ex Wx (.Call (.Name "abs" p) (e :: es) [] pos) (dApp absW m) := ie_callB call_abs abs_ok hg hm (by decide +kernel) ha (by decide) (by decide) he hpl
def maxW (l : List W) (st : Store) : Res W := match l with
  | [.int i, .int j] => .ok (.int (if j > i then j else i)) st
  | _ => .stuck
def minW (l : List W) (st : Store) : Res W := match l with
  | [.int i, .int j] => .ok (.int (if j < i then j else i)) st
  | _ => .stuck
theorem max_ok : CallOk X (fun xs H Q => ∃ i j, xs = [.int i, .int j] ∧ Q (.int (if j > i then j else i)) H) maxW := fun Wx ρ H st σ l vs Q s r p => by
  unfold maxW at p
  split at p
  · obtain ⟨x, y, rfl, ra, rb⟩ := vrs2 r; rw [int_of ra, int_of rb]; exact ⟨_, _, rfl, post_int s p⟩
  · exact p.elim
theorem min_ok : CallOk X (fun xs H Q => ∃ i j, xs = [.int i, .int j] ∧ Q (.int (if j < i then j else i)) H) minW := fun Wx ρ H st σ l vs Q s r p => by
  unfold minW at p
  split at p
  · obtain ⟨x, y, rfl, ra, rb⟩ := vrs2 r; rw [int_of ra, int_of rb]; exact ⟨_, _, rfl, post_int s p⟩
  · exact p.elim
theorem ie_max {m : D (List W)} (hc : X.calm = true) (hg : Gl X "max") (hm : X.mg "max" = none) (ha : IA X ex Wx (e :: es) m) (he : starEach (e :: es) X.env = (false, eval e X.env) :: starEach es X.env := by rfl) (hpl : (backTo pos (starEach es X.env)).any (·.1) = false := by rfl) :
    IE X ex Wx (.Call (.Name "max" p) (e :: es) [] pos) (dApp maxW m) := ie_callB (call_max2 hc) max_ok hg hm (by decide +kernel) ha (by decide) (by decide) he hpl
theorem ie_min {m : D (List W)} (hc : X.calm = true) (hg : Gl X "min") (hm : X.mg "min" = none) (ha : IA X ex Wx (e :: es) m) (he : starEach (e :: es) X.env = (false, eval e X.env) :: starEach es X.env := by rfl) (hpl : (backTo pos (starEach es X.env)).any (·.1) = false := by rfl) :
    IE X ex Wx (.Call (.Name "min" p) (e :: es) [] pos) (dApp minW m) := ie_callB (call_min2 hc) min_ok hg hm (by decide +kernel) ha (by decide) (by decide) he hpl
def blOf : W → Option Bool
  | .bl b => some b
  | _ => none
def inOf : W → Option Int
  | .int i => some i
  | _ => none
def stOf : W → Option Str
  | .str i => some i
  | _ => none
theorem VRs.maps {K : PySem.W.Frag} {ρ : List Addr} {H : Hp} {α : Type} {g : W → Option α} {c : α → V} (hg : ∀ w v a, VR K ρ H w v → g w = some a → v = c a) : ∀ {ws : List W} {us : List V} {l : List α}, VRs K ρ H ws us → allO (ws.map g) = some l → us = l.map c
  | [], us, l, r, h => by
    simp only [VRs] at r
    simp only [List.map_nil, allO, Option.some.injEq] at h
    subst r; subst h; rfl
  | w :: ws, us, l, r, h => by
    simp only [VRs] at r
    obtain ⟨u, us', rfl, rw, rs⟩ := r
    simp only [List.map_cons] at h
    cases hf : g w with
    | none => rw [hf] at h; simp [allO] at h
    | some a =>
      rw [hf] at h
      simp only [allO] at h
      cases ha : allO (ws.map g) with
      | none => rw [ha] at h; cases h
      | some r' =>
        rw [ha] at h; cases h
        rw [hg w u a rw hf, VRs.maps hg rs ha]; rfl
theorem blOf_of {ρ : List Addr} {H : Hp} (w : W) (v : V) (b : Bool) (r : VR X.K ρ H w v) (h : blOf w = some b) : v = .bl b := by
  cases w with
  | bl c => cases h; exact bl_of r
  | _ => cases h
theorem inOf_of {ρ : List Addr} {H : Hp} (w : W) (v : V) (b : Int) (r : VR X.K ρ H w v) (h : inOf w = some b) : v = .int b := by
  cases w with
  | int c => cases h; exact int_of r
  | _ => cases h
theorem stOf_of {ρ : List Addr} {H : Hp} (w : W) (v : V) (b : Str) (r : VR X.K ρ H w v) (h : stOf w = some b) : v = .str b := by
  cases w with
  | str c => cases h; exact str_of r
  | _ => cases h
def bls (st : Store) (a : W) : Option (List Bool) := (lstW st a).bind fun ws => allO (ws.map blOf)
def nums (st : Store) (a : W) : Option (List Int) := (lstW st a).bind fun ws => allO (ws.map inOf)
def allW (l : List W) (st : Store) : Res W := match l with
  | [a] => match bls st a with
    | some bs => .ok (.bl (bs.all id)) st
    | none => .stuck
  | _ => .stuck
def anyW (l : List W) (st : Store) : Res W := match l with
  | [a] => match bls st a with
    | some bs => .ok (.bl (bs.any id)) st
    | none => .stuck
  | _ => .stuck
def sumW (l : List W) (st : Store) : Res W := match l with
  | [a] => match nums st a with
    | some bs => .ok (.int bs.sum) st
    | none => .stuck
  | _ => .stuck
theorem bls_of {ρ : List Addr} {H : Hp} {st : Store} {a : W} {x : V} {bs : List Bool} (s : StR X.K ρ H st) (r : VR X.K ρ H a x) (h : bls st a = some bs) : ∃ q, x = .ref q ∧ SqL X.K H q (bs.map V.bl) := by
  unfold bls at h
  cases hl : lstW st a with
  | none => rw [hl] at h; cases h
  | some ws =>
    rw [hl] at h
    obtain ⟨q, us, rfl, hq, rs⟩ := lstW_of s r hl
    exact ⟨q, rfl, by rw [← VRs.maps blOf_of rs (show allO (ws.map blOf) = some bs from h)]; exact hq⟩
theorem nums_of {ρ : List Addr} {H : Hp} {st : Store} {a : W} {x : V} {bs : List Int} (s : StR X.K ρ H st) (r : VR X.K ρ H a x) (h : nums st a = some bs) : ∃ q, x = .ref q ∧ SqL X.K H q (bs.map V.int) := by
  unfold nums at h
  cases hl : lstW st a with
  | none => rw [hl] at h; cases h
  | some ws =>
    rw [hl] at h
    obtain ⟨q, us, rfl, hq, rs⟩ := lstW_of s r hl
    exact ⟨q, rfl, by rw [← VRs.maps inOf_of rs (show allO (ws.map inOf) = some bs from h)]; exact hq⟩
theorem all_ok : CallOk X (rAll X.K) allW := fun Wx ρ H st σ l vs Q s r q => by
  unfold allW at q
  split at q
  · obtain ⟨x, rfl, ra⟩ := vrs1 r
    split at q
    · rename_i bs hb
      obtain ⟨a, rfl, h⟩ := bls_of s ra hb
      exact ⟨a, bs, rfl, h, post_bl s q⟩
    · exact q.elim
  · exact q.elim
theorem any_ok : CallOk X (rAny X.K) anyW := fun Wx ρ H st σ l vs Q s r q => by
  unfold anyW at q
  split at q
  · obtain ⟨x, rfl, ra⟩ := vrs1 r
    split at q
    · rename_i bs hb
      obtain ⟨a, rfl, h⟩ := bls_of s ra hb
      exact ⟨a, bs, rfl, h, post_bl s q⟩
    · exact q.elim
  · exact q.elim
theorem sum_ok : CallOk X (rSum X.K) sumW := fun Wx ρ H st σ l vs Q s r q => by
  unfold sumW at q
  split at q
  · obtain ⟨x, rfl, ra⟩ := vrs1 r
    split at q
    · rename_i bs hb
      obtain ⟨a, rfl, h⟩ := nums_of s ra hb
      exact ⟨a, bs, rfl, h, post_int s q⟩
    · exact q.elim
  · exact q.elim
theorem ie_all {m : D (List W)} (hc : X.calm = true) (hg : Gl X "all") (hm : X.mg "all" = none) (ha : IA X ex Wx (e :: es) m) (he : starEach (e :: es) X.env = (false, eval e X.env) :: starEach es X.env := by rfl) (hpl : (backTo pos (starEach es X.env)).any (·.1) = false := by rfl) :
    IE X ex Wx (.Call (.Name "all" p) (e :: es) [] pos) (dApp allW m) := ie_callB (cr_all hc) all_ok hg hm (by decide +kernel) ha (by decide) (by decide) he hpl
theorem ie_any {m : D (List W)} (hc : X.calm = true) (hg : Gl X "any") (hm : X.mg "any" = none) (ha : IA X ex Wx (e :: es) m) (he : starEach (e :: es) X.env = (false, eval e X.env) :: starEach es X.env := by rfl) (hpl : (backTo pos (starEach es X.env)).any (·.1) = false := by rfl) :
    IE X ex Wx (.Call (.Name "any" p) (e :: es) [] pos) (dApp anyW m) := ie_callB (cr_any hc) any_ok hg hm (by decide +kernel) ha (by decide) (by decide) he hpl
theorem ie_sum {m : D (List W)} (hc : X.calm = true) (hg : Gl X "sum") (hm : X.mg "sum" = none) (ha : IA X ex Wx (e :: es) m) (he : starEach (e :: es) X.env = (false, eval e X.env) :: starEach es X.env := by rfl) (hpl : (backTo pos (starEach es X.env)).any (·.1) = false := by rfl) :
    IE X ex Wx (.Call (.Name "sum" p) (e :: es) [] pos) (dApp sumW m) := ie_callB (cr_sum hc) sum_ok hg hm (by decide +kernel) ha (by decide) (by decide) he hpl
def listW (l : List W) (st : Store) : Res W := match l with
  | [a] => match seqW st a with
    | some ws => .ok (.loc st.length) (st ++ [.lst ws])
    | none => .stuck
  | _ => .stuck
theorem list_ok : CallOk X (fun xs H Q => ∃ p ys, xs = [.ref p] ∧ (SqL X.K H p ys ∨ SqT X.K H p ys) ∧ ∀ l, H l = none → Q (.ref l) (upd H l (.lst ys))) listW := fun Wx ρ H st σ l vs Q s r q => by
  unfold listW at q
  split at q
  · obtain ⟨x, rfl, ra⟩ := vrs1 r
    split at q
    · rename_i ws hs
      obtain ⟨a, us, rfl, hq, rs⟩ := seqW_of s ra hs
      exact ⟨a, us, rfl, hq, post_lst s rs q⟩
    · exact q.elim
  · exact q.elim
theorem ie_list {m : D (List W)} (hg : Gl X "list") (hm : X.mg "list" = none) (ha : IA X ex Wx (e :: es) m) (he : starEach (e :: es) X.env = (false, eval e X.env) :: starEach es X.env := by rfl) (hpl : (backTo pos (starEach es X.env)).any (·.1) = false := by rfl) :
    IE X ex Wx (.Call (.Name "list" p) (e :: es) [] pos) (dApp listW m) := ie_callTy call_list_of list_ok hg hm (by decide +kernel) ha (by decide) (by decide) he hpl
def tupleW (l : List W) (st : Store) : Res W := match l with
  | [.tup ws] => .ok (.tup ws) st
  | [a] => match lstW st a with
    | some ws => .ok (.tup ws) st
    | none => .stuck
  | _ => .stuck
theorem tuple_ok : CallOk X (fun xs H Q => ∃ p ys, xs = [.ref p] ∧ ((SqL X.K H p ys ∧ ∀ l, H l = none → Q (.ref l) (upd H l (.tup ys))) ∨ (SqT X.K H p ys ∧ Q (.ref p) H))) tupleW := fun Wx ρ H st σ l vs Q s r q => by
  unfold tupleW at q
  split at q
  · obtain ⟨x, rfl, ra⟩ := vrs1 r
    obtain ⟨a, us, rfl, hq, rs⟩ := tup_of ra
    exact ⟨a, us, rfl, .inr ⟨hq.sq, q.ok_ s ra⟩⟩
  · obtain ⟨x, rfl, ra⟩ := vrs1 r
    split at q
    · rename_i ws hs
      obtain ⟨a, us, rfl, hq, rs⟩ := lstW_of s ra hs
      exact ⟨a, us, rfl, .inl ⟨hq, post_tup s rs q⟩⟩
    · exact q.elim
  · exact q.elim
theorem ie_tuple {m : D (List W)} (hg : Gl X "tuple") (hm : X.mg "tuple" = none) (ha : IA X ex Wx (e :: es) m) (he : starEach (e :: es) X.env = (false, eval e X.env) :: starEach es X.env := by rfl) (hpl : (backTo pos (starEach es X.env)).any (·.1) = false := by rfl) :
    IE X ex Wx (.Call (.Name "tuple" p) (e :: es) [] pos) (dApp tupleW m) := ie_callTy call_tuple_of tuple_ok hg hm (by decide +kernel) ha (by decide) (by decide) he hpl
def divmodW (l : List W) (st : Store) : Res W := match l with
  | [.int i, .int j] => if CDiv i j then .ok (.tup [.int (i / j), .int (i % j)]) st else .stuck
  | _ => .stuck
theorem divmod_ok : CallOk X (fun xs H Q => ∃ i j, xs = [.int i, .int j] ∧ CDiv i j ∧ ∀ p, H p = none → Q (.ref p) (upd H p (.tup [.int (i / j), .int (i % j)]))) divmodW := fun Wx ρ H st σ l vs Q s r q => by
  unfold divmodW at q
  split at q
  · obtain ⟨x, y, rfl, ra, rb⟩ := vrs2 r
    rw [int_of ra, int_of rb]
    split at q
    · rename_i hc
      exact ⟨_, _, rfl, hc, post_tup s (.cons' (by simp [VR]) (.one (by simp [VR]))) q⟩
    · exact q.elim
  · exact q.elim
theorem ie_divmod {m : D (List W)} (hg : Gl X "divmod") (hm : X.mg "divmod" = none) (ha : IA X ex Wx (e :: es) m) (he : starEach (e :: es) X.env = (false, eval e X.env) :: starEach es X.env := by rfl) (hpl : (backTo pos (starEach es X.env)).any (·.1) = false := by rfl) :
    IE X ex Wx (.Call (.Name "divmod" p) (e :: es) [] pos) (dApp divmodW m) := ie_callB call_divmod divmod_ok hg hm (by decide +kernel) ha (by decide) (by decide) he hpl
/-! ### isinstance -/
def tyN (st : Store) : W → Option String
  | .non => some "NoneType"
  | .bl _ => some "bool"
  | .int _ => some "int"
  | .str _ => some "str"
  | .tup _ => some "tuple"
  | .fro _ => some "list"
  | .loc n => match st[n]? with
    | some (.lst _) => some "list"
    | none => none
  | .gl _ => none
theorem tyN_of {ρ : List Addr} {H : Hp} {st : Store} {a : W} {x : V} {t : String} (s : StR X.K ρ H st) (r : VR X.K ρ H a x) (h : tyN st a = some t) : TyX X.K H x (.type t) := by
  cases a with
  | non => cases h; rw [non_of r]; exact .base .non
  | bl b => cases h; rw [bl_of r]; exact .base (.bl b)
  | int b => cases h; rw [int_of r]; exact .base (.int b)
  | str b => cases h; rw [str_of r]; exact .base (.str b)
  | gl u => cases h
  | tup ws =>
    cases h
    obtain ⟨q, us, rfl, hq, rs⟩ := tup_of r
    rcases hq with hq | ⟨o, its, n, hk, hc, _⟩
    · exact .base (.tup hq)
    · exact .kTuple hk hc
  | fro ws =>
    cases h
    obtain ⟨q, us, rfl, hq, rs⟩ := fro_of r
    rcases hq with ⟨o, hq⟩ | ⟨o, its, n, hk, hc, _⟩
    · exact .base (.frz hq)
    · exact .kList hk hc
  | loc n =>
    unfold tyN at h
    simp only at h
    split at h
    · rename_i ws hk
      cases h
      obtain ⟨q, us, _, rfl, hu, rs⟩ := loc_lst s r hk
      exact .base (.lst hu)
    · cases h
def isiW (l : List W) (st : Store) : Res W := match l with
  | [a, .gl (.ty n)] => match tyN st a with
    | some t => match kitB t n with
      | some b => .ok (.bl b) st
      | none => .stuck
    | none => .stuck
  | _ => .stuck
theorem isi_ok : CallOk X (rIsi X.K) isiW := fun Wx ρ H st σ l vs Q s r q => by
  unfold isiW at q
  split at q
  · rename_i a0 n0
    obtain ⟨x, y, rfl, ra, rb⟩ := vrs2 r
    have rb' : y = .ty n0 := by simpa only [VR] using rb
    subst rb'
    split at q
    · rename_i t ht
      split at q
      · rename_i b hb
        exact ⟨x, _, .type t, .type _, b, rfl, .ty _, tyN_of s ra ht, kit_ty hb, post_bl s q⟩
      · exact q.elim
    · exact q.elim
  · exact q.elim
theorem ie_ty {T : String} {nm : Str} (hg : Gl X nm) (hm : X.mg nm = none) (hv : bootBuiltins nm = some (.type T)) (hn : nm ≠ "__name__" := by decide) (hd : (nm == ("__debug__" : Str)) = false := by decide) : IE X ex Wx (.Name nm pos) (dC (.gl (.ty T))) :=
  ie_c (pe_bltn (v := .ty T) hg hm hv rfl hn hd) fun _ _ => by simp [VR]
theorem ie_isi {m : D (List W)} (hg : Gl X "isinstance") (hm : X.mg "isinstance" = none) (ha : IA X ex Wx (e :: es) m) (he : starEach (e :: es) X.env = (false, eval e X.env) :: starEach es X.env := by rfl) (hpl : (backTo pos (starEach es X.env)).any (·.1) = false := by rfl) :
    IE X ex Wx (.Call (.Name "isinstance" p) (e :: es) [] pos) (dApp isiW m) := ie_callB call_isi isi_ok hg hm (by decide +kernel) ha (by decide) (by decide) he hpl
/-- isinstance(e, (A, B)), two built-in types -/
def isi2W (A B : String) (a : W) (st : Store) : Res W := match tyN st a with
  | some t => match kitB t A, kitB t B with
    | some x, some y => .ok (.bl (x || y)) st
    | _, _ => .stuck
  | none => .stuck
theorem ie_isi2 {m : D W} {A B : String} {na nb : Str} {q1 q2 q3 : Pos} {j : Nat} (hg : Gl X "isinstance") (hm : X.mg "isinstance" = none) (ha : IE X ex Wx e m) (hga : Gl X na) (hma : X.mg na = none) (hva : bootBuiltins na = some (.type A)) (hgb : Gl X nb) (hmb : X.mg nb = none) (hvb : bootBuiltins nb = some (.type B))
    (hna : na ≠ "__name__" := by decide) (hda : (na == ("__debug__" : Str)) = false := by decide) (hnb : nb ≠ "__name__" := by decide) (hdb : (nb == ("__debug__" : Str)) = false := by decide)
    (he : starEach [e, .Tuple [.Name na q1, .Name nb q2] j q3] X.env = (false, eval e X.env) :: starEach [.Tuple [.Name na q1, .Name nb q2] j q3] X.env := by rfl) (hpl : (backTo pos (starEach [.Tuple [.Name na q1, .Name nb q2] j q3] X.env)).any (·.1) = false := by rfl) :
    IE X ex Wx (.Call (.Name "isinstance" p) [e, .Tuple [.Name na q1, .Name nb q2] j q3] [] pos) (dUn (isi2W A B) m) := by
  refine PE.of (pe_callB call_isiT hg hm (by decide +kernel) (pa_cons (es := [.Tuple [.Name na q1, .Name nb q2] j q3]) ha (pa_cons (pe_tup (pa_cons (pe_bltn (v := .ty A) hga hma hva rfl hna hda) (pa_cons (pe_bltn (v := .ty B) hgb hmb hvb rfl hnb hdb) pa_nil))) pa_nil) he) (by decide) (by decide) he hpl) fun σ H Q ⟨ρ, env, st, s, e, q⟩ => RG.bind s e q fun ρ1 H1 st1 a x g1 s1 e1 ra q1 => ?_
  refine ⟨by show 2 ≤ sizeLine; decide, fun t nt => ?_⟩
  have q2 := Post.mono q1 (grow_imm (u := .tup [.ty A, .ty B]) nt)
  have s2 := s1.grow_imm (u := .tup [.ty A, .ty B]) nt
  have r2 := VR.grow s1.apart (grow_imm (u := .tup [.ty A, .ty B]) nt) a x ra
  unfold isi2W at q2
  split at q2
  · rename_i ty hty
    split at q2
    · rename_i x1 y1 hx hy
      refine ⟨x, t, [.ty A, .ty B], .type ty, [.type A, .type B], (x1 || y1), rfl, upd_same, .cons (.ty A) (.cons (.ty B) .nil), tyN_of s2 r2 hty, ?_, post_bl s2 q2⟩
      refine kitAny_cons (kit_ty hx) (fun h => ?_) (fun h => by rw [h]; rfl)
      refine kitAny_cons (kit_ty hy) (fun h2 => ?_) (fun h2 => by rw [h2]; simp)
      rw [h, h2]; exact kitAny_nil
    · exact q2.elim
  · exact q2.elim
/-! ### methods of texts, append -/
def tyS (a : W) (_ : Store) : Bool := match a with
  | .str _ => true
  | _ => false
theorem tyS_ok : TyOk X "str" tyS := fun ρ H st a x s r h => by
  cases a with
  | str z => rw [str_of r]; exact rfl
  | _ => cases h
def tyL (a : W) (st : Store) : Bool := match a with
  | .loc n => (st[n]?).isSome
  | _ => false
theorem tyL_ok : TyOk X "list" tyL := fun ρ H st a x s r h => by
  cases a with
  | loc n =>
    unfold tyL at h
    simp only at h
    cases hk : st[n]? with
    | none => rw [hk] at h; cases h
    | some o =>
      cases o with
      | lst ws =>
        obtain ⟨q, us, _, rfl, hu, rs⟩ := loc_lst s r hk
        exact .inl ⟨rfl, us, .of hu⟩
  | _ => cases h
def strsW (st : Store) (a : W) : Option (List Str) := (seqW st a).bind fun ws => allO (ws.map stOf)
def joinW (a : W) (l : List W) (st : Store) : Res W := match a, l with
  | .str z, [b] => match strsW st b with
    | some ys => if (ys.map (·.length)).sum + ys.length * z.length ≤ 16777216 then .ok (.str (Txt.join z ys)) st else .stuck
    | none => .stuck
  | _, _ => .stuck
theorem join_ok : MtOk X (fun x xs H Q => ∃ a p, ∃ ys : List Str, x = .str a ∧ xs = [.ref p] ∧ (SqL X.K H p (ys.map V.str) ∨ SqT X.K H p (ys.map V.str)) ∧ (ys.map (·.length)).sum + ys.length * a.length ≤ 16777216 ∧ Q (.str (Txt.join a ys)) H) joinW := fun Wx ρ H st σ a l x vs Q s ra rl q => by
  unfold joinW at q
  split at q
  · obtain ⟨y, rfl, rb⟩ := vrs1 rl
    split at q
    · rename_i ys hy
      split at q
      · rename_i hz
        unfold strsW at hy
        cases hs : seqW st _ with
        | none => rw [hs] at hy; cases hy
        | some ws =>
          rw [hs] at hy
          obtain ⟨a1, us, rfl, hq, rs⟩ := seqW_of s rb hs
          have e1 := VRs.maps stOf_of rs (show allO (ws.map stOf) = some ys from hy)
          subst e1
          exact ⟨_, a1, ys, str_of ra, rfl, hq, hz, post_str s q⟩
      · exact q.elim
    · exact q.elim
  · exact q.elim
def stripW (a : W) (l : List W) (st : Store) : Res W := match a, l with
  | .str z, [.str b] => if z.length ≤ sizeLine then .ok (.str (Txt.stripChars z b)) st else .stuck
  | _, _ => .stuck
theorem strip_ok : MtOk X (fun x xs H Q => ∃ a b, x = .str a ∧ xs = [.str b] ∧ a.length ≤ sizeLine ∧ Q (.str (Txt.stripChars a b)) H) stripW := fun Wx ρ H st σ a l x vs Q s ra rl q => by
  unfold stripW at q
  split at q
  · obtain ⟨y, rfl, rb⟩ := vrs1 rl
    rw [str_of ra, str_of rb]
    split at q
    · rename_i hz; exact ⟨_, _, rfl, rfl, hz, post_str s q⟩
    · exact q.elim
  · exact q.elim
def endswithW (a : W) (l : List W) (st : Store) : Res W := match a, l with
  | .str z, [.str b] => .ok (.bl (Txt.endswith z b)) st
  | _, _ => .stuck
theorem endswith_ok : MtOk X (fun x xs H Q => ∃ a b, x = .str a ∧ xs = [.str b] ∧ Q (.bl (Txt.endswith a b)) H) endswithW := fun Wx ρ H st σ a l x vs Q s ra rl q => by
  unfold endswithW at q
  split at q
  · obtain ⟨y, rfl, rb⟩ := vrs1 rl
    rw [str_of ra, str_of rb]
    exact ⟨_, _, rfl, rfl, post_bl s q⟩
  · exact q.elim
def splitW (a : W) (l : List W) (st : Store) : Res W := match a, l with
  | .str z, [.str b] => if (b.length == 0) = false ∧ z.length + 2 ≤ sizeLine then .ok (.loc st.length) (st ++ [.lst ((Txt.split z b).map W.str)]) else .stuck
  | _, _ => .stuck
theorem VRs.ofStrs {K : PySem.W.Frag} {ρ : List Addr} {H : Hp} : ∀ (l : List Str), VRs K ρ H (l.map W.str) (l.map V.str)
  | [] => by simp [VRs]
  | x :: l => .cons' (by simp [VR]) (VRs.ofStrs l)
theorem split_ok : MtOk X (fun x xs H Q => ∃ a b, x = .str a ∧ xs = [.str b] ∧ (b.length == 0) = false ∧ a.length + 2 ≤ sizeLine ∧ rNewStrs (Txt.split a b) H Q) splitW := fun Wx ρ H st σ a l x vs Q s ra rl q => by
  unfold splitW at q
  split at q
  · obtain ⟨y, rfl, rb⟩ := vrs1 rl
    rw [str_of ra, str_of rb]
    split at q
    · rename_i hz
      exact ⟨_, _, rfl, rfl, hz.1, hz.2, post_lst s (VRs.ofStrs _) q⟩
    · exact q.elim
  · exact q.elim
def appendW (a : W) (l : List W) (st : Store) : Res W := match a, l with
  | .loc n, [w] => match st[n]? with
    | some (.lst ws) => if ws.length < sizeLine then .ok .non (st.set n (.lst (ws ++ [w]))) else .stuck
    | none => .stuck
  | _, _ => .stuck
theorem append_ok : MtOk X rAppend appendW := fun Wx ρ H st σ a l x vs Q s ra rl q => by
  unfold appendW at q
  split at q
  · rename_i n w
    obtain ⟨y, rfl, rb⟩ := vrs1 rl
    split at q
    · rename_i ws hk
      split at q
      · rename_i hz
        obtain ⟨a1, us, hn, rfl, hu, rs⟩ := loc_lst s ra hk
        have hm : a1 ∈ ρ := List.mem_of_getElem? hn
        have g : Grow ρ H ρ (upd H a1 (.lst (us ++ [y]))) := grow_write hm
        refine ⟨a1, us, y, rfl, rfl, hu, by rw [← VRs.length rs]; exact hz, ?_⟩
        exact q ρ _ _ g (s.write hn ⟨_, upd_same, (VRs.grow s.apart g ws us rs).append (.one (VR.grow s.apart g w y rb))⟩) (by simp [VR])
      · exact q.elim
    · exact q.elim
  · exact q.elim
/-! ### o[i] = v -/
def setW (o i v : W) (st : Store) : Option Store := match o, i with
  | .loc n, .int k => match st[n]? with
    | some (.lst ws) => match ixN ws.length k with
      | some j => some (st.set n (.lst (ws.set j v)))
      | none => none
    | none => none
  | _, _ => none
def tSub (mo mi : D W) : DT := fun v env st => match mo env st with
  | .ok o st1 => match mi env st1 with
    | .ok i st2 => (setW o i v st2).map fun st3 => (env, st3)
    | _ => none
  | _ => none
theorem ig_sub {vl : List Nat} {o i : Expr} {mo mi : D W} (ho : IE X ex W0 o mo) (hi : IE X ex W0 i mi)
    (ha : ∀ v, assign (.Subscript o i pos) X.env v = (do
      let ov ← holding [v] (eval o X.env)
      let iv ← holding [v, ov] (eval i X.env)
      standAt pos
      holding [v, ov, iv] (setItem ov iv v)
      release [v, ov, iv] []) := by intro _; rfl) : IG X ex vl (.Subscript o i pos) (tSub mo mi) :=
  PG.of (pg_sub ho hi set_list ha) fun v σ H Q ⟨ρ, env, st, w, s, e, rw, env', st', q, pp⟩ => by
    unfold tSub at q
    refine ⟨ρ, env, st, s, e, ?_⟩
    generalize hmo : mo env st = ro at q
    cases ro with
    | stuck => cases q
    | err c w1 st1 => cases q
    | ok ov st1 =>
      intro ρ1 H1 x g1 s1 r1
      refine ⟨ρ1, env, st1, s1, e.grow s.apart g1, ?_⟩
      simp only at q
      generalize hmi : mi env st1 = ri at q
      cases ri with
      | stuck => cases q
      | err c w1 st1 => cases q
      | ok iv st2 =>
        intro ρ2 H2 y g2 s2 r2
        simp only at q
        have r1' := VR.grow s1.apart g2 ov x r1
        have rw' := VR.grow s1.apart g2 w v (VR.grow s.apart g1 w v rw)
        unfold setW at q
        split at q
        · rename_i n k
          split at q
          · rename_i ws hk
            split at q
            · rename_i j hj
              simp only [Option.map_some, Option.some.injEq, Prod.mk.injEq] at q
              obtain ⟨rfl, rfl⟩ := q
              obtain ⟨a1, us, hn, rfl, hu, rs⟩ := loc_lst s2 r1' hk
              rw [int_of r2]
              have hm : a1 ∈ ρ2 := List.mem_of_getElem? hn
              have g3 : Grow ρ2 H2 ρ2 (upd H2 a1 (.lst (us.set j v))) := grow_write hm
              refine ⟨a1, us, k, j, rfl, rfl, hu, by rw [← VRs.length rs]; exact hj, ?_⟩
              exact pp ρ2 _ σ (g1.trans (g2.trans g3)) (s2.write hn ⟨_, upd_same, (VRs.grow s2.apart g3 ws us rs).set (VR.grow s2.apart g3 w v rw') j⟩) (((e.grow s.apart g1).grow s1.apart g2).grow s2.apart g3) rfl
            · cases q
          · cases q
        · cases q
/-! ### calls with keywords alone -/
theorem pe_callKS {sp : Sp} {E : L2.St → XK} {CX : CXT} {kws : List Keyword} {tk : TA} {ks : List Str} (F : FnOk X.prog X.w X.K X.mg X.base CX k f fd ps sp) (hr : Room k X.A) (hg : Gl X x) (hm : X.mg x = some (.ref f)) (hk : PySem.W.keepIn X.K (.ref f) = true)
    (hb : ∀ (s : Shared) (ws : List Value), X.K.In s.heap → ws.length = ps.length → BindsTo s fd ⟨[], ks.zip ws⟩ (ps.zip ws)) (hx : ∀ σ, PassesAt CX X σ (E σ)) (hkw : PK X kws tk)
    (hall : (backToKw pos (keywordEach kws X.env)).all (·.1.isSome) = true := by rfl) (hks : (backToKw pos (keywordEach kws X.env)).filterMap (·.1) = ks := by rfl) (hdb : (x == ("__debug__" : Str)) = false := by decide)
    (hpl : ((backTo pos (starEach [] X.env)).any (·.1) || (backToKw pos (keywordEach kws X.env)).any (·.1.isNone)) = false := by rfl) :
    PE X (.Call (.Name x p) [] kws pos) (tCallS sp E tk) := by
  refine ⟨fun pins s σ H Q I h => ?_⟩
  refine wpAny_Call_Name_kw (ld_glob I hg hm ?_ hdb)
  refine PySem.W.callWith_KW0 (h₀ := X.base) I.ok.mod.kin hk hall (thn (hkw.run pos pins s σ H _ I h) fun ws s1 ⟨zs, H1, I1, rz, q⟩ => ⟨I1.kIn, ?_⟩) hpl
  rw [hks]
  have hl : ws.length = ps.length := by rw [← rz.length]; exact F.len _ _ _ _ q
  refine wpAny_call (codeAny_mono (F.run X.A X.stack s1 H1 ⟨[], ks.zip ws⟩ ws zs Q (E σ) hr I1.env0 (hb s1 ws I1.kIn hl) rz q) fun r s' hq => ?_)
  cases r with
  | error e => exact hx σ pins H1 s1 e s' I1 hq
  | ok fl =>
    cases fl with
    | ret u => exact I1.after hq
    | next => exact False.elim hq
    | brk => exact False.elim hq
    | cont => exact False.elim hq
abbrev IK (X : Cx) (ex : Option Exn) (Wx : WX) (kws : List Keyword) (m : D (List W)) : Prop := PK X kws (RG X ex Wx (relVs X.K) m)
theorem PK.of {kws : List Keyword} {t t' : TA} (h : PK X kws t) (w : ∀ σ H Q, t' σ H Q → t σ H Q) : PK X kws t' := ⟨fun pos pins s σ H Q I q => h.run pos pins s σ H Q I (w _ _ _ q)⟩
theorem ik_nil : IK X ex Wx [] dNil := PK.of pk_nil fun σ H Q ⟨ρ, env, st, s, e, p⟩ => p.ok_ s (by simp [VRs])
theorem ik_cons {nm : Option Str} {kpos : Pos} {kws : List Keyword} {m : D W} {r : D (List W)} (he : IE X ex Wx e m) (hr : IK X ex Wx kws r) : IK X ex Wx (⟨nm, e, kpos⟩ :: kws) (dCons m r) :=
  PK.of (pk_cons he hr) fun σ H Q ⟨ρ, env, st, s, e, p⟩ => RG.bind s e p fun ρ1 H1 st1 a x g1 s1 e1 ra p1 => RG.bind s1 e1 p1 fun ρ2 H2 st2 l xs g2 s2 e2 rb p2 =>
    p2.ok_ s2 (VRs.cons' (VR.grow s1.apart g2 a x ra) rb)
theorem ie_callK {m : D (List W)} {kws : List Keyword} {ks : List Str} (F : FnOk X.prog X.w X.K X.mg X.base (L2.CX X.prog X.w) k f fd ps (SpM X.K X.mg n den)) (hr : Room k X.A) (hg : Gl X x) (hm : X.mg x = some (.ref f)) (hk : PySem.W.keepIn X.K (.ref f) = true)
    (hb : ∀ (s : Shared) (ws : List Value), X.K.In s.heap → ws.length = ps.length → BindsTo s fd ⟨[], ks.zip ws⟩ (ps.zip ws)) (tk : Takes X Wx) (hkw : IK X ex Wx kws m)
    (hall : (backToKw pos (keywordEach kws X.env)).all (·.1.isSome) = true := by rfl) (hks : (backToKw pos (keywordEach kws X.env)).filterMap (·.1) = ks := by rfl) (hdb : (x == ("__debug__" : Str)) = false := by decide)
    (hpl : ((backTo pos (starEach [] X.env)).any (·.1) || (backToKw pos (keywordEach kws X.env)).any (·.1.isNone)) = false := by rfl) :
    IE X ex Wx (.Call (.Name x p) [] kws pos) (dCall n den m) :=
  PE.of (pe_callKS F hr hg hm hk hb (fun σ => passAt tk σ) hkw hall hks hdb hpl) fun σ H Q ⟨ρ, env, st, s, e, p⟩ => RG.bind s e p fun ρ1 H1 st1 l vs g s1 e1 r p1 => by
    split at p1
    · rename_i hl; exact sp_of s1 r hl p1
    · exact p1.elim
end
end
end MP
namespace MP
open PySem PySem.Spec PyProof.Rows L2
open Classical
noncomputable section
/-! ### the text's defs, as a generated text names them -/
structure DefF (K : PySem.W.Frag) (mg : Str → Option Value) (x qual : Str) (st : Stmt) (ps : List Str) where
  f : Addr
  fd : FuncData
  F : Fun K x qual st f fd
  m : mg x = some (.ref f)
  b : Binds K fd ps []
structure FnF (P : Program) (w : World) (K : PySem.W.Frag) (mg : Str → Option Value) (base : Heap) (x : Str) (ps : List Str) (k n : Nat) (den : List W → Store → Res W) where
  f : Addr
  fd : FuncData
  ok : FnOk P w K mg base (L2.CX P w) k f fd ps (SpM K mg n den)
  m : mg x = some (.ref f)
  kp : PySem.W.keepIn K (.ref f) = true
  b : Binds K fd ps []
/-- an error class of the text -/
structure ErF (P : Program) (w : World) (K : PySem.W.Frag) (mg : Str → Option Value) (base : Heap) (x : Str) where
  C : Addr
  f : Addr
  fd : FuncData
  T : ErrC K mg x C f
  ok : FnOk P w K mg base (L2.CX P w) 1 f fd ["self", "value"] (spExc K)
  b : Binds K fd ["self", "value"] []
theorem fn_stuck {P : Program} {w : World} {K : PySem.W.Frag} {mg : Str → Option Value} {base : Heap} {k n : Nat} {f : Addr} {fd : FuncData} {ps : List Str} : FnOk P w K mg base (L2.CX P w) k f fd ps (SpM K mg n fun _ _ => .stuck) :=
  ⟨fun vs H Q E ⟨_, _, _, _, _, _, z⟩ => z.elim, fun A outer s H args us vs Q E hr he hb hv ⟨_, _, _, _, _, _, z⟩ => z.elim⟩
section
variable {X : Cx} {ex : Option Exn} {Wx : WX} {pos p p' pos2 : Pos} {x : Str} {e : Expr} {es : List Expr} {ps : List Str} {k j n : Nat} {den : List W → Store → Res W}
theorem ie_int {i : Int} {q : Nat} : IE X ex Wx (.Constant (.int i) q pos) (dC (.int i)) := ie_c pe_int fun _ _ => by simp [VR]
theorem ie_str {i : Str} {q : Nat} : IE X ex Wx (.Constant (.str i) q pos) (dC (.str i)) := ie_c pe_str fun _ _ => by simp [VR]
theorem ie_bl {i : Bool} {q : Nat} : IE X ex Wx (.Constant (.bool i) q pos) (dC (.bl i)) := ie_c pe_bl fun _ _ => by simp [VR]
theorem ie_non {q : Nat} : IE X ex Wx (.Constant .none q pos) (dC .non) := ie_c pe_non fun _ _ => by simp [VR]
theorem ie_gint {i : Int} {t : Tok} (hm : X.mg x = some (.int i t)) (hg : Gl X x := by rfl) (hd : (x == ("__debug__" : Str)) = false := by decide) : IE X ex Wx (.Name x pos) (dC (.int i)) := ie_c (pe_glob (v := .int i) hg hm ⟨t, rfl⟩ hd) fun _ _ => by simp [VR]
theorem ie_gstr {i : Str} {t : Tok} (hm : X.mg x = some (.str i t)) (hg : Gl X x := by rfl) (hd : (x == ("__debug__" : Str)) = false := by decide) : IE X ex Wx (.Name x pos) (dC (.str i)) := ie_c (pe_glob (v := .str i) hg hm ⟨t, rfl⟩ hd) fun _ _ => by simp [VR]
theorem ie_callF {m : D (List W)} (G : FnF X.prog X.w X.K X.mg X.base x ps j n den) (hr : Room j X.A) (tk : Takes X Wx) (ha : IA X ex Wx (e :: es) m) (hg : Gl X x := by rfl) (hdb : (x == ("__debug__" : Str)) = false := by decide)
    (he : starEach (e :: es) X.env = (false, eval e X.env) :: starEach es X.env := by rfl) (hpl : (backTo pos (starEach es X.env)).any (·.1) = false := by rfl) : IE X ex Wx (.Call (.Name x p) (e :: es) [] pos) (dCall n den m) :=
  ie_call G.ok hr hg G.m G.kp G.b tk ha hdb he hpl
theorem ie_callF0 (G : FnF X.prog X.w X.K X.mg X.base x ps j n den) (hr : Room j X.A) (tk : Takes X Wx) (hg : Gl X x := by rfl) (hdb : (x == ("__debug__" : Str)) = false := by decide) : IE X ex Wx (.Call (.Name x p) [] [] pos) (dCall n den dNil) :=
  ie_call0 G.ok hr hg G.m G.kp G.b tk hdb
theorem ie_callFK {m : D (List W)} {kws : List Keyword} {ks : List Str} (G : FnF X.prog X.w X.K X.mg X.base x ps j n den) (hr : Room j X.A) (tk : Takes X Wx)
    (hb : ∀ (s : Shared) (ws : List Value), X.K.In s.heap → ws.length = ps.length → BindsTo s G.fd ⟨[], ks.zip ws⟩ (ps.zip ws)) (hkw : IK X ex Wx kws m) (hg : Gl X x := by rfl)
    (hall : (backToKw pos (keywordEach kws X.env)).all (·.1.isSome) = true := by rfl) (hks : (backToKw pos (keywordEach kws X.env)).filterMap (·.1) = ks := by rfl) (hdb : (x == ("__debug__" : Str)) = false := by decide)
    (hpl : ((backTo pos (starEach [] X.env)).any (·.1) || (backToKw pos (keywordEach kws X.env)).any (·.1.isNone)) = false := by rfl) : IE X ex Wx (.Call (.Name x p) [] kws pos) (dCall n den m) :=
  ie_callK G.ok hr hg G.m G.kp hb tk hkw hall hks hdb hpl
theorem is_raiseF {m : D (List W)} (G : ErF X.prog X.w X.K X.mg X.base x) (hr : Room 2 X.A) (tk : Takes X Wx) (ha : IA X ex Wx [e] m) (hc : X.calm = true := by rfl) (hg : Gl X x := by rfl) (hdb : (x == ("__debug__" : Str)) = false := by decide)
    (he : starEach [e] X.env = (false, eval e X.env) :: starEach [] X.env := by rfl) (hpl : (backTo pos (starEach [] X.env)).any (·.1) = false := by rfl) : IS X ex Wx (.Raise (some (.Call (.Name x p) [e] [] pos)) none pos2) (sRaise x m) :=
  is_raise hc tk G.T G.ok hr G.b hg ha hdb he hpl
/-! methods, by their names -/
theorem ie_join {o : Expr} {apos cpos : Pos} {mo : D W} {m : D (List W)} (ho : IE X ex Wx o mo) (ha : IA X ex Wx [e] m) (hbase : attributeBase o "join" X.env (eval o X.env) = eval o X.env := by rfl)
    (hfew : ((backTo cpos (starEach [e] X.env)).all (fun x => !x.1) && (backToKw cpos (keywordEach [] X.env)).all (fun x => x.1.isSome) && decide ([e].length + ([] : List Keyword).length + (if ([] : List Keyword).isEmpty then 0 else 1) < 30)) = true := by rfl)
    (hline : (apos.endLine == cpos.line) = true := by rfl) (hs : starEach [e] X.env = (false, eval e X.env) :: starEach [] X.env := by rfl) (hp : (backTo cpos (starEach [] X.env)).any (·.1) = false := by rfl) :
    IE X ex Wx (.Call (.Attribute o "join" apos) [e] [] cpos) (dBm tyS joinW mo m) := ie_bm PySem.F.plainAttrs_str PySem.F.slot_str_join PySem.F.type_str_join mt_join join_ok tyS_ok ho ha hbase hfew hline hs hp
theorem ie_strip {o : Expr} {apos cpos : Pos} {mo : D W} {m : D (List W)} (ho : IE X ex Wx o mo) (ha : IA X ex Wx [e] m) (hbase : attributeBase o "strip" X.env (eval o X.env) = eval o X.env := by rfl)
    (hfew : ((backTo cpos (starEach [e] X.env)).all (fun x => !x.1) && (backToKw cpos (keywordEach [] X.env)).all (fun x => x.1.isSome) && decide ([e].length + ([] : List Keyword).length + (if ([] : List Keyword).isEmpty then 0 else 1) < 30)) = true := by rfl)
    (hline : (apos.endLine == cpos.line) = true := by rfl) (hs : starEach [e] X.env = (false, eval e X.env) :: starEach [] X.env := by rfl) (hp : (backTo cpos (starEach [] X.env)).any (·.1) = false := by rfl) :
    IE X ex Wx (.Call (.Attribute o "strip" apos) [e] [] cpos) (dBm tyS stripW mo m) := ie_bm PySem.F.plainAttrs_str PySem.F.slot_str_strip PySem.F.type_str_strip mt_stripChars strip_ok tyS_ok ho ha hbase hfew hline hs hp
theorem ie_endswith {o : Expr} {apos cpos : Pos} {mo : D W} {m : D (List W)} (ho : IE X ex Wx o mo) (ha : IA X ex Wx [e] m) (hbase : attributeBase o "endswith" X.env (eval o X.env) = eval o X.env := by rfl)
    (hfew : ((backTo cpos (starEach [e] X.env)).all (fun x => !x.1) && (backToKw cpos (keywordEach [] X.env)).all (fun x => x.1.isSome) && decide ([e].length + ([] : List Keyword).length + (if ([] : List Keyword).isEmpty then 0 else 1) < 30)) = true := by rfl)
    (hline : (apos.endLine == cpos.line) = true := by rfl) (hs : starEach [e] X.env = (false, eval e X.env) :: starEach [] X.env := by rfl) (hp : (backTo cpos (starEach [] X.env)).any (·.1) = false := by rfl) :
    IE X ex Wx (.Call (.Attribute o "endswith" apos) [e] [] cpos) (dBm tyS endswithW mo m) := ie_bm PySem.F.plainAttrs_str PySem.F.slot_str_endswith PySem.F.type_str_endswith mt_endswith endswith_ok tyS_ok ho ha hbase hfew hline hs hp
theorem ie_split {o : Expr} {apos cpos : Pos} {mo : D W} {m : D (List W)} (ho : IE X ex Wx o mo) (ha : IA X ex Wx [e] m) (hbase : attributeBase o "split" X.env (eval o X.env) = eval o X.env := by rfl)
    (hfew : ((backTo cpos (starEach [e] X.env)).all (fun x => !x.1) && (backToKw cpos (keywordEach [] X.env)).all (fun x => x.1.isSome) && decide ([e].length + ([] : List Keyword).length + (if ([] : List Keyword).isEmpty then 0 else 1) < 30)) = true := by rfl)
    (hline : (apos.endLine == cpos.line) = true := by rfl) (hs : starEach [e] X.env = (false, eval e X.env) :: starEach [] X.env := by rfl) (hp : (backTo cpos (starEach [] X.env)).any (·.1) = false := by rfl) :
    IE X ex Wx (.Call (.Attribute o "split" apos) [e] [] cpos) (dBm tyS splitW mo m) := ie_bm PySem.F.plainAttrs_str PySem.F.slot_str_split PySem.F.type_str_split mt_split split_ok tyS_ok ho ha hbase hfew hline hs hp
theorem ie_append {o : Expr} {apos cpos : Pos} {mo : D W} {m : D (List W)} (ho : IE X ex Wx o mo) (ha : IA X ex Wx [e] m) (hbase : attributeBase o "append" X.env (eval o X.env) = eval o X.env := by rfl)
    (hfew : ((backTo cpos (starEach [e] X.env)).all (fun x => !x.1) && (backToKw cpos (keywordEach [] X.env)).all (fun x => x.1.isSome) && decide ([e].length + ([] : List Keyword).length + (if ([] : List Keyword).isEmpty then 0 else 1) < 30)) = true := by rfl)
    (hline : (apos.endLine == cpos.line) = true := by rfl) (hs : starEach [e] X.env = (false, eval e X.env) :: starEach [] X.env := by rfl) (hp : (backTo cpos (starEach [] X.env)).any (·.1) = false := by rfl) :
    IE X ex Wx (.Call (.Attribute o "append" apos) [e] [] cpos) (dBm tyL appendW mo m) := ie_bm PySem.F.plainAttrs_list PySem.F.slot_list_append PySem.F.type_list_append mt_append append_ok tyL_ok ho ha hbase hfew hline hs hp
/-! xs[::-1] of a list -/
def revW (a : W) (st : Store) : Res W := match lstW st a with
  | some ws => .ok (.loc st.length) (st ++ [.lst ws.reverse])
  | none => .stuck
theorem ie_rev {m : D W} {kk : Nat} {p1 p2 p3 : Pos} (he : IE X ex Wx e m) : IE X ex Wx (.Subscript e (.Slice none none (some (.UnaryOp .USub (.Constant (.int 1) kk p1) p2)) p3) pos) (dUn revW m) :=
  PE.of (pe_revL he) fun σ H Q ⟨ρ, env, st, s, e, q⟩ => RG.bind s e q fun ρ1 H1 st1 a x g1 s1 e1 ra q1 => by
    unfold revW at q1
    split at q1
    · rename_i ws hs
      obtain ⟨q2, us, rfl, hq, rs⟩ := lstW_of s1 ra hs
      exact ⟨q2, us, rfl, hq, post_lst s1 rs.reverse q1⟩
    · exact q1.elim
/-! isinstance of the error that a suite holds -/
/-- what is asked of an error's class for that -/
structure ExcI (K : PySem.W.Frag) (C : Addr) : Prop where
  hc : (PySem.W.clsIn K C).isSome = true
  ha : PySem.W.findIn K (.ref C) "__class__" = some (some (.builtin "object.__class__"))
  hn : PySem.W.specialIn K (.builtin "object.__class__") "__get__" = some (some (.builtin "getset_descriptor.__get__"))
  ht : PySem.W.takesIn K (.builtin "object.__class__") = some true
  hm : PySem.W.mroIn K C (.type "object") = some true
theorem call_isExc {X : Cx} {a C dd : Addr} {oe : Obj} {pn : List (Addr × Obj)} {cv : Value} {b : Bool} (T : ExcI X.K C) (xf : XfC X.K C) (hz : Zc (.ref C) (some dd) oe) (hf : ∃ vs, oe.data = .fields vs) (hk : PySem.W.kitOne X.K (.ref C) cv = some b) :
    CallR (X.suite a ((a, oe) :: pn)) (.builtin "isinstance") (fun xs H Q => ∃ (c : V) (o : List (Str × V)), xs = [.ref a, c] ∧ (∀ u, RelV c u → u = cv) ∧ H dd = some (.xd o) ∧ Q (.bl b) H) := by
  intro pins s σ H xs us Q I r h
  obtain ⟨c, o, rfl, hcv, hdd, q⟩ := h
  obtain ⟨u1, u2, rfl, rx, rt⟩ := vals2 r
  cases rx
  have ec := hcv _ rt
  subst ec
  obtain ⟨hget, _⟩ := I.pin (a, oe) (List.mem_append.mpr (.inl List.mem_cons_self))
  obtain ⟨vs, hv⟩ := hf
  obtain ⟨mA, ⟨od, es, ep, hod, _⟩, _⟩ := I.hok dd _ hdd
  have J : PySem.W.InstAt s.heap a oe C (some od) := by
    obtain ⟨oc, odd, oda, osl⟩ := oe
    obtain ⟨h1, h2⟩ := hz
    dsimp only at h1 h2 hv
    subst h1 h2 hv
    exact ⟨hget, rfl, rfl, hod⟩
  exact PySem.W.kia_one (PySem.W.kitx_exc T.hc xf.ga xf.gg xf.exC T.ha T.hn T.ht T.hm) I.kIn J hk (fun z => nomatch z) fun tk => ⟨.bl b, H, I.kept (t' := tk) fun _ _ z => z, rfl, q⟩
def dIsExc (l : List (Str × Bool)) (c : Str) : D W := fun _ st => match l.lookup c with
  | some b => .ok (.bl b) st
  | none => .stuck
theorem lookup_ok {cv : Value} : ∀ {l : List (Str × Bool)}, (∀ q ∈ l, ∃ C, X.mg q.1 = some (.ref C) ∧ ExcI X.K C ∧ PySem.W.kitOne X.K (.ref C) cv = some q.2) → ∀ {c : Str} {b : Bool} {C : Addr}, l.lookup c = some b → X.mg c = some (.ref C) → ExcI X.K C ∧ PySem.W.kitOne X.K (.ref C) cv = some b
  | [], _, c, b, C, h, _ => by simp at h
  | (x, v) :: l, hl, c, b, C, h, hC => by
    rw [List.lookup_cons] at h
    split at h
    · rename_i hc
      cases h
      have : c = x := by simpa using hc
      subst this
      obtain ⟨C', m, e⟩ := hl _ List.mem_cons_self
      have m' : X.mg c = some (.ref C') := m
      rw [hC] at m'; cases m'
      exact e
    · exact lookup_ok (fun q m => hl q (List.mem_cons_of_mem _ m)) h hC
theorem ie_isExc {l : List (Str × Bool)} {a C dd : Addr} {y : V} {w : W} {i : Nat} {oe : Obj} {pn : List (Addr × Obj)} {n cn cN : Str} {q1 q2 : Pos} {cv : Value} {v : V} {sub : Str → Option Bool} (hg : Gl X "isinstance") (hm : X.mg "isinstance" = none) (xf : XfC X.K C)
    (hl : ∀ q ∈ l, ∃ C, X.mg q.1 = some (.ref C) ∧ ExcI X.K C ∧ PySem.W.kitOne X.K (.ref C) cv = some q.2) (hmN : X.mg cN = some (.ref C)) (hsN : sub cN = some true) (hz : Zc (.ref C) (some dd) oe) (hf : ∃ vs, oe.data = .fields vs)
    (hN : X.N[i]? = some n) (hv : Vis X.env.scope n) (ht : PE (X.suite a ((a, oe) :: pn)) (.Name cn q2) (tC v)) (hcv : ∀ u, RelV v u → u = cv) (hd : (n == ("__debug__" : Str)) = false := by decide) (hcd : (n == ("__classdict__" : Str)) = false := by decide)
    (he : starEach [.Name n q1, .Name cn q2] X.env = (false, eval (.Name n q1) X.env) :: starEach [.Name cn q2] X.env := by rfl) (he2 : starEach [.Name cn q2] X.env = (false, eval (.Name cn q2) X.env) :: starEach [] X.env := by rfl) (hpl : (backTo pos (starEach [.Name cn q2] X.env)).any (·.1) = false := by rfl) :
    IE (X.suite a ((a, oe) :: pn)) (some ⟨i, a, dd, y, w⟩) Wx (.Call (.Name "isinstance" p) [.Name n q1, .Name cn q2] [] pos) (dIsExc l cN) := by
  cases hlk : l.lookup cN with
  | none =>
    refine ⟨fun pins s σ H Q I h => ?_⟩
    obtain ⟨ρ, env, st, s1, e, q⟩ := h
    unfold dIsExc at q
    rw [hlk] at q
    exact q.elim
  | some b =>
    obtain ⟨T, hk⟩ := lookup_ok hl hlk hmN
    refine PE.of (pe_callB (call_isExc T xf hz hf hk) hg hm (by decide +kernel) (pa_cons (es := [.Name cn q2]) (pe_var (i := i) hN hv hd hcd) (pa_cons ht pa_nil he2) he) (by decide) (by decide) he hpl) fun σ H Q ⟨ρ, env, st, s, e, q⟩ => ?_
    obtain ⟨h1, h2, h3, h4⟩ := e.exc _ rfl
    unfold dIsExc at q
    rw [hlk] at q
    exact ⟨.ref a, h1, v, _, rfl, hcv, h2, post_bl (X := X) s q⟩
/-! which errors a clause takes, by a list -/
def subL (l : List (Str × Bool)) : Str → Option Bool := fun c => l.lookup c
theorem subL_ok {cv : Value} : ∀ {l : List (Str × Bool)}, (∀ q ∈ l, ∃ C, X.mg q.1 = some (.ref C) ∧ PySem.W.exmOne X.K (.ref C) cv = some q.2 ∧ XfC X.K C ∧ PySem.W.findIn X.K (.ref C) ("value" : Str) = some none) → SubOk X cv (subL l)
  | [], _, c, b, h => by simp [subL] at h
  | (x, v) :: l, hl, c, b, h => by
    unfold subL at h
    rw [List.lookup_cons] at h
    split at h
    · rename_i hc
      cases h
      intro C hC
      have : c = x := by simpa using hc
      subst this
      obtain ⟨C', m, e, xf, nv⟩ := hl _ List.mem_cons_self
      have m' : X.mg c = some (.ref C') := m
      rw [hC] at m'; cases m'
      exact ⟨e, fun _ => ⟨xf, nv⟩⟩
    · exact subL_ok (fun q m => hl q (List.mem_cons_of_mem _ m)) c b h
/-! name op= e -/
def sAug (i : Nat) (f : W → W → Store → Res W) (m : D W) : DS := fun env st => match env[i]? with
  | some (some a) => (m env st).then env fun b st1 => (f a b st1).then env fun c st2 => .go .nx (env.set i (some c)) st2
  | _ => .stuck
def addI (a b : W) (st : Store) : Res W := match a, b with
  | .int i, .int j => .ok (.int (i + j)) st
  | _, _ => .stuck
theorem is_augAdd {i : Nat} {e : Expr} {m : D W} (hN : X.N.Nodup) (hi : X.N[i]? = some x) (hx : Loc X.env.scope x) (he : IE X none Wx e m) (hf : X.fn x = true ∨ X.env.scope.names.lookup x = some .local := by first | exact .inl rfl | exact .inr rfl | assumption) :
    IS X none Wx (.AugAssign (.Name x p') .Add e pos) (sAug i addI m) :=
  PS.of (ps_aug hN hi hx he ip_add hf) fun De σ H ⟨ρ, env, st, s, en, q⟩ => by
    unfold sAug at q
    split at q
    · rename_i a ha
      obtain ⟨v, h1, h2⟩ := en.at_ i a ha
      refine ⟨v, h1, RS.step (rel := relV X.K) s en q fun ρ1 H1 st1 b y g s1 e1 r q1 => ?_⟩
      have h3 := VR.grow s.apart g a v h2
      unfold addI at q1
      split at q1
      · rw [int_of h3, int_of r]
        exact ⟨_, _, rfl, rfl, PostS.go_ (f := .nx) q1 s1 (e1.set .none (by simp [VR]))⟩
      · exact q1.elim
    · exact q.elim
end
/-! ### classes, from what the head finds -/
theorem cls_some {K : PySem.W.Frag} {C : Addr} (h : PySem.W.hasDictIn K C = true) : (PySem.W.clsIn K C).isSome = true := by
  obtain ⟨cd, hc, _⟩ := PySem.W.any_some h
  rw [hc]; rfl
theorem kit_ref {K : PySem.W.Frag} {C D : Addr} {b : Bool} (hd : PySem.W.hasDictIn K C = true) (ht : PySem.W.typeIn K (.ref C) = some (.type "type")) (hs : PySem.W.subIn K (.ref C) (.ref C) = some true) (h : PySem.W.subIn K (.ref D) (.ref C) = some b) : PySem.W.kitOne K (.ref D) (.ref C) = some b := by
  have e2 : ((PySem.W.clsIn K C).isSome && PySem.W.typeIn K (.ref C) == some (.type "type")) = true := by rw [cls_some hd, ht]; rfl
  show (if (Value.ref D == Value.ref C) = true then some true else if ((PySem.W.clsIn K C).isSome && PySem.W.typeIn K (.ref C) == some (.type "type")) = true then PySem.W.subIn K (.ref D) (.ref C) else none) = some b
  rw [if_pos e2]
  by_cases e : (Value.ref D == Value.ref C) = true
  · rw [if_pos e]
    have e' : D = C := Value.ref.inj (beq_iff_eq.mp e)
    subst e'
    rw [hs] at h
    exact h
  · rw [if_neg e]; exact h
theorem kit_type {K : PySem.W.Frag} {D : Addr} {T : String} {b : Bool} (hm : PySem.W.kitMeta T = true) (h : PySem.W.subIn K (.ref D) (.type T) = some b) : PySem.W.kitOne K (.ref D) (.type T) = some b := by
  show (if (Value.ref D == Value.type T) = true then some true else if PySem.W.kitMeta T = true then PySem.W.subIn K (.ref D) (.type T) else none) = some b
  rw [if_neg (by intro z; cases z), if_pos hm]
  exact h
/-! ### what holds of each entry of a written list -/
def allP {α : Type} (p : α → Prop) : List α → Prop
  | [] => True
  | a :: l => p a ∧ allP p l
theorem mem_all {α : Type} {p : α → Prop} : ∀ {l : List α}, allP p l → ∀ q ∈ l, p q
  | [], _, _, h => nomatch h
  | a :: l, h, q, m => by
    rcases List.mem_cons.mp m with rfl | m
    · exact h.1
    · exact mem_all h.2 q m
/-! ### the law's own end -/
/-- what the law promises at the head -/
def spLaw (K : PySem.W.Frag) : Sp := fun vs H Q _ => ∃ (a : Addr) (ns : List Int), vs = [.ref a] ∧ Only H ∧ SqL K H a (ns.map V.int) ∧ ns.length ≤ 63 ∧ (∀ z ∈ ns, Builtin.Int.intBits z ≤ 1048576) ∧ ∀ H', Q (.bl true) H'
theorem VRs.ofInts {K : PySem.W.Frag} {ρ : List Addr} {H : Hp} : ∀ (l : List Int), VRs K ρ H (l.map W.int) (l.map V.int)
  | [] => by simp [VRs]
  | x :: l => .cons' (by simp [VR]) (VRs.ofInts l)
theorem law_end {P : Program} {w : World} {K : PySem.W.Frag} {mg : Str → Option Value} {base : Heap} {k : Nat} {x s : Str} {den : List W → Store → Res W} (G : FnF P w K mg base x [s] k 1 den)
    (h : ∀ ns : List Int, ns.length ≤ 63 → (∀ z ∈ ns, Builtin.Int.intBits z ≤ 1048576) → den [.fro (ns.map W.int)] [] = .ok (.bl true) []) :
    FnOk P w K mg base (L2.CX P w) k G.f G.fd [s] (spLaw K) := by
  refine ⟨fun vs H Q E hs => ?_, fun A outer st H args us vs Q E hr e0 hb r hs => ?_⟩
  · obtain ⟨a, ns, rfl, _⟩ := hs; rfl
  · obtain ⟨a, ns, rfl, hO, hS, hl, hbits, q⟩ := hs
    refine G.ok.run A outer st H args us [.ref a] Q E hr e0 hb r ?_
    have hf : SqF K H a (ns.map V.int) := by
      rcases hS with (hS | ⟨o, hS⟩) | hS
      · rcases hO a with z | ⟨o, xs, z⟩
        · rw [z] at hS; cases hS
        · rw [z] at hS; cases hS
      · exact .inl ⟨o, hS⟩
      · exact .inr hS
    refine ⟨[], [.fro (ns.map W.int)], [], ⟨rfl, List.nodup_nil, fun n o e => by simp at e⟩, ?_, rfl, ?_⟩
    · refine .one ?_
      simp only [VR]
      exact ⟨a, _, rfl, hf, VRs.ofInts ns⟩
    · rw [h ns hl hbits]
      intro ρ' H' v g s' rv
      have : v = .bl true := by simpa only [relV, VR] using rv
      subst this
      exact q H'
end
end MP
namespace MP
open PySem PySem.Spec PyProof.Rows L2
open Classical
noncomputable section
/-! ### how a denotation is worked out: each step by its own row, what comes later stays folded -/
def kOp1 (f : W → W → Store → Res W) (mb : D W) (env : EnvW) (a : W) (st : Store) : Res W := (mb env st).bind (f a)
def kIf (ma mb : D W) (env : EnvW) (b : Bool) (st : Store) : Res W := if b = true then ma env st else mb env st
def kCons1 (r : D (List W)) (env : EnvW) (a : W) (st : Store) : Res (List W) := (r env st).bind fun l st2 => .ok (a :: l) st2
def kTup (l : List W) (st : Store) : Res W := if l.length ≤ sizeLine then .ok (.tup l) st else .stuck
def kLst (l : List W) (st : Store) : Res W := if l.length ≤ sizeLine then .ok (.loc st.length) (st ++ [.lst l]) else .stuck
def kBool (a : W) (st : Store) : Res Bool := match a with
  | .bl b => .ok b st
  | _ => .stuck
def kAnd (b : D Bool) (env : EnvW) (c : Bool) (st : Store) : Res Bool := if c = true then b env st else .ok false st
def kOr (b : D Bool) (env : EnvW) (c : Bool) (st : Store) : Res Bool := if c = true then .ok true st else b env st
def kNot (c : Bool) (st : Store) : Res Bool := .ok (!c) st
def kAndV (b : D W) (env : EnvW) (x : W) (st : Store) : Res W := match x with
  | .bl c => if c = true then b env st else .ok (.bl false) st
  | _ => .stuck
def kOrV (b : D W) (env : EnvW) (x : W) (st : Store) : Res W := match x with
  | .bl c => if c = true then .ok (.bl true) st else b env st
  | _ => .stuck
def kNotV (x : W) (st : Store) : Res W := match x with
  | .bl c => .ok (.bl (!c)) st
  | _ => .stuck
def kCh1 (f g : W → W → Store → Res W) (mb mc : D W) (env : EnvW) (a : W) (st : Store) : Res W := (mb env st).bind fun b st2 => (f a b st2).bind fun x st3 => match x with
  | .bl true => (mc env st3).bind fun c st4 => g b c st4
  | .bl false => .ok (.bl false) st3
  | _ => .stuck
def kCall (n : Nat) (den : List W → Store → Res W) (l : List W) (st : Store) : Res W := if l.length = n then den l st else .stuck
def kBm (ty : W → Store → Bool) (g : W → List W → Store → Res W) (m : D (List W)) (env : EnvW) (a : W) (st : Store) : Res W := if ty a st = true then (m env st).bind (g a) else .stuck
def kSl1 (lo hi : D (Option Int)) (env : EnvW) (a : W) (st : Store) : Res W := (lo env st).bind fun l st2 => (hi env st2).bind fun h st3 => slW a l h st3
def kPart (a : W) (st : Store) : Res (Option Int) := match a with
  | .int i => .ok (some i) st
  | _ => .stuck
def kLc (env : EnvW) (t : DT) (c : D Bool) (e : D W) (it : ItW) (st : Store) : Res W := match lcW it.Chk env t c e it.items [] st with
  | some (acc, st2) => .ok (.loc st2.length) (st2 ++ [.lst acc])
  | none => .stuck
def kR1 (l : List W) (st : Store) : Res ItW := match l with
  | [.int j] => rangeW 0 j st
  | _ => .stuck
def kR2 (l : List W) (st : Store) : Res ItW := match l with
  | [.int i, .int j] => rangeW i j st
  | _ => .stuck
section
variable {α β : Type} {f g : W → W → Store → Res W} {ma mb mc : D W} {r : D (List W)} {env : EnvW} {st st1 : Store} {a b : W}
@[simp] theorem dC_ap (w : W) : dC w env st = .ok w st := rfl
@[simp] theorem dExc_ap (w : W) : dExc w env st = .ok w st := rfl
@[simp] theorem dVar_ap (i : Nat) : dVar i env st = (match env[i]? with | some (some w) => .ok w st | _ => .stuck) := rfl
@[simp] theorem dOp_ap : dOp f ma mb env st = (ma env st).bind (kOp1 f mb env) := rfl
@[simp] theorem kOp1_ap : kOp1 f mb env a st = (mb env st).bind (f a) := rfl
@[simp] theorem dUn_ap (u : W → Store → Res W) : dUn u ma env st = (ma env st).bind u := rfl
@[simp] theorem dIf_ap (c : D Bool) : dIf c ma mb env st = (c env st).bind (kIf ma mb env) := rfl
@[simp] theorem kIf_t : kIf ma mb env true st = ma env st := rfl
@[simp] theorem kIf_f : kIf ma mb env false st = mb env st := rfl
@[simp] theorem dNil_ap : dNil env st = .ok [] st := rfl
@[simp] theorem dCons_ap : dCons ma r env st = (ma env st).bind (kCons1 r env) := rfl
def kCons2 (a : W) (l : List W) (st : Store) : Res (List W) := .ok (a :: l) st
@[simp] theorem kCons1_ap : kCons1 r env a st = (r env st).bind (kCons2 a) := rfl
@[simp] theorem kCons2_ap (l : List W) : kCons2 a l st = .ok (a :: l) st := rfl
@[simp] theorem dTup_ap : dTup r env st = (r env st).bind kTup := rfl
@[simp] theorem dLst_ap : dLst r env st = (r env st).bind kLst := rfl
theorem kTup_ok {l : List W} (h : l.length ≤ sizeLine) : kTup l st = .ok (.tup l) st := if_pos h
theorem kLst_ok {l : List W} (h : l.length ≤ sizeLine) : kLst l st = .ok (.loc st.length) (st ++ [.lst l]) := if_pos h
@[simp] theorem dApp_ap (m : List W → Store → Res W) : dApp m r env st = (r env st).bind m := rfl
@[simp] theorem dBool_ap : dBool ma env st = (ma env st).bind kBool := rfl
@[simp] theorem kBool_ap (c : Bool) : kBool (.bl c) st = .ok c st := rfl
@[simp] theorem dAnd_ap (x y : D Bool) : dAnd x y env st = (x env st).bind (kAnd y env) := rfl
@[simp] theorem kAnd_t (y : D Bool) : kAnd y env true st = y env st := rfl
@[simp] theorem kAnd_f (y : D Bool) : kAnd y env false st = .ok false st := rfl
@[simp] theorem dOr_ap (x y : D Bool) : dOr x y env st = (x env st).bind (kOr y env) := rfl
@[simp] theorem kOr_t (y : D Bool) : kOr y env true st = .ok true st := rfl
@[simp] theorem kOr_f (y : D Bool) : kOr y env false st = y env st := rfl
@[simp] theorem dNot_ap (x : D Bool) : dNot x env st = (x env st).bind kNot := rfl
@[simp] theorem kNot_ap (c : Bool) : kNot c st = .ok (!c) st := rfl
@[simp] theorem dAndV_ap : dAndV ma mb env st = (ma env st).bind (kAndV mb env) := rfl
@[simp] theorem kAndV_t : kAndV mb env (.bl true) st = mb env st := rfl
@[simp] theorem kAndV_f : kAndV mb env (.bl false) st = .ok (.bl false) st := rfl
@[simp] theorem dOrV_ap : dOrV ma mb env st = (ma env st).bind (kOrV mb env) := rfl
@[simp] theorem kOrV_t : kOrV mb env (.bl true) st = .ok (.bl true) st := rfl
@[simp] theorem kOrV_f : kOrV mb env (.bl false) st = mb env st := rfl
@[simp] theorem dNotV_ap : dNotV ma env st = (ma env st).bind kNotV := rfl
@[simp] theorem kNotV_ap (c : Bool) : kNotV (.bl c) st = .ok (.bl (!c)) st := rfl
@[simp] theorem dChain_ap : dChain f g ma mb mc env st = (ma env st).bind (kCh1 f g mb mc env) := rfl
def kCh2 (f g : W → W → Store → Res W) (mc : D W) (env : EnvW) (a b : W) (st : Store) : Res W := (f a b st).bind fun x st3 => match x with
  | .bl true => (mc env st3).bind fun c st4 => g b c st4
  | .bl false => .ok (.bl false) st3
  | _ => .stuck
def kCh3 (g : W → W → Store → Res W) (mc : D W) (env : EnvW) (b x : W) (st3 : Store) : Res W := match x with
  | .bl true => (mc env st3).bind fun c st4 => g b c st4
  | .bl false => .ok (.bl false) st3
  | _ => .stuck
@[simp] theorem kCh1_ap : kCh1 f g mb mc env a st = (mb env st).bind (kCh2 f g mc env a) := rfl
@[simp] theorem kCh2_ap : kCh2 f g mc env a b st = (f a b st).bind (kCh3 g mc env b) := rfl
@[simp] theorem kCh3_t : kCh3 g mc env b (.bl true) st = (mc env st).bind (g b) := rfl
@[simp] theorem kCh3_f : kCh3 g mc env b (.bl false) st = .ok (.bl false) st := rfl
@[simp] theorem dCall_ap (n : Nat) (den : List W → Store → Res W) : dCall n den r env st = (r env st).bind (kCall n den) := rfl
@[simp] theorem kCall_1 (den : List W → Store → Res W) : kCall 1 den [a] st = den [a] st := rfl
@[simp] theorem kCall_2 (den : List W → Store → Res W) : kCall 2 den [a, b] st = den [a, b] st := rfl
@[simp] theorem dBm_ap (ty : W → Store → Bool) (m : W → List W → Store → Res W) : dBm ty m ma r env st = (ma env st).bind (kBm ty m r env) := rfl
@[simp] theorem kBm_s (m : W → List W → Store → Res W) (x : Str) : kBm tyS m r env (.str x) st = (r env st).bind (m (.str x)) := rfl
theorem kBm_l (m : W → List W → Store → Res W) {n : Nat} {ws : List W} (h : st[n]? = some (.lst ws)) : kBm tyL m r env (.loc n) st = (r env st).bind (m (.loc n)) := by
  unfold kBm tyL; simp only [h, Option.isSome_some, if_true]
@[simp] theorem dSl_ap (lo hi : D (Option Int)) : dSl ma lo hi env st = (ma env st).bind (kSl1 lo hi env) := rfl
def kSl2 (hi : D (Option Int)) (env : EnvW) (a : W) (l : Option Int) (st : Store) : Res W := (hi env st).bind fun h st3 => slW a l h st3
@[simp] theorem kSl1_ap (lo hi : D (Option Int)) : kSl1 lo hi env a st = (lo env st).bind (kSl2 hi env a) := rfl
@[simp] theorem kSl2_ap (hi : D (Option Int)) (l : Option Int) : kSl2 hi env a l st = (hi env st).bind (slW a l) := rfl
@[simp] theorem dNoPart_ap : dNoPart env st = .ok none st := rfl
@[simp] theorem dPart_ap : dPart ma env st = (ma env st).bind kPart := rfl
@[simp] theorem kPart_ap (i : Int) : kPart (.int i) st = .ok (some i) st := rfl
@[simp] theorem dIt_ap : dIt ma env st = (ma env st).bind itOf := rfl
@[simp] theorem dLc_ap (m : D ItW) (vs : List Nat) (t : DT) (c : D Bool) (e : D W) : dLc m vs t c e env st = (m env st).bind (kLc (wipeW env vs) t c e) := rfl
@[simp] theorem dRange1_ap : dRange1 r env st = (r env st).bind kR1 := by
  unfold dRange1 dRange
  dsimp only
  cases h : r env st with
  | ok l st1 =>
    simp only [Res.bind_ok]
    unfold kR1
    split
    · rfl
    · rename_i hx
      simp only [Res.bind_stuck]
      try (split; · exact (hx _ rfl).elim; · rfl)
  | err => rfl
  | stuck => rfl
@[simp] theorem dRange2_ap : dRange2 r env st = (r env st).bind kR2 := by
  unfold dRange2 dRange
  dsimp only
  cases h : r env st with
  | ok l st1 =>
    simp only [Res.bind_ok]
    unfold kR2
    split
    · rfl
    · rename_i hx
      simp only [Res.bind_stuck]
      try (split; · exact (hx _ _ rfl).elim; · rfl)
  | err => rfl
  | stuck => rfl
theorem kR1_ok {j : Int} (h : -(2 ^ 62) ≤ j) (h' : j < 2 ^ 62) : kR1 [.int j] st = .ok ⟨intsW 0 j.toNat, none⟩ st := by
  show rangeW 0 j st = _
  unfold rangeW
  rw [if_pos ⟨by decide, by decide, h, h'⟩, Int.sub_zero]
theorem kR2_ok {i j : Int} (h0 : 0 ≤ i) (h1 : i < 2 ^ 62) (h : 0 ≤ j) (h' : j < 2 ^ 62) : kR2 [.int i, .int j] st = .ok ⟨intsW i (j - i).toNat, none⟩ st := by
  show rangeW i j st = _
  unfold rangeW
  rw [if_pos ⟨by omega, h1, by omega, h'⟩]
@[simp] theorem itOf_tup (ws : List W) : itOf (.tup ws) st = .ok ⟨ws, none⟩ st := rfl
@[simp] theorem itOf_fro (ws : List W) : itOf (.fro ws) st = .ok ⟨ws, none⟩ st := rfl
@[simp] theorem itOf_str (x : Str) : itOf (.str x) st = .ok ⟨signs x, none⟩ st := rfl
theorem itOf_loc {n : Nat} {ws : List W} (h : st[n]? = some (.lst ws)) : itOf (.loc n) st = .ok ⟨ws, some n⟩ st := by
  unfold itOf; simp only [h]
end
/-! statements -/
def kExpr (env : EnvW) (_ : W) (st : Store) : RsS := .go .nx env st
def kRet (env : EnvW) (a : W) (st : Store) : RsS := .go (.rt a) env st
def kSIf (a b : DS) (env : EnvW) (k : Bool) (st : Store) : RsS := if k = true then a env st else b env st
def kAsg (t : DT) (env : EnvW) (a : W) (st : Store) : RsS := match t a env st with
  | some (env', st2) => .go .nx env' st2
  | none => .stuck
def kFor (t : DT) (b : DS) (env : EnvW) (it : ItW) (st : Store) : RsS := forW it.Chk t b it.items env st
def kRaise (x : Str) (env : EnvW) (l : List W) (st : Store) : RsS := match l with
  | [w] => .err x w env st
  | _ => .stuck
def kTry (i : Nat) (sub : Str → Option Bool) (su : Str → W → DS) : RsS → RsS
  | .err c w env1 st1 => match sub c with
    | some true => if i < env1.length then unAt i (su c w (env1.set i none) st1) else .stuck
    | some false => .err c w env1 st1
    | none => .stuck
  | r => r
section
variable {env : EnvW} {st st1 : Store} {m : D W} {a b : DS}
@[simp] theorem sSeq_ap : sSeq a b env st = (a env st).next b := rfl
@[simp] theorem RsS.next_er (c : Str) (w : W) (k) : (RsS.err c w env st).next k = .err c w env st := rfl
@[simp] theorem sNil_ap : sNil env st = .go .nx env st := rfl
@[simp] theorem sExpr_ap : sExpr m env st = (m env st).then env (kExpr env) := rfl
@[simp] theorem kExpr_ap (w : W) : kExpr env w st = .go .nx env st := rfl
@[simp] theorem sRet_ap : sRet m env st = (m env st).then env (kRet env) := rfl
@[simp] theorem kRet_ap (w : W) : kRet env w st = .go (.rt w) env st := rfl
@[simp] theorem sIf_ap (c : D Bool) : sIf c a b env st = (c env st).then env (kSIf a b env) := rfl
@[simp] theorem kSIf_t : kSIf a b env true st = a env st := rfl
@[simp] theorem kSIf_f : kSIf a b env false st = b env st := rfl
@[simp] theorem sAsg_ap (t : DT) : sAsg m t env st = (m env st).then env (kAsg t env) := rfl
@[simp] theorem kAsg_n (i : Nat) (w : W) : kAsg (tName i) env w st = .go .nx (env.set i (some w)) st := rfl
@[simp] theorem tName_ap (i : Nat) (w : W) : tName i w env st = some (env.set i (some w), st) := rfl
@[simp] theorem sFor_ap (m : D ItW) (t : DT) : sFor m t b env st = (m env st).then env (kFor t b env) := rfl
@[simp] theorem sRaise_ap (x : Str) (m : D (List W)) : sRaise x m env st = (m env st).then env (kRaise x env) := rfl
@[simp] theorem kRaise_ap (x : Str) (w : W) : kRaise x env [w] st = .err x w env st := rfl
@[simp] theorem sTryAs_ap (i : Nat) (sub : Str → Option Bool) (su : Str → W → DS) : sTryAs i b sub su env st = kTry i sub su (b env st) := by
  unfold sTryAs kTry
  cases b env st <;> rfl
@[simp] theorem kTry_go (i : Nat) (sub : Str → Option Bool) (su : Str → W → DS) (f : Fl) : kTry i sub su (.go f env st) = .go f env st := rfl
theorem kTry_err {i : Nat} {sub : Str → Option Bool} {su : Str → W → DS} {c : Str} {w : W} (h : sub c = some true) (hi : i < env.length) : kTry i sub su (.err c w env st) = unAt i (su c w (env.set i none) st) := by
  unfold kTry; simp only [h, if_pos hi]
@[simp] theorem unAt_go (i : Nat) (f : Fl) : unAt i (.go f env st) = .go f (env.set i none) st := rfl
/-! a def's end -/
def fnR (st0 : Store) : RsS → Res W
  | .go (.rt v) _ st' => gc st0 v st'
  | .go .nx _ st' => gc st0 .non st'
  | .err c w _ st' => .err c w st'
  | _ => .stuck
theorem fnDen_ap (k : Nat) (ws : List W) : fnDen k b ws st = fnR st (b (ws.map some ++ List.replicate (k - ws.length) none) st) := by
  unfold fnDen fnR
  split <;> rename_i h <;> simp only [h]
@[simp] theorem fnR_rt (v : W) : fnR st1 (.go (.rt v) env st) = gc st1 v st := rfl
@[simp] theorem fnR_nx : fnR st1 (.go .nx env st) = gc st1 .non st := rfl
@[simp] theorem fnR_err (c : Str) (w : W) : fnR st1 (.err c w env st) = .err c w st := rfl
end
/-! stores -/
/-- later, but for the list at p: what was there is there -/
structure Ext (p : Nat) (st st' : Store) : Prop where
  le : st.length ≤ st'.length
  keep : ∀ i, i < st.length → i ≠ p → st'[i]? = st[i]?
/-- the same, and nothing new -/
structure Kp (p : Nat) (st st' : Store) : Prop where
  len : st'.length = st.length
  keep : ∀ i, i ≠ p → st'[i]? = st[i]?
theorem Kp.ext {p : Nat} {st st' : Store} (h : Kp p st st') : Ext p st st' := ⟨by rw [h.len]; exact Nat.le_refl _, fun i _ hp => h.keep i hp⟩
theorem Ext.refl {p : Nat} {st : Store} : Ext p st st := ⟨Nat.le_refl _, fun _ _ _ => rfl⟩
theorem Kp.refl {p : Nat} {st : Store} : Kp p st st := ⟨rfl, fun _ _ => rfl⟩
theorem Ext.trans {p : Nat} {a b c : Store} (h : Ext p a b) (h' : Ext p b c) : Ext p a c :=
  ⟨Nat.le_trans h.le h'.le, fun i hi hp => (h'.keep i (Nat.lt_of_lt_of_le hi h.le) hp).trans (h.keep i hi hp)⟩
theorem Kp.trans {p : Nat} {a b c : Store} (h : Kp p a b) (h' : Kp p b c) : Kp p a c :=
  ⟨h'.len.trans h.len, fun i hp => (h'.keep i hp).trans (h.keep i hp)⟩
theorem Ext.app {p : Nat} {st : Store} (g : Store) : Ext p st (st ++ g) := ⟨by simp, fun i hi _ => List.getElem?_append_left hi⟩
theorem Ext.get {p i : Nat} {o : Ob} {st st' : Store} (h : Ext p st st') (e : st[i]? = some o) (hp : i ≠ p) : st'[i]? = some o := by
  rw [h.keep i (List.getElem?_eq_some_iff.mp e).1 hp, e]
theorem get_app {i : Nat} {o : Ob} {st : Store} (g : Store) (e : st[i]? = some o) : (st ++ g)[i]? = some o := by
  rw [List.getElem?_append_left (List.getElem?_eq_some_iff.mp e).1, e]
@[simp] theorem get_here (st : Store) (o : Ob) (g : Store) : (st ++ o :: g)[st.length]? = some o := by simp
@[simp] theorem get_here1 (st : Store) (o o1 : Ob) (g : Store) : (st ++ o :: o1 :: g)[st.length + 1]? = some o1 := by simp
@[simp] theorem get_here2 (st : Store) (o o1 o2 : Ob) (g : Store) : (st ++ o :: o1 :: o2 :: g)[st.length + 2]? = some o2 := by simp
/-- a list whose items need no store -/
def flatO : Ob → Prop | .lst ws => ∀ n, clBs n ws = true
theorem flatO.cl {o : Ob} (h : flatO o) (n : Nat) : clO n o = true := by
  cases o with
  | lst ws => exact h n
theorem gcx_ok {p : Nat} {st st' : Store} {v : W} (h : Ext p st st') (hp : ∀ o, p < st.length → st'[p]? = some o → flatO o) (hv : clB st.length v = true) : gc st v st' = .ok v (st'.take st.length) := by
  have g : GcOk st st' := fun i hi => by
    by_cases e : i = p
    · subst e
      have hl : i < st'.length := Nat.lt_of_lt_of_le hi h.le
      exact .inr ⟨st'[i], List.getElem?_eq_getElem hl, (hp _ hi (List.getElem?_eq_getElem hl)).cl _⟩
    · exact .inl (h.keep i hi e)
  unfold gc; rw [if_pos g, if_pos hv]
theorem Ext.take {p : Nat} {st st' : Store} (h : Ext p st st') : Kp p st (st'.take st.length) :=
  ⟨by simp [h.le], fun i hp => by
    rw [List.getElem?_take]
    split
    · rename_i hi; exact h.keep i hi hp
    · rename_i hi; rw [List.getElem?_eq_none (Nat.le_of_not_lt hi)]⟩
theorem gc_app {st g : Store} {v : W} (hv : clB st.length v = true) : gc st v (st ++ g) = .ok v st := by
  have e : GcOk st (st ++ g) := fun i hi => .inl (List.getElem?_append_left hi)
  unfold gc; rw [if_pos e, if_pos hv, List.take_left]
theorem gc_same {st : Store} {v : W} (hv : clB st.length v = true) : gc st v st = .ok v st := by
  have := gc_app (g := []) hv; rwa [List.append_nil] at this
theorem gc_new {p m : Nat} {st st' : Store} {ws : List W} (h : Ext p st st') (hp : ∀ o, p < st.length → st'[p]? = some o → flatO o) (hm : st.length ≤ m) (e : st'[m]? = some (.lst ws)) (hw : clBs st.length ws = true) : gc st (.loc m) st' = .ok (.loc st.length) (st'.take st.length ++ [.lst ws]) := by
  have g : GcOk st st' := fun i hi => by
    by_cases e : i = p
    · subst e
      have hl : i < st'.length := Nat.lt_of_lt_of_le hi h.le
      exact .inr ⟨st'[i], List.getElem?_eq_getElem hl, (hp _ hi (List.getElem?_eq_getElem hl)).cl _⟩
    · exact .inl (h.keep i hi e)
  have hv : ¬ clB st.length (.loc m) = true := by simp [clB]; omega
  unfold gc; rw [if_pos g, if_neg hv]
  simp only [e, if_pos hw]
theorem gc_newA {m : Nat} {st g : Store} {ws : List W} (hm : st.length ≤ m) (e : (st ++ g)[m]? = some (.lst ws)) (hw : clBs st.length ws = true) : gc st (.loc m) (st ++ g) = .ok (.loc st.length) (st ++ [.lst ws]) := by
  have := gc_new (p := st.length) (Ext.app g) (fun o h _ => absurd h (Nat.lt_irrefl _)) hm e hw
  rwa [List.take_left] at this
/-! loops -/
theorem forW_ok {chk : Store → Prop} {t : DT} {b : DS} (I : Nat → EnvW → Store → Prop) (hc : ∀ i env st, I i env st → chk st) : ∀ (ws : List W) (k : Nat) (env : EnvW) (st : Store),
    (∀ i w env st, ws[i]? = some w → I (k + i) env st → ∃ env1 st1 env2 st2, t w env st = some (env1, st1) ∧ b env1 st1 = .go .nx env2 st2 ∧ I (k + i + 1) env2 st2) → I k env st →
    ∃ env' st', forW chk t b ws env st = .go .nx env' st' ∧ I (k + ws.length) env' st'
  | [], k, env, st, _, h => ⟨env, st, by unfold forW; rw [if_pos (hc _ _ _ h)], h⟩
  | w :: ws, k, env, st, hs, h => by
    obtain ⟨env1, st1, env2, st2, e1, e2, h2⟩ := hs 0 w env st rfl h
    obtain ⟨env', st', e3, h3⟩ := forW_ok I hc ws (k + 1) env2 st2 (fun i w env st hw hI => by
      have := hs (i + 1) w env st (by simpa using hw) (by rwa [show k + (i + 1) = k + 1 + i by omega])
      rwa [show k + (i + 1) + 1 = k + 1 + i + 1 by omega] at this) h2
    refine ⟨env', st', ?_, ?_⟩
    · unfold forW
      rw [if_pos (hc _ _ _ h), e1]
      dsimp only
      rw [e2]; exact e3
    · rw [List.length_cons, show k + (ws.length + 1) = k + 1 + ws.length by omega]; exact h3
theorem lcW_ok {chk : Store → Prop} {env : EnvW} {t : DT} {e : D W} (J : Nat → List W → Store → Prop) (hc : ∀ i acc st, J i acc st → chk st) : ∀ (ws acc : List W) (st : Store),
    (∀ i w acc st, ws[i]? = some w → acc.length + ws.length ≤ acc.length + ws.length → J i acc st → ∃ env1 st1 y st3, t w env st = some (env1, st1) ∧ e env1 st1 = .ok y st3 ∧ J (i + 1) (acc ++ [y]) st3) → acc.length + ws.length ≤ sizeLine → J 0 acc st →
    ∃ l st', lcW chk env t dYes e ws acc st = some (acc ++ l, st') ∧ l.length = ws.length ∧ J ws.length (acc ++ l) st'
  | [], acc, st, _, _, h => ⟨[], st, by unfold lcW; rw [if_pos (hc _ _ _ h), List.append_nil], rfl, by simpa using h⟩
  | w :: ws, acc, st, hs, hl, h => by
    obtain ⟨env1, st1, y, st3, e1, e2, h2⟩ := hs 0 w acc st rfl (Nat.le_refl _) h
    simp only [List.length_cons] at hl
    obtain ⟨l, st', e3, hn, h3⟩ := lcW_ok (fun i => J (i + 1)) (fun i => hc (i + 1)) ws (acc ++ [y]) st3 (fun i w acc st hw _ hI => hs (i + 1) w acc st (by simpa using hw) (Nat.le_refl _) hI) (by simp; omega) h2
    refine ⟨y :: l, st', ?_, by simp [hn], ?_⟩
    · unfold lcW
      rw [if_pos (hc _ _ _ h), e1]
      dsimp only [dYes]
      rw [e2]
      dsimp only
      rw [if_pos (by omega), e3]; simp
    · simpa using h3
/-- each item by itself: the store stays -/
theorem lcW_map {chk : Store → Prop} {env : EnvW} {i : Nat} {e : D W} {st : Store} (f : W → W) (hc : chk st) {ws : List W} (hs : ∀ w ∈ ws, e (env.set i (some w)) st = .ok (f w) st) (hl : ws.length ≤ sizeLine) :
    lcW chk env (tName i) dYes e ws [] st = some (ws.map f, st) := by
  have key : ∀ (ws acc : List W), (∀ w ∈ ws, e (env.set i (some w)) st = .ok (f w) st) → acc.length + ws.length ≤ sizeLine → lcW chk env (tName i) dYes e ws acc st = some (acc ++ ws.map f, st) := by
    intro ws
    induction ws with
    | nil => intro acc _ _; unfold lcW; rw [if_pos hc]; simp
    | cons w ws ih =>
      intro acc hs hl
      simp only [List.length_cons] at hl
      unfold lcW
      rw [if_pos hc]
      dsimp only [tName, dYes]
      rw [hs w List.mem_cons_self]
      dsimp only
      rw [if_pos (by omega), ih (acc ++ [f w]) (fun w m => hs w (List.mem_cons_of_mem _ m)) (by simp; omega)]
      simp
  have := key ws [] hs (by simpa using hl)
  simpa using this
theorem kLc_map {env : EnvW} {i : Nat} {e : D W} {st : Store} {it : ItW} (f : W → W) (hc : it.Chk st) (hs : ∀ w ∈ it.items, e (env.set i (some w)) st = .ok (f w) st) (hl : it.items.length ≤ sizeLine) :
    kLc env (tName i) dYes e it st = .ok (.loc st.length) (st ++ [.lst (it.items.map f)]) := by
  unfold kLc; rw [lcW_map f hc hs hl]
theorem kLc_ok {env : EnvW} {i : Nat} {e : D W} {st : Store} {ws : List W} (J : Nat → List W → Store → Prop)
    (hs : ∀ k w acc st, ws[k]? = some w → J k acc st → ∃ y st3, e (env.set i (some w)) st = .ok y st3 ∧ J (k + 1) (acc ++ [y]) st3) (hl : ws.length ≤ sizeLine) (h : J 0 [] st) :
    ∃ l st', kLc env (tName i) dYes e ⟨ws, none⟩ st = .ok (.loc st'.length) (st' ++ [.lst l]) ∧ l.length = ws.length ∧ J ws.length l st' := by
  obtain ⟨l, st', e1, hn, h1⟩ := lcW_ok (chk := (ItW.mk ws none).Chk) (env := env) (t := tName i) (e := e) J (fun _ _ _ _ => by simp) ws [] st (fun k w acc st hw _ hJ => by
    obtain ⟨y, st3, e2, h2⟩ := hs k w acc st hw hJ
    exact ⟨_, _, y, st3, rfl, e2, h2⟩) (by simpa using hl) h
  refine ⟨l, st', ?_, hn, by simpa using h1⟩
  unfold kLc
  simp only [List.nil_append] at e1
  rw [e1]
theorem allO_of {α β : Type} (f : α → Option β) (g : α → β) : ∀ (l : List α), (∀ a ∈ l, f a = some (g a)) → allO (l.map f) = some (l.map g)
  | [], _ => rfl
  | a :: l, h => by
    show allO (f a :: l.map f) = _
    rw [h a List.mem_cons_self]
    show (allO (l.map f)).map _ = _
    rw [allO_of f g l (fun a m => h a (List.mem_cons_of_mem _ m))]; rfl
theorem allW_ok {st : Store} {n : Nat} {bs : List Bool} (h : st[n]? = some (.lst (bs.map W.bl))) : allW [.loc n] st = .ok (.bl (bs.all id)) st := by
  unfold allW bls lstW
  simp only [h, Option.bind_some, List.map_map]
  have e : allO (bs.map (blOf ∘ W.bl)) = some (bs.map id) := allO_of _ id _ fun _ _ => rfl
  rw [e]
  simp
end
end MP
namespace MP
open PySem PySem.Spec PyProof.Rows L2
open Classical
noncomputable section
/-! ### values without a store -/
def okS (x : Str) : Bool := decide (x.length ≤ 8192) && x.cps.toList.all (fun c => decide (c < 128))
theorem okS_iff {x : Str} : okS x = true ↔ x.length ≤ 8192 ∧ ∀ c ∈ x.cps.toList, c < 128 := by
  unfold okS; rw [Bool.and_eq_true, decide_eq_true_iff, List.all_eq_true]; simp only [decide_eq_true_eq]
theorem okS.ok {x : Str} (h : okS x = true) : PyData.strOk x = true := by
  obtain ⟨_, h⟩ := okS_iff.mp h
  unfold PyData.strOk
  rw [Array.all_eq_true]
  intro i hi
  have := h x.cps[i] (by simp)
  simp; omega
theorem okS.len {x : Str} (h : okS x = true) : x.length ≤ 8192 := (okS_iff.mp h).1
theorem okS.line {x : Str} (h : okS x = true) : x.length ≤ sizeLine := Nat.le_trans (okS_iff.mp h).1 (by decide)
def puB : Nat → W → Bool
  | 0, _ => false
  | n + 1, w => match w with
    | .non => true
    | .bl _ => true
    | .int _ => true
    | .str x => okS x
    | .tup ws => decide (ws.length ≤ 8192) && ws.all (puB n)
    | _ => false
def dat : Nat → W → PyData
  | 0, _ => .none
  | n + 1, w => match w with
    | .non => .none
    | .bl b => .bool b
    | .int i => .int i
    | .str x => .str x
    | .tup ws => .tuple (ws.map (dat n))
    | _ => .none
theorem datF_pu : ∀ (n : Nat) (w : W), puB n w = true → ∀ (m : Nat) (st : Store), n ≤ m → datF st m w = some (dat n w)
  | 0, _, h, _, _, _ => by simp [puB] at h
  | n + 1, w, h, 0, st, hm => by omega
  | n + 1, w, h, m + 1, st, hm => by
    cases w with
    | non => rfl
    | bl => rfl
    | int => rfl
    | str => rfl
    | tup ws =>
      simp only [puB, Bool.and_eq_true, List.all_eq_true] at h
      simp only [datF, dat]
      rw [allO_of _ (dat n) ws fun a ha => datF_pu n a (h.2 a ha) m st (by omega)]; rfl
    | fro ws => simp [puB] at h
    | loc k => simp [puB] at h
    | gl v => simp [puB] at h
theorem canAll {f : W → PyData} : ∀ {ws : List W}, (∀ w ∈ ws, (f w).canLay0 = true) → PyData.canLayAll0 (ws.map f) = true
  | [], _ => rfl
  | w :: ws, h => by
    rw [List.map_cons, PyData.canLayAll0.eq_2, h w List.mem_cons_self, canAll fun w m => h w (List.mem_cons_of_mem _ m)]; rfl
theorem depAll {f : W → PyData} {n : Nat} : ∀ {ws : List W}, (∀ w ∈ ws, (f w).depth ≤ n) → PyData.depthAll (ws.map f) ≤ n
  | [], _ => Nat.zero_le _
  | w :: ws, h => by
    rw [List.map_cons, PyData.depthAll.eq_2]
    exact Nat.max_le.mpr ⟨h w List.mem_cons_self, depAll fun w m => h w (List.mem_cons_of_mem _ m)⟩
theorem eqvAll_refl {f : W → PyData} : ∀ {ws : List W}, (∀ w ∈ ws, (f w).eqv (f w) = true) → PyData.eqvAll (ws.map f) (ws.map f) = true
  | [], _ => rfl
  | w :: ws, h => by
    rw [List.map_cons, PyData.eqvAll.eq_2, h w List.mem_cons_self, eqvAll_refl fun w m => h w (List.mem_cons_of_mem _ m)]; rfl
theorem can_pu : ∀ (n : Nat) (w : W), puB n w = true → (dat n w).canLay0 = true
  | 0, _, h => by simp [puB] at h
  | n + 1, w, h => by
    cases w with
    | str x => exact okS.ok h
    | tup ws =>
      simp only [puB, Bool.and_eq_true, List.all_eq_true] at h
      exact canAll fun a ha => can_pu n a (h.2 a ha)
    | _ => rfl
theorem dep_pu : ∀ (n : Nat) (w : W), puB n w = true → (dat n w).depth ≤ n
  | 0, _, h => by simp [puB] at h
  | n + 1, w, h => by
    cases w with
    | tup ws =>
      simp only [puB, Bool.and_eq_true, List.all_eq_true] at h
      simp only [dat]
      rw [PyData.depth.eq_2]
      exact Nat.succ_le_succ (depAll fun a ha => dep_pu n a (h.2 a ha))
    | _ => exact Nat.zero_le _
theorem eqv_pu : ∀ (n : Nat) (w : W), puB n w = true → (dat n w).eqv (dat n w) = true
  | 0, _, h => by simp [puB] at h
  | n + 1, w, h => by
    cases w with
    | tup ws =>
      simp only [puB, Bool.and_eq_true, List.all_eq_true] at h
      simp only [dat]
      rw [PyData.eqv.eq_8]
      exact eqvAll_refl fun a ha => eqv_pu n a (h.2 a ha)
    | bl b => simp only [dat]; rw [PyData.eqv.eq_2]; simp
    | int b => simp only [dat]; rw [PyData.eqv.eq_5]; simp
    | str b => simp only [dat]; rw [PyData.eqv.eq_6]; simp
    | non => rfl
    | _ => simp [puB] at h
mutual
theorem cl_pu (k : Nat) : ∀ (n : Nat) (w : W), puB n w = true → clB k w = true
  | 0, _, h => by simp [puB] at h
  | n + 1, w, h => by
    cases w with
    | tup ws =>
      simp only [puB, Bool.and_eq_true, List.all_eq_true] at h
      simp only [clB]
      exact cls_pu k n ws h.2
    | _ => first | rfl | simp [puB] at h
theorem cls_pu (k : Nat) : ∀ (n : Nat) (ws : List W), (∀ w ∈ ws, puB n w = true) → clBs k ws = true
  | n, [], _ => rfl
  | n, w :: ws, h => by
    simp only [clBs, Bool.and_eq_true]
    exact ⟨cl_pu k n w (h w List.mem_cons_self), cls_pu k n ws fun w m => h w (List.mem_cons_of_mem _ m)⟩
end
/-- depth enough for what the laws draw -/
abbrev pu (w : W) : Prop := puB 5 w = true
abbrev d5 (w : W) : PyData := dat 5 w
/-- u: the value w as it stands in the store -/
inductive Pic (st : Store) : W → W → Prop
  | pu (w : W) (h : pu w) : Pic st w w
  | ls (k : Nat) (ws : List W) (h : st[k]? = some (.lst ws)) (hl : ws.length ≤ 8192) (hw : ∀ w ∈ ws, pu w) : Pic st (.loc k) (.fro ws)
def dU : W → PyData
  | .fro ws => .list (ws.map d5)
  | w => d5 w
theorem dU_pu {w : W} (h : pu w) : dU w = d5 w := by cases w <;> first | rfl | exact nomatch (show false = true from h)
theorem Pic.dat {st : Store} {w u : W} (h : Pic st w u) (m : Nat) (hm : 6 ≤ m) : datF st m w = some (dU u) := by
  cases h with
  | pu _ h => rw [dU_pu h]; exact datF_pu 5 w h m st (by omega)
  | ls k ws h hl hw =>
    obtain ⟨m, rfl⟩ : ∃ m', m = m' + 1 := ⟨m - 1, by omega⟩
    simp only [datF, h, dU]
    rw [allO_of _ d5 ws fun a ha => datF_pu 5 a (hw a ha) m st (by omega)]; rfl
theorem Pic.shp {st : Store} {w u : W} (h : Pic st w u) : (dU u).canLay0 = true ∧ (dU u).depth ≤ 6 := by
  cases h with
  | pu _ h => rw [dU_pu h]; exact ⟨can_pu 5 w h, Nat.le_trans (dep_pu 5 w h) (by decide)⟩
  | ls k ws h hl hw =>
    simp only [dU]
    exact ⟨canAll fun a ha => can_pu 5 a (hw a ha), by rw [PyData.depth.eq_1]; exact Nat.succ_le_succ (depAll fun a ha => dep_pu 5 a (hw a ha))⟩
theorem Pic.refl {st : Store} {w u : W} (h : Pic st w u) : (dU u).eqv (dU u) = true := by
  cases h with
  | pu _ h => rw [dU_pu h]; exact eqv_pu 5 w h
  | ls k ws h hl hw =>
    simp only [dU]; rw [PyData.eqv.eq_7]
    exact eqvAll_refl fun a ha => eqv_pu 5 a (hw a ha)
theorem shaped_of {d : PyData} (h : d.canLay0 = true ∧ d.depth ≤ 64) : SeqAt.shaped d = true := by
  rw [SeqAt.shaped.eq_1, h.1]; simp [h.2]
theorem eqW_of {st : Store} {a b : W} {d e : PyData} (h : datF st 66 a = some d) (h' : datF st 66 b = some e) (s : SeqAt.shaped d = true) (s' : SeqAt.shaped e = true) : eqW a b st = .ok (.bl (d.eqv e)) st := by
  unfold eqW; simp only [h, h', if_pos (And.intro s s')]
theorem neW_of {st : Store} {a b : W} {d e : PyData} (h : datF st 66 a = some d) (h' : datF st 66 b = some e) (s : SeqAt.shaped d = true) (s' : SeqAt.shaped e = true) : neW a b st = .ok (.bl (!d.eqv e)) st := by
  unfold neW; simp only [h, h', if_pos (And.intro s s')]
theorem pic_eq {st : Store} {a b u v : W} (h : Pic st a u) (h' : Pic st b v) : eqW a b st = .ok (.bl ((dU u).eqv (dU v))) st :=
  eqW_of (h.dat 66 (by decide)) (h'.dat 66 (by decide)) (shaped_of ⟨h.shp.1, by have := h.shp.2; omega⟩) (shaped_of ⟨h'.shp.1, by have := h'.shp.2; omega⟩)
theorem pic_ne {st : Store} {a b u v : W} (h : Pic st a u) (h' : Pic st b v) : neW a b st = .ok (.bl (!(dU u).eqv (dU v))) st :=
  neW_of (h.dat 66 (by decide)) (h'.dat 66 (by decide)) (shaped_of ⟨h.shp.1, by have := h.shp.2; omega⟩) (shaped_of ⟨h'.shp.1, by have := h'.shp.2; omega⟩)
theorem pu_str {x : Str} (h : okS x = true) : pu (.str x) := h
theorem eqW_str {st : Store} {x y : Str} (h : okS x = true) (h' : okS y = true) : eqW (.str x) (.str y) st = .ok (.bl (x == y)) st := by
  rw [pic_eq (.pu _ (pu_str h)) (.pu _ (pu_str h'))]
  simp only [dU, d5, dat, PyData.eqv.eq_6]
theorem neW_str {st : Store} {x y : Str} (h : okS x = true) (h' : okS y = true) : neW (.str x) (.str y) st = .ok (.bl (!(x == y))) st := by
  rw [pic_ne (.pu _ (pu_str h)) (.pu _ (pu_str h'))]
  simp only [dU, d5, dat, PyData.eqv.eq_6]
@[simp] theorem eqW_int {st : Store} {x y : Int} : eqW (.int x) (.int y) st = .ok (.bl (x == y)) st := by
  rw [pic_eq (.pu _ rfl) (.pu _ rfl)]
  simp only [dU, d5, dat, PyData.eqv.eq_5]
@[simp] theorem eqW_bl {st : Store} {x y : Bool} : eqW (.bl x) (.bl y) st = .ok (.bl (x == y)) st := by
  rw [pic_eq (.pu _ rfl) (.pu _ rfl)]
  simp only [dU, d5, dat, PyData.eqv.eq_2]
@[simp] theorem neW_bl {st : Store} {x y : Bool} : neW (.bl x) (.bl y) st = .ok (.bl (!(x == y))) st := by
  rw [pic_ne (.pu _ rfl) (.pu _ rfl)]
  simp only [dU, d5, dat, PyData.eqv.eq_2]
/-! what is asked of a value -/
def tyU : W → String
  | .non => "NoneType"
  | .bl _ => "bool"
  | .int _ => "int"
  | .str _ => "str"
  | .tup _ => "tuple"
  | _ => "list"
theorem Pic.ty {st : Store} {w u : W} (h : Pic st w u) : tyN st w = some (tyU u) := by
  cases h with
  | pu _ h => cases w <;> first | rfl | exact nomatch (show false = true from h)
  | ls k ws h hl hw => simp only [tyN, h, tyU]
theorem isi_of {st : Store} {w : W} {t n : String} {b : Bool} (h : tyN st w = some t) (hk : kitB t n = some b) : isiW [w, .gl (.ty n)] st = .ok (.bl b) st := by
  unfold isiW; simp only [h, hk]
theorem isi2_of {st : Store} {w : W} {t A B : String} {x y : Bool} (h : tyN st w = some t) (hA : kitB t A = some x) (hB : kitB t B = some y) : isi2W A B w st = .ok (.bl (x || y)) st := by
  unfold isi2W; simp only [h, hA, hB]
theorem kB_str (u : W) : kitB (tyU u) "str" = some (match u with | .str _ => true | _ => false) := by cases u <;> rfl
theorem kB_tup (u : W) : kitB (tyU u) "tuple" = some (match u with | .tup _ => true | _ => false) := by cases u <;> rfl
theorem kB_list (u : W) : kitB (tyU u) "list" = some (match u with | .fro _ => true | .loc _ => true | .gl _ => true | _ => false) := by cases u <;> rfl
theorem kB_bool (u : W) : kitB (tyU u) "bool" = some (match u with | .bl _ => true | _ => false) := by cases u <;> rfl
theorem kB_int (u : W) : kitB (tyU u) "int" = some (match u with | .bl _ => true | .int _ => true | _ => false) := by cases u <;> rfl
def isS : W → Bool | .str _ => true | _ => false
def isT : W → Bool | .tup _ => true | _ => false
def isL : W → Bool | .fro _ => true | .loc _ => true | .gl _ => true | _ => false
theorem pic_isS {st : Store} {w u : W} (h : Pic st w u) : isiW [w, .gl (.ty "str")] st = .ok (.bl (isS u)) st := isi_of h.ty (by rw [kB_str]; cases u <;> rfl)
theorem pic_isT {st : Store} {w u : W} (h : Pic st w u) : isiW [w, .gl (.ty "tuple")] st = .ok (.bl (isT u)) st := isi_of h.ty (by rw [kB_tup]; cases u <;> rfl)
theorem pic_isL {st : Store} {w u : W} (h : Pic st w u) : isiW [w, .gl (.ty "list")] st = .ok (.bl (isL u)) st := isi_of h.ty (by rw [kB_list]; cases u <;> rfl)
theorem pic_is2 {st : Store} {w u : W} (h : Pic st w u) : isi2W "tuple" "list" w st = .ok (.bl (isT u || isL u)) st := isi2_of h.ty (by rw [kB_tup]; cases u <;> rfl) (by rw [kB_list]; cases u <;> rfl)
/-! places -/
theorem atI_nat {α : Type} {l : List α} {i : Nat} (h : i < l.length) : atI l (i : Int) = l[i]? := by
  unfold atI ixN
  rw [if_pos (by omega), if_pos (by omega)]
  simp
theorem atI_int {α : Type} {l : List α} {i : Int} (h0 : 0 ≤ i) (h : i < l.length) : atI l i = l[i.toNat]? := by
  have := atI_nat (l := l) (i := i.toNat) (by omega)
  rwa [Int.toNat_of_nonneg h0] at this
theorem atI_last {α : Type} {l : List α} (h : 0 < l.length) : atI l (-1) = l[l.length - 1]? := by
  unfold atI ixN
  rw [if_neg (by omega), if_pos (by omega)]
  have : ((-1 : Int) + (l.length : Int)).toNat = l.length - 1 := by omega
  simp [this]
theorem ix_mem {st : Store} {a : W} {ws : List W} {i : Int} (h : seqW st a = some ws) (h0 : 0 ≤ i) (hi : i < ws.length) : ∃ w, w ∈ ws ∧ ws[i.toNat]? = some w ∧ ixW a (.int i) st = .ok w st := by
  have hl : i.toNat < ws.length := by omega
  refine ⟨ws[i.toNat], List.getElem_mem hl, List.getElem?_eq_getElem hl, ?_⟩
  unfold ixW
  cases a with
  | str z => simp [seqW] at h
  | _ => simp only [h, atI_int h0 hi, List.getElem?_eq_getElem hl]
theorem ix_str {x : Str} {i : Int} (hx : x.length ≤ sizeLine) (h0 : 0 ≤ i) (hi : i < x.length) : ∃ c, x.cps.toList[i.toNat]? = some c ∧ c ∈ x.cps.toList ∧ ∀ st, ixW (.str x) (.int i) st = .ok (.str ⟨#[c]⟩) st := by
  have hl : i.toNat < x.cps.toList.length := by simp [Str.length] at hi; simp; omega
  refine ⟨x.cps.toList[i.toNat], List.getElem?_eq_getElem hl, List.getElem_mem hl, fun st => ?_⟩
  have hi' : i < x.cps.toList.length := by omega
  unfold ixW
  simp only [if_pos hx, atI_int h0 hi', List.getElem?_eq_getElem hl]
theorem ix_strL {x : Str} (hx : x.length ≤ sizeLine) (h : 0 < x.length) : ∃ c, x.cps.toList[x.length - 1]? = some c ∧ c ∈ x.cps.toList ∧ ∀ st, ixW (.str x) (.int (-1)) st = .ok (.str ⟨#[c]⟩) st := by
  have e : x.cps.toList.length = x.length := by simp [Str.length]
  have hl : x.cps.toList.length - 1 < x.cps.toList.length := by omega
  refine ⟨x.cps.toList[x.cps.toList.length - 1], by rw [← e]; exact List.getElem?_eq_getElem hl, List.getElem_mem hl, fun st => ?_⟩
  unfold ixW
  simp only [if_pos hx, atI_last (l := x.cps.toList) (by omega), List.getElem?_eq_getElem hl]
theorem in_sign {st : Store} {c : Nat} {z : Str} : inW false (.str ⟨#[c]⟩) (.str z) st = .ok (.bl (decide (c ∈ z.cps.toList))) st := rfl
theorem len_str {st : Store} {x : Str} (h : x.length ≤ sizeLine) : lenW [.str x] st = .ok (.int x.length) st := by unfold lenW; simp only [if_pos h]
theorem len_seq {st : Store} {a : W} {ws : List W} (h : seqW st a = some ws) : lenW [a] st = .ok (.int ws.length) st := by
  unfold lenW
  cases a with
  | str z => simp [seqW] at h
  | _ => simp only [h]
theorem cut_to {ws : List W} {k : Nat} : cutW ws none (some (k : Int)) = ws.take k := by
  unfold cutW HT.sIx
  simp only [List.drop_zero, Nat.sub_zero]
  rw [if_neg (by omega)]
  simp only [Int.toNat_natCast]
  rw [← List.take_take, List.take_length]
theorem cut_from {ws : List W} {k : Nat} : cutW ws (some (k : Int)) none = ws.drop k := by
  unfold cutW HT.sIx
  simp only
  rw [if_neg (by omega)]
  simp only [Int.toNat_natCast]
  by_cases h : k ≤ ws.length
  · rw [Nat.min_eq_left h, List.take_of_length_le (by simp)]
  · rw [Nat.min_eq_right (by omega), List.drop_of_length_le (Nat.le_refl _), List.drop_of_length_le (by omega)]; simp
theorem lcW_mapB {β : Type} {chk : Store → Prop} {env : EnvW} {i : Nat} {e : D W} {st : Store} (k g : β → W) (hc : chk st) : ∀ (l : List β) (acc : List W), (∀ b ∈ l, e (env.set i (some (k b))) st = .ok (g b) st) → acc.length + l.length ≤ sizeLine →
    lcW chk env (tName i) dYes e (l.map k) acc st = some (acc ++ l.map g, st)
  | [], acc, _, _ => by unfold lcW; simp only [List.map_nil]; rw [if_pos hc]; simp
  | b :: l, acc, hs, hl => by
    simp only [List.length_cons] at hl
    simp only [List.map_cons]
    unfold lcW
    rw [if_pos hc]
    dsimp only [tName, dYes]
    rw [hs b List.mem_cons_self]
    dsimp only
    rw [if_pos (by omega), lcW_mapB k g hc l (acc ++ [g b]) (fun w m => hs w (List.mem_cons_of_mem _ m)) (by simp; omega)]
    simp
theorem kLc_mapB {β : Type} {env : EnvW} {i : Nat} {e : D W} {st : Store} {src : Option Nat} (k g : β → W) (l : List β) (hc : (ItW.mk (l.map k) src).Chk st) (hs : ∀ b ∈ l, e (env.set i (some (k b))) st = .ok (g b) st) (hl : l.length ≤ sizeLine) :
    kLc env (tName i) dYes e ⟨l.map k, src⟩ st = .ok (.loc st.length) (st ++ [.lst (l.map g)]) := by
  unfold kLc
  simp only
  rw [lcW_mapB k g hc l [] hs (by simpa using hl)]
  simp
theorem all_here {β : Type} {st : Store} {l : List β} {g : β → Bool} : allW [.loc st.length] (st ++ [.lst (l.map fun b => W.bl (g b))]) = .ok (.bl (l.all g)) (st ++ [.lst (l.map fun b => W.bl (g b))]) := by
  have : (st ++ [.lst (l.map fun b => W.bl (g b))])[st.length]? = some (.lst ((l.map g).map W.bl)) := by simp
  rw [allW_ok this]; simp [List.all_map]
theorem puB_mono : ∀ {n m : Nat} {w : W}, puB n w = true → n ≤ m → puB m w = true
  | 0, _, _, h, _ => by simp [puB] at h
  | n + 1, 0, _, _, hm => by omega
  | n + 1, m + 1, w, h, hm => by
    cases w with
    | tup ws =>
      simp only [puB, Bool.and_eq_true, List.all_eq_true] at h ⊢
      exact ⟨h.1, fun a ha => puB_mono (h.2 a ha) (by omega)⟩
    | str x => exact h
    | _ => first | rfl | simp [puB] at h
theorem pu_items {ws : List W} (h : pu (.tup ws)) : ws.length ≤ 8192 ∧ ∀ w ∈ ws, puB 4 w = true := by
  have h' : (decide (ws.length ≤ 8192) && ws.all (puB 4)) = true := h
  rw [Bool.and_eq_true, decide_eq_true_iff, List.all_eq_true] at h'
  exact h'
end
end MP
namespace K01
open PySem PySem.Spec PyProof.Rows L2 MP
noncomputable section
abbrev top (i : Nat) : Stmt := PySem.Challenge.pw_rootward_k01_labels_and_names.main.body.getD i (.Pass ⟨0, 0, 0, 0⟩)
def c_WILD : Str := "*"
def c_ENDS : Str := "0123456789abcdefghijklmnopqrstuvwxyz"
def c_INNER : Str := "-0123456789abcdefghijklmnopqrstuvwxyz"
structure Txt (P : Program) (w : World) (K : PySem.W.Frag) (mg : Str → Option Value) (base : Heap) where
  D_rebuilt : DefF K mg "rebuilt" "rebuilt" (top 5) ["value"]
  D_is_label : DefF K mg "is_label" "is_label" (top 11) ["value"]
  D__is_plain : DefF K mg "_is_plain" "_is_plain" (top 12) ["text"]
  D_is_name : DefF K mg "is_name" "is_name" (top 13) ["value"]
  D_is_asked : DefF K mg "is_asked" "is_asked" (top 14) ["value"]
  D_check_name : DefF K mg "check_name" "check_name" (top 15) ["name"]
  D_name_of : DefF K mg "name_of" "name_of" (top 16) ["text"]
  D_show_name : DefF K mg "show_name" "show_name" (top 17) ["name"]
  D__law_pot : DefF K mg "_law_pot" "_law_pot" (top 19) ["_law_script", "_law_k"]
  D__law_take : DefF K mg "_law_take" "_law_take" (top 20) ["_law_pot_here", "_law_many"]
  D__law_same : DefF K mg "_law_same" "_law_same" (top 21) ["_law_told_here", "_law_due"]
  D__law_label : DefF K mg "_law_label" "_law_label" (top 22) ["_law_pot_here"]
  D__law_odd : DefF K mg "_law_odd" "_law_odd" (top 23) ["_law_pot_here"]
  D__law_is_label : DefF K mg "_law_is_label" "_law_is_label" (top 24) ["_law_value"]
  D__law_is_name : DefF K mg "_law_is_name" "_law_is_name" (top 25) ["_law_value"]
  D__law_any_label : DefF K mg "_law_any_label" "_law_any_label" (top 26) ["_law_pot_here"]
  D__law_some_labels : DefF K mg "_law_some_labels" "_law_some_labels" (top 27) ["_law_pot_here"]
  D__law_labels_right : DefF K mg "_law_labels_right" "_law_labels_right" (top 28) ["_law_pot_here"]
  D__law_shown : DefF K mg "_law_shown" "_law_shown" (top 29) ["_law_value"]
  D__law_kept_apart : DefF K mg "_law_kept_apart" "_law_kept_apart" (top 30) ["_law_value", "_law_due"]
  D__law_names_right : DefF K mg "_law_names_right" "_law_names_right" (top 31) ["_law_pot_here"]
  D__law_read : DefF K mg "_law_read" "_law_read" (top 32) ["_law_text"]
  D__law_told : DefF K mg "_law_told" "_law_told" (top 33) ["_law_text"]
  D__law_is_base : DefF K mg "_law_is_base" "_law_is_base" (top 34) ["_law_text"]
  D__law_texts_right : DefF K mg "_law_texts_right" "_law_texts_right" (top 35) ["_law_pot_here"]
  D_law : DefF K mg "law" "law" (top 36) ["_law_script"]
  k_is_label : ∀ (s : Shared) (ws : List Value), K.In s.heap → ws.length = (["value"] : List Str).length → BindsTo s D_is_label.fd ⟨[], (["value"] : List Str).zip ws⟩ ((["value"] : List Str).zip ws)
  k_is_asked : ∀ (s : Shared) (ws : List Value), K.In s.heap → ws.length = (["value"] : List Str).length → BindsTo s D_is_asked.fd ⟨[], (["value"] : List Str).zip ws⟩ ((["value"] : List Str).zip ws)
  k_is_name : ∀ (s : Shared) (ws : List Value), K.In s.heap → ws.length = (["value"] : List Str).length → BindsTo s D_is_name.fd ⟨[], (["value"] : List Str).zip ws⟩ ((["value"] : List Str).zip ws)
  k_show_name : ∀ (s : Shared) (ws : List Value), K.In s.heap → ws.length = (["name"] : List Str).length → BindsTo s D_show_name.fd ⟨[], (["name"] : List Str).zip ws⟩ ((["name"] : List Str).zip ws)
  k_name_of : ∀ (s : Shared) (ws : List Value), K.In s.heap → ws.length = (["text"] : List Str).length → BindsTo s D_name_of.fd ⟨[], (["text"] : List Str).zip ws⟩ ((["text"] : List Str).zip ws)
  E_TreeError : ErF P w K mg base "TreeError"
  E_InvalidName : ErF P w K mg base "InvalidName"
  E_Unreadable : ErF P w K mg base "Unreadable"
  c_WILD : ∃ t, mg "WILD" = some (.str c_WILD t)
  c_LONGEST : ∃ t, mg "LONGEST" = some (.int 20 t)
  c_ENDS : ∃ t, mg "ENDS" = some (.str c_ENDS t)
  c_INNER : ∃ t, mg "INNER" = some (.str c_INNER t)
  n_ValueError : mg "ValueError" = none
  n_abs : mg "abs" = none
  n_all : mg "all" = none
  n_bool : mg "bool" = none
  n_int : mg "int" = none
  n_isinstance : mg "isinstance" = none
  n_len : mg "len" = none
  n_list : mg "list" = none
  n_max : mg "max" = none
  n_min : mg "min" = none
  n_range : mg "range" = none
  n_str : mg "str" = none
  n_tuple : mg "tuple" = none
  sub_InvalidName : ∀ q ∈ ([("TreeError", false), ("InvalidName", true), ("Unreadable", false)] : List (Str × Bool)), ∃ C, mg q.1 = some (.ref C) ∧ PySem.W.exmOne K (.ref C) (.ref E_InvalidName.C) = some q.2 ∧ XfC K C ∧ PySem.W.findIn K (.ref C) ("value" : Str) = some none
  sub_TreeError : ∀ q ∈ ([("TreeError", true), ("InvalidName", true), ("Unreadable", true)] : List (Str × Bool)), ∃ C, mg q.1 = some (.ref C) ∧ PySem.W.exmOne K (.ref C) (.ref E_TreeError.C) = some q.2 ∧ XfC K C ∧ PySem.W.findIn K (.ref C) ("value" : Str) = some none
  sub_Unreadable : ∀ q ∈ ([("TreeError", false), ("InvalidName", false), ("Unreadable", true)] : List (Str × Bool)), ∃ C, mg q.1 = some (.ref C) ∧ PySem.W.exmOne K (.ref C) (.ref E_Unreadable.C) = some q.2 ∧ XfC K C ∧ PySem.W.findIn K (.ref C) ("value" : Str) = some none
  xc_ValueError : ∀ q ∈ ([("TreeError", true), ("InvalidName", true), ("Unreadable", true)] : List (Str × Bool)), ∃ C, mg q.1 = some (.ref C) ∧ ExcI K C ∧ PySem.W.kitOne K (.ref C) (.type "ValueError") = some q.2
  xc_Unreadable : ∀ q ∈ ([("TreeError", false), ("InvalidName", false), ("Unreadable", true)] : List (Str × Bool)), ∃ C, mg q.1 = some (.ref C) ∧ ExcI K C ∧ PySem.W.kitOne K (.ref C) (.ref E_Unreadable.C) = some q.2
  xc_InvalidName : ∀ q ∈ ([("TreeError", false), ("InvalidName", true), ("Unreadable", false)] : List (Str × Bool)), ∃ C, mg q.1 = some (.ref C) ∧ ExcI K C ∧ PySem.W.kitOne K (.ref C) (.ref E_InvalidName.C) = some q.2
section
variable {P : Program} {w : World} {K : PySem.W.Frag} {mg : Str → Option Value} {base : Heap}
/-! rebuilt -/
theorem sc_rebuilt : FnScope ["value", "part"] ["value"] (defScope (top 5)) := ⟨rfl, rfl, rfl, by decide +kernel, rfl, by decide +kernel, by decide +kernel⟩
def b_rebuilt (rec : List W → Store → Res W) : DS := (sSeq (sIf (dBool (dApp isiW (dCons (dVar 0) (dCons (dC (.gl (.ty "list"))) dNil))))
    (sRet (dLc (dIt (dVar 0)) [1] (tName 1) dYes (dCall 1 rec (dCons (dVar 1) dNil))))
    sNil)
    (sSeq (sIf (dBool (dApp isiW (dCons (dVar 0) (dCons (dC (.gl (.ty "tuple"))) dNil))))
    (sRet (dApp tupleW (dCons (dLc (dIt (dVar 0)) [1] (tName 1) dYes (dCall 1 rec (dCons (dVar 1) dNil))) dNil)))
    sNil)
    (sRet (dVar 0))))
def d_rebuilt : Nat → List W → Store → Res W
  | 0 => fun _ _ => .stuck
  | n + 1 => fnDen 2 (b_rebuilt (d_rebuilt n))
def fn_rebuilt (T : Txt P w K mg base) : (n : Nat) → FnF P w K mg base "rebuilt" ["value"] (0 + n) 1 (d_rebuilt n)
  | 0 => ⟨T.D_rebuilt.f, T.D_rebuilt.fd, fn_stuck, T.D_rebuilt.m, T.D_rebuilt.F.kp, T.D_rebuilt.b⟩
  | n + 1 => ⟨T.D_rebuilt.f, T.D_rebuilt.fd, fn_ok (k := 0 + n) T.D_rebuilt.F sc_rebuilt (fun cdv A outer s H E hr => (is_cons (is_if (it_val (ie_isi rfl T.n_isinstance (ia_cons (ie_var 0) (ia_cons (ie_ty (T := "list") rfl T.n_list (by decide +kernel)) ia_nil))))
    (is_one (is_ret (ie_lc (own := [("part", 1)]) rfl sc_rebuilt.nd (ii_val (ie_var 0)) (blkOk_by (N := ["value", "part"]) (sc := defScope (top 5)) (own := [("part", 1)]) (by decide +kernel)) (fun _ _ _ _ _ => (ig_name (i := 1) (by decide) ExOk.none sc_rebuilt.nd rfl (.inl rfl))) (fun _ _ _ _ _ => (ie_callF (fn_rebuilt T n) (hr) takes0 (ia_cons (ie_var 1) ia_nil))))))
    is_nil)
    (is_cons (is_if (it_val (ie_isi rfl T.n_isinstance (ia_cons (ie_var 0) (ia_cons (ie_ty (T := "tuple") rfl T.n_tuple (by decide +kernel)) ia_nil))))
    (is_one (is_ret (ie_tuple rfl T.n_tuple (ia_cons (ie_lc (own := [("part", 1)]) rfl sc_rebuilt.nd (ii_val (ie_var 0)) (blkOk_by (N := ["value", "part"]) (sc := defScope (top 5)) (own := [("part", 1)]) (by decide +kernel)) (fun _ _ _ _ _ => (ig_name (i := 1) (by decide) ExOk.none sc_rebuilt.nd rfl (.inl rfl))) (fun _ _ _ _ _ => (ie_callF (fn_rebuilt T n) (hr) takes0 (ia_cons (ie_var 1) ia_nil)))) ia_nil))))
    is_nil)
    (is_one (is_ret (ie_var 0)))))), T.D_rebuilt.m, T.D_rebuilt.F.kp, T.D_rebuilt.b⟩
/-! _is_plain -/
theorem sc__is_plain : FnScope ["text"] ["text"] (defScope (top 12)) := ⟨rfl, rfl, rfl, by decide +kernel, rfl, by decide +kernel, by decide +kernel⟩
def b__is_plain : DS := (sSeq (sIf (dNot (dBool (dChain leW leW (dC (.int 1)) (dApp lenW (dCons (dVar 0) dNil)) (dC (.int 20)))))
    (sRet (dC (.bl false)))
    sNil)
    (sRet (dAndV (dOp eqW (dBm tyS stripW (dVar 0) (dCons (dC (.str c_INNER)) dNil)) (dC (.str ""))) (dAndV (dOp (inW false) (dOp ixW (dVar 0) (dC (.int 0))) (dC (.str c_ENDS))) (dOp (inW false) (dOp ixW (dVar 0) (dUn negW (dC (.int 1)))) (dC (.str c_ENDS)))))))
def d__is_plain : List W → Store → Res W := fnDen 1 b__is_plain
def fn__is_plain (T : Txt P w K mg base) : FnF P w K mg base "_is_plain" ["text"] 1 1 d__is_plain :=
  ⟨T.D__is_plain.f, T.D__is_plain.fd, fn_ok (k := 0) T.D__is_plain.F sc__is_plain (fun cdv A outer s H E hr => (is_cons (is_if (it_not (it_lele ie_int (ie_len rfl T.n_len (ia_cons (ie_var 0) ia_nil)) (ie_gint (i := 20) T.c_LONGEST.choose_spec)))
    (is_one (is_ret ie_bl))
    is_nil)
    (is_one (is_ret (ie_and (ie_eq hr (ie_strip (ie_var 0) (ia_cons (ie_gstr (i := c_INNER) T.c_INNER.choose_spec) ia_nil)) ie_str) (ie_and (ie_in (ie_ix (ie_var 0) ie_int) (ie_gstr (i := c_ENDS) T.c_ENDS.choose_spec)) (ie_one (ie_in (ie_ix (ie_var 0) (ie_neg ie_int)) (ie_gstr (i := c_ENDS) T.c_ENDS.choose_spec))))))))), T.D__is_plain.m, T.D__is_plain.F.kp, T.D__is_plain.b⟩
/-! is_label -/
theorem sc_is_label : FnScope ["value"] ["value"] (defScope (top 11)) := ⟨rfl, rfl, rfl, by decide +kernel, rfl, by decide +kernel, by decide +kernel⟩
def b_is_label : DS := (sSeq (sIf (dNot (dBool (dApp isiW (dCons (dVar 0) (dCons (dC (.gl (.ty "str"))) dNil)))))
    (sRet (dC (.bl false)))
    sNil)
    (sRet (dOrV (dOp eqW (dVar 0) (dC (.str c_WILD))) (dCall 1 d__is_plain (dCons (dVar 0) dNil)))))
def d_is_label : List W → Store → Res W := fnDen 1 b_is_label
def fn_is_label (T : Txt P w K mg base) : FnF P w K mg base "is_label" ["value"] 2 1 d_is_label :=
  ⟨T.D_is_label.f, T.D_is_label.fd, fn_ok (k := 1) T.D_is_label.F sc_is_label (fun cdv A outer s H E hr => (is_cons (is_if (it_not (it_val (ie_isi rfl T.n_isinstance (ia_cons (ie_var 0) (ia_cons (ie_ty (T := "str") rfl T.n_str (by decide +kernel)) ia_nil)))))
    (is_one (is_ret ie_bl))
    is_nil)
    (is_one (is_ret (ie_or (ie_eq hr (ie_var 0) (ie_gstr (i := c_WILD) T.c_WILD.choose_spec)) (ie_one (ie_callF (fn__is_plain T) (hr.mono (by decide)) (takes_of rfl rfl rfl rfl) (ia_cons (ie_var 0) ia_nil)))))))), T.D_is_label.m, T.D_is_label.F.kp, T.D_is_label.b⟩
/-! is_asked -/
theorem sc_is_asked : FnScope ["value", "label"] ["value"] (defScope (top 14)) := ⟨rfl, rfl, rfl, by decide +kernel, rfl, by decide +kernel, by decide +kernel⟩
def b_is_asked : DS := (sRet (dAndV (dApp isiW (dCons (dVar 0) (dCons (dC (.gl (.ty "tuple"))) dNil))) (dApp allW (dCons (dLc (dIt (dVar 0)) [1] (tName 1) dYes (dAndV (dApp isiW (dCons (dVar 1) (dCons (dC (.gl (.ty "str"))) dNil))) (dCall 1 d__is_plain (dCons (dVar 1) dNil)))) dNil))))
def d_is_asked : List W → Store → Res W := fnDen 2 b_is_asked
def fn_is_asked (T : Txt P w K mg base) : FnF P w K mg base "is_asked" ["value"] 2 1 d_is_asked :=
  ⟨T.D_is_asked.f, T.D_is_asked.fd, fn_ok (k := 1) T.D_is_asked.F sc_is_asked (fun cdv A outer s H E hr => (is_one (is_ret (ie_and (ie_isi rfl T.n_isinstance (ia_cons (ie_var 0) (ia_cons (ie_ty (T := "tuple") rfl T.n_tuple (by decide +kernel)) ia_nil))) (ie_one (ie_all rfl rfl T.n_all (ia_cons (ie_lc (own := [("label", 1)]) rfl sc_is_asked.nd (ii_val (ie_var 0)) (blkOk_by (N := ["value", "label"]) (sc := defScope (top 14)) (own := [("label", 1)]) (by decide +kernel)) (fun _ _ _ _ _ => (ig_name (i := 1) (by decide) ExOk.none sc_is_asked.nd rfl (.inl rfl))) (fun _ _ _ _ _ => (ie_and (ie_isi rfl T.n_isinstance (ia_cons (ie_var 1) (ia_cons (ie_ty (T := "str") rfl T.n_str (by decide +kernel)) ia_nil))) (ie_one (ie_callF (fn__is_plain T) (hr.mono (by decide)) takes0 (ia_cons (ie_var 1) ia_nil)))))) ia_nil))))))), T.D_is_asked.m, T.D_is_asked.F.kp, T.D_is_asked.b⟩
/-! is_name -/
theorem sc_is_name : FnScope ["value"] ["value"] (defScope (top 13)) := ⟨rfl, rfl, rfl, by decide +kernel, rfl, by decide +kernel, by decide +kernel⟩
def b_is_name : DS := (sSeq (sIf (dNot (dBool (dApp isiW (dCons (dVar 0) (dCons (dC (.gl (.ty "tuple"))) dNil)))))
    (sRet (dC (.bl false)))
    sNil)
    (sRet (dCall 1 d_is_asked (dCons (dIf (dBool (dOp eqW (dSl (dVar 0) dNoPart (dPart (dC (.int 1)))) (dTup (dCons (dC (.str c_WILD)) dNil)))) (dSl (dVar 0) (dPart (dC (.int 1))) dNoPart) (dVar 0)) dNil))))
def d_is_name : List W → Store → Res W := fnDen 1 b_is_name
def fn_is_name (T : Txt P w K mg base) : FnF P w K mg base "is_name" ["value"] 3 1 d_is_name :=
  ⟨T.D_is_name.f, T.D_is_name.fd, fn_ok (k := 2) T.D_is_name.F sc_is_name (fun cdv A outer s H E hr => (is_cons (is_if (it_not (it_val (ie_isi rfl T.n_isinstance (ia_cons (ie_var 0) (ia_cons (ie_ty (T := "tuple") rfl T.n_tuple (by decide +kernel)) ia_nil)))))
    (is_one (is_ret ie_bl))
    is_nil)
    (is_one (is_ret (ie_callF (fn_is_asked T) (hr.mono (by decide)) (takes_of rfl rfl rfl rfl) (ia_cons (ie_if (it_eq hr (ie_slice (ie_var 0) io_none (io_some ie_int)) (ie_tup (ia_cons (ie_gstr (i := c_WILD) T.c_WILD.choose_spec) ia_nil))) (ie_slice (ie_var 0) (io_some ie_int) io_none) (ie_var 0)) ia_nil)))))), T.D_is_name.m, T.D_is_name.F.kp, T.D_is_name.b⟩
/-! check_name -/
theorem sc_check_name : FnScope ["name"] ["name"] (defScope (top 15)) := ⟨rfl, rfl, rfl, by decide +kernel, rfl, by decide +kernel, by decide +kernel⟩
def b_check_name : DS := (sIf (dNot (dBool (dCall 1 d_is_name (dCons (dVar 0) dNil))))
    (sRaise "InvalidName" (dCons (dCall 1 (d_rebuilt 8) (dCons (dVar 0) dNil)) dNil))
    sNil)
def d_check_name : List W → Store → Res W := fnDen 1 b_check_name
def fn_check_name (T : Txt P w K mg base) : FnF P w K mg base "check_name" ["name"] 9 1 d_check_name :=
  ⟨T.D_check_name.f, T.D_check_name.fd, fn_ok (k := 8) T.D_check_name.F sc_check_name (fun cdv A outer s H E hr => (is_one (is_if (it_not (it_val (ie_callF (fn_is_name T) (hr.mono (by decide)) (takes_of rfl rfl rfl rfl) (ia_cons (ie_var 0) ia_nil))))
    (is_one (is_raiseF T.E_InvalidName (hr.mono (by decide)) (takes_of rfl rfl rfl rfl) (ia_cons (ie_callF (fn_rebuilt T 8) (hr.mono (by decide)) (takes_of rfl rfl rfl rfl) (ia_cons (ie_var 0) ia_nil)) ia_nil)))
    is_nil))), T.D_check_name.m, T.D_check_name.F.kp, T.D_check_name.b⟩
/-! name_of -/
theorem sc_name_of : FnScope ["text", "name"] ["text"] (defScope (top 16)) := ⟨rfl, rfl, rfl, by decide +kernel, rfl, by decide +kernel, by decide +kernel⟩
def b_name_of : DS := (sSeq (sIf (dBool (dOp eqW (dVar 0) (dC (.str "."))))
    (sRet (dTup dNil))
    sNil)
    (sSeq (sIf (dOr (dNot (dBool (dApp isiW (dCons (dVar 0) (dCons (dC (.gl (.ty "str"))) dNil))))) (dNot (dBool (dBm tyS endswithW (dVar 0) (dCons (dC (.str ".")) dNil)))))
    (sRaise "Unreadable" (dCons (dCall 1 (d_rebuilt 8) (dCons (dVar 0) dNil)) dNil))
    sNil)
    (sSeq (sAsg (dApp tupleW (dCons (dBm tyS splitW (dSl (dVar 0) dNoPart (dPart (dUn negW (dC (.int 1))))) (dCons (dC (.str ".")) dNil)) dNil)) (tName 1))
    (sSeq (sIf (dNot (dBool (dCall 1 d_is_name (dCons (dVar 1) dNil))))
    (sRaise "Unreadable" (dCons (dVar 0) dNil))
    sNil)
    (sRet (dVar 1))))))
def d_name_of : List W → Store → Res W := fnDen 2 b_name_of
def fn_name_of (T : Txt P w K mg base) : FnF P w K mg base "name_of" ["text"] 9 1 d_name_of :=
  ⟨T.D_name_of.f, T.D_name_of.fd, fn_ok (k := 8) T.D_name_of.F sc_name_of (fun cdv A outer s H E hr => (is_cons (is_if (it_eq hr (ie_var 0) ie_str)
    (is_one (is_ret (ie_tup ia_nil)))
    is_nil)
    (is_cons (is_if (it_w (iw_or (it_not (it_val (ie_isi rfl T.n_isinstance (ia_cons (ie_var 0) (ia_cons (ie_ty (T := "str") rfl T.n_str (by decide +kernel)) ia_nil))))) (iw_or1 (it_not (it_val (ie_endswith (ie_var 0) (ia_cons ie_str ia_nil)))))))
    (is_one (is_raiseF T.E_Unreadable (hr.mono (by decide)) (takes_of rfl rfl rfl rfl) (ia_cons (ie_callF (fn_rebuilt T 8) (hr.mono (by decide)) (takes_of rfl rfl rfl rfl) (ia_cons (ie_var 0) ia_nil)) ia_nil)))
    is_nil)
    (is_cons (is_set (i := 1) ExOk.none sc_name_of.nd rfl (.inl rfl) (ie_tuple rfl T.n_tuple (ia_cons (ie_split (ie_slice (ie_var 0) io_none (io_some (ie_neg ie_int))) (ia_cons ie_str ia_nil)) ia_nil)))
    (is_cons (is_if (it_not (it_val (ie_callF (fn_is_name T) (hr.mono (by decide)) (takes_of rfl rfl rfl rfl) (ia_cons (ie_var 1) ia_nil))))
    (is_one (is_raiseF T.E_Unreadable (hr.mono (by decide)) (takes_of rfl rfl rfl rfl) (ia_cons (ie_var 0) ia_nil)))
    is_nil)
    (is_one (is_ret (ie_var 1)))))))), T.D_name_of.m, T.D_name_of.F.kp, T.D_name_of.b⟩
/-! show_name -/
theorem sc_show_name : FnScope ["name", "label"] ["name"] (defScope (top 17)) := ⟨rfl, rfl, rfl, by decide +kernel, rfl, by decide +kernel, by decide +kernel⟩
def b_show_name : DS := (sSeq (sExpr (dCall 1 d_check_name (dCons (dVar 0) dNil)))
    (sSeq (sIf (dBool (dOp eqW (dVar 0) (dTup dNil)))
    (sRet (dC (.str ".")))
    sNil)
    (sRet (dBm tyS joinW (dC (.str "")) (dCons (dLc (dIt (dVar 0)) [1] (tName 1) dYes (dOp addW (dVar 1) (dC (.str ".")))) dNil)))))
def d_show_name : List W → Store → Res W := fnDen 2 b_show_name
def fn_show_name (T : Txt P w K mg base) : FnF P w K mg base "show_name" ["name"] 10 1 d_show_name :=
  ⟨T.D_show_name.f, T.D_show_name.fd, fn_ok (k := 9) T.D_show_name.F sc_show_name (fun cdv A outer s H E hr => (is_cons (is_expr (ie_callF (fn_check_name T) (hr.mono (by decide)) (takes_of rfl rfl rfl rfl) (ia_cons (ie_var 0) ia_nil)))
    (is_cons (is_if (it_eq hr (ie_var 0) (ie_tup ia_nil))
    (is_one (is_ret ie_str))
    is_nil)
    (is_one (is_ret (ie_join ie_str (ia_cons (ie_lc (own := [("label", 1)]) rfl sc_show_name.nd (ii_val (ie_var 0)) (blkOk_by (N := ["name", "label"]) (sc := defScope (top 17)) (own := [("label", 1)]) (by decide +kernel)) (fun _ _ _ _ _ => (ig_name (i := 1) (by decide) ExOk.none sc_show_name.nd rfl (.inl rfl))) (fun _ _ _ _ _ => (ie_add (ie_var 1) ie_str))) ia_nil))))))), T.D_show_name.m, T.D_show_name.F.kp, T.D_show_name.b⟩
/-! _law_pot -/
theorem sc__law_pot : FnScope ["_law_script", "_law_k", "_law_cell", "_law_mix", "_law_other"] ["_law_script", "_law_k"] (defScope (top 19)) := ⟨rfl, rfl, rfl, by decide +kernel, rfl, by decide +kernel, by decide +kernel⟩
def b__law_pot : DS := (sSeq (sAsg (dOp addW (dC (.int 29)) (dOp mulW (dC (.int 11)) (dVar 1))) (tName 2))
    (sSeq (sIf (dBool (dOp ltW (dVar 1) (dApp lenW (dCons (dVar 0) dNil))))
    (sAsg (dOp ixW (dVar 0) (dVar 1)) (tName 2))
    sNil)
    (sSeq (sAsg (dC (.int 1)) (tName 3))
    (sSeq (sFor (dIt (dVar 0)) (tName 4)
    (sAsg (dOp modW (dApp intOfW (dCons (dOp addW (dOp mulW (dVar 3) (dC (.int 131))) (dVar 4)) dNil)) (dOp addW (dOp powW (dC (.int 10)) (dC (.int 33))) (dC (.int 61)))) (tName 3)))
    (sRet (dLst (dCons (dApp maxW (dCons (dC (.int 0)) (dCons (dOp subW (dVar 2) (dOp powW (dC (.int 10)) (dC (.int 18)))) dNil))) (dCons (dOp modW (dApp intOfW (dCons (dOp addW (dOp addW (dOp mulW (dVar 3) (dC (.int 977))) (dApp absW (dCons (dVar 2) dNil))) (dOp mulW (dC (.int 13)) (dVar 1))) dNil)) (dOp addW (dOp powW (dC (.int 10)) (dC (.int 33))) (dC (.int 61)))) (dCons (dC (.int 0)) dNil)))))))))
def d__law_pot : List W → Store → Res W := fnDen 5 b__law_pot
def fn__law_pot (T : Txt P w K mg base) : FnF P w K mg base "_law_pot" ["_law_script", "_law_k"] 1 2 d__law_pot :=
  ⟨T.D__law_pot.f, T.D__law_pot.fd, fn_ok (k := 0) T.D__law_pot.F sc__law_pot (fun cdv A outer s H E hr => (is_cons (is_set (i := 2) ExOk.none sc__law_pot.nd rfl (.inl rfl) (ie_add ie_int (ie_mul ie_int (ie_var 1))))
    (is_cons (is_if (it_lt (ie_var 1) (ie_len rfl T.n_len (ia_cons (ie_var 0) ia_nil)))
    (is_one (is_set (i := 2) ExOk.none sc__law_pot.nd rfl (.inl rfl) (ie_ix (ie_var 0) (ie_var 1))))
    is_nil)
    (is_cons (is_set (i := 3) ExOk.none sc__law_pot.nd rfl (.inl rfl) ie_int)
    (is_cons (is_for (vs := [4]) (passes_of rfl) rfl (ii_val (ie_var 0)) (ig_name (i := 4) (by decide) ExOk.none sc__law_pot.nd rfl (.inl rfl))
    (is_one (is_set (i := 3) ExOk.none sc__law_pot.nd rfl (.inl rfl) (ie_mod (ie_intOf rfl T.n_int (ia_cons (ie_add (ie_mul (ie_var 3) ie_int) (ie_var 4)) ia_nil)) (ie_add (ie_pow ie_int ie_int) ie_int)))))
    (is_one (is_ret (ie_lst (ia_cons (ie_max rfl rfl T.n_max (ia_cons ie_int (ia_cons (ie_sub (ie_var 2) (ie_pow ie_int ie_int)) ia_nil))) (ia_cons (ie_mod (ie_intOf rfl T.n_int (ia_cons (ie_add (ie_add (ie_mul (ie_var 3) ie_int) (ie_abs rfl T.n_abs (ia_cons (ie_var 2) ia_nil))) (ie_mul ie_int (ie_var 1))) ia_nil)) (ie_add (ie_pow ie_int ie_int) ie_int)) (ia_cons ie_int ia_nil))))))))))), T.D__law_pot.m, T.D__law_pot.F.kp, T.D__law_pot.b⟩
/-! _law_take -/
theorem sc__law_take : FnScope ["_law_pot_here", "_law_many", "_law_mixed", "_law_part"] ["_law_pot_here", "_law_many"] (defScope (top 20)) := ⟨rfl, rfl, rfl, by decide +kernel, rfl, by decide +kernel, by decide +kernel⟩
def b__law_take : DS := (sSeq (sIf (dBool (dOp gtW (dOp ixW (dVar 0) (dC (.int 0))) (dC (.int 0))))
    (sSeq (sAsg (dOp modW (dApp intOfW (dCons (dOp ixW (dVar 0) (dC (.int 0))) dNil)) (dVar 1)) (tName 3))
    (sSeq (sAsg (dOp fdivW (dOp ixW (dVar 0) (dC (.int 0))) (dVar 1)) (tSub (dVar 0) (dC (.int 0))))
    (sRet (dVar 3))))
    sNil)
    (sSeq (sAsg (dOp addW (dOp ixW (dVar 0) (dC (.int 2))) (dC (.int 1))) (tSub (dVar 0) (dC (.int 2))))
    (sSeq (sAsg (dOp modW (dApp intOfW (dCons (dOp addW (dOp powW (dOp addW (dOp ixW (dVar 0) (dC (.int 1))) (dOp mulW (dC (.int 999983)) (dOp ixW (dVar 0) (dC (.int 2))))) (dC (.int 3))) (dOp mulW (dC (.int 7)) (dOp ixW (dVar 0) (dC (.int 2))))) dNil)) (dOp addW (dOp powW (dC (.int 10)) (dC (.int 37))) (dC (.int 43)))) (tName 2))
    (sRet (dOp modW (dApp intOfW (dCons (dOp fdivW (dVar 2) (dC (.int 65537))) dNil)) (dVar 1))))))
def d__law_take : List W → Store → Res W := fnDen 4 b__law_take
def fn__law_take (T : Txt P w K mg base) : FnF P w K mg base "_law_take" ["_law_pot_here", "_law_many"] 1 2 d__law_take :=
  ⟨T.D__law_take.f, T.D__law_take.fd, fn_ok (k := 0) T.D__law_take.F sc__law_take (fun cdv A outer s H E hr => (is_cons (is_if (it_gt (ie_ix (ie_var 0) ie_int) ie_int)
    (is_cons (is_set (i := 3) ExOk.none sc__law_take.nd rfl (.inl rfl) (ie_mod (ie_intOf rfl T.n_int (ia_cons (ie_ix (ie_var 0) ie_int) ia_nil)) (ie_var 1)))
    (is_cons (is_asg (vs := []) (ie_fdiv (ie_ix (ie_var 0) ie_int) (ie_var 1)) (ig_sub (ie_var 0) ie_int))
    (is_one (is_ret (ie_var 3)))))
    is_nil)
    (is_cons (is_asg (vs := []) (ie_add (ie_ix (ie_var 0) ie_int) ie_int) (ig_sub (ie_var 0) ie_int))
    (is_cons (is_set (i := 2) ExOk.none sc__law_take.nd rfl (.inl rfl) (ie_mod (ie_intOf rfl T.n_int (ia_cons (ie_add (ie_pow (ie_add (ie_ix (ie_var 0) ie_int) (ie_mul ie_int (ie_ix (ie_var 0) ie_int))) ie_int) (ie_mul ie_int (ie_ix (ie_var 0) ie_int))) ia_nil)) (ie_add (ie_pow ie_int ie_int) ie_int)))
    (is_one (is_ret (ie_mod (ie_intOf rfl T.n_int (ia_cons (ie_fdiv (ie_var 2) ie_int) ia_nil)) (ie_var 1)))))))), T.D__law_take.m, T.D__law_take.F.kp, T.D__law_take.b⟩
/-! _law_same -/
theorem sc__law_same : FnScope ["_law_told_here", "_law_due", "_law_k"] ["_law_told_here", "_law_due"] (defScope (top 21)) := ⟨rfl, rfl, rfl, by decide +kernel, rfl, by decide +kernel, by decide +kernel⟩
def b__law_same (rec : List W → Store → Res W) : DS := (sSeq (sIf (dBool (dUn (isi2W "tuple" "list") (dVar 1)))
    (sSeq (sIf (dOr (dBool (dOp neW (dApp isiW (dCons (dVar 1) (dCons (dC (.gl (.ty "tuple"))) dNil))) (dApp isiW (dCons (dVar 0) (dCons (dC (.gl (.ty "tuple"))) dNil))))) (dBool (dOp neW (dApp isiW (dCons (dVar 1) (dCons (dC (.gl (.ty "list"))) dNil))) (dApp isiW (dCons (dVar 0) (dCons (dC (.gl (.ty "list"))) dNil))))))
    (sRet (dC (.bl false)))
    sNil)
    (sRet (dAndV (dOp eqW (dApp lenW (dCons (dVar 0) dNil)) (dApp lenW (dCons (dVar 1) dNil))) (dApp allW (dCons (dLc (dRange1 (dCons (dApp lenW (dCons (dVar 1) dNil)) dNil)) [2] (tName 2) dYes (dCall 2 rec (dCons (dOp ixW (dVar 0) (dVar 2)) (dCons (dOp ixW (dVar 1) (dVar 2)) dNil)))) dNil)))))
    sNil)
    (sSeq (sIf (dBool (dOp isNW (dVar 1) (dC .non)))
    (sRet (dOp isNW (dVar 0) (dC .non)))
    sNil)
    (sSeq (sIf (dBool (dApp isiW (dCons (dVar 1) (dCons (dC (.gl (.ty "bool"))) dNil))))
    (sRet (dAndV (dApp isiW (dCons (dVar 0) (dCons (dC (.gl (.ty "bool"))) dNil))) (dOp eqW (dVar 0) (dVar 1))))
    sNil)
    (sSeq (sIf (dBool (dApp isiW (dCons (dVar 1) (dCons (dC (.gl (.ty "int"))) dNil))))
    (sRet (dAndV (dApp isiW (dCons (dVar 0) (dCons (dC (.gl (.ty "int"))) dNil))) (dAndV (dNotV (dApp isiW (dCons (dVar 0) (dCons (dC (.gl (.ty "bool"))) dNil)))) (dOp eqW (dVar 0) (dVar 1)))))
    sNil)
    (sRet (dAndV (dApp isiW (dCons (dVar 1) (dCons (dC (.gl (.ty "str"))) dNil))) (dAndV (dApp isiW (dCons (dVar 0) (dCons (dC (.gl (.ty "str"))) dNil))) (dOp eqW (dVar 0) (dVar 1)))))))))
def d__law_same : Nat → List W → Store → Res W
  | 0 => fun _ _ => .stuck
  | n + 1 => fnDen 3 (b__law_same (d__law_same n))
def fn__law_same (T : Txt P w K mg base) : (n : Nat) → FnF P w K mg base "_law_same" ["_law_told_here", "_law_due"] (0 + n) 2 (d__law_same n)
  | 0 => ⟨T.D__law_same.f, T.D__law_same.fd, fn_stuck, T.D__law_same.m, T.D__law_same.F.kp, T.D__law_same.b⟩
  | n + 1 => ⟨T.D__law_same.f, T.D__law_same.fd, fn_ok (k := 0 + n) T.D__law_same.F sc__law_same (fun cdv A outer s H E hr => (is_cons (is_if (it_val (ie_isi2 (A := "tuple") (B := "list") rfl T.n_isinstance (ie_var 1) rfl T.n_tuple (by decide +kernel) rfl T.n_list (by decide +kernel)))
    (is_cons (is_if (it_w (iw_or (it_ne hr (ie_isi rfl T.n_isinstance (ia_cons (ie_var 1) (ia_cons (ie_ty (T := "tuple") rfl T.n_tuple (by decide +kernel)) ia_nil))) (ie_isi rfl T.n_isinstance (ia_cons (ie_var 0) (ia_cons (ie_ty (T := "tuple") rfl T.n_tuple (by decide +kernel)) ia_nil)))) (iw_or1 (it_ne hr (ie_isi rfl T.n_isinstance (ia_cons (ie_var 1) (ia_cons (ie_ty (T := "list") rfl T.n_list (by decide +kernel)) ia_nil))) (ie_isi rfl T.n_isinstance (ia_cons (ie_var 0) (ia_cons (ie_ty (T := "list") rfl T.n_list (by decide +kernel)) ia_nil)))))))
    (is_one (is_ret ie_bl))
    is_nil)
    (is_one (is_ret (ie_and (ie_eq hr (ie_len rfl T.n_len (ia_cons (ie_var 0) ia_nil)) (ie_len rfl T.n_len (ia_cons (ie_var 1) ia_nil))) (ie_one (ie_all rfl rfl T.n_all (ia_cons (ie_lc (own := [("_law_k", 2)]) rfl sc__law_same.nd (ii_range1 rfl T.n_range (ia_cons (ie_len rfl T.n_len (ia_cons (ie_var 1) ia_nil)) ia_nil)) (blkOk_by (N := ["_law_told_here", "_law_due", "_law_k"]) (sc := defScope (top 21)) (own := [("_law_k", 2)]) (by decide +kernel)) (fun _ _ _ _ _ => (ig_name (i := 2) (by decide) ExOk.none sc__law_same.nd rfl (.inl rfl))) (fun _ _ _ _ _ => (ie_callF (fn__law_same T n) (hr) takes0 (ia_cons (ie_ix (ie_var 0) (ie_var 2)) (ia_cons (ie_ix (ie_var 1) (ie_var 2)) ia_nil))))) ia_nil)))))))
    is_nil)
    (is_cons (is_if (it_isN (ie_var 1) ie_non)
    (is_one (is_ret (ie_isN (ie_var 0) ie_non)))
    is_nil)
    (is_cons (is_if (it_val (ie_isi rfl T.n_isinstance (ia_cons (ie_var 1) (ia_cons (ie_ty (T := "bool") rfl T.n_bool (by decide +kernel)) ia_nil))))
    (is_one (is_ret (ie_and (ie_isi rfl T.n_isinstance (ia_cons (ie_var 0) (ia_cons (ie_ty (T := "bool") rfl T.n_bool (by decide +kernel)) ia_nil))) (ie_one (ie_eq hr (ie_var 0) (ie_var 1))))))
    is_nil)
    (is_cons (is_if (it_val (ie_isi rfl T.n_isinstance (ia_cons (ie_var 1) (ia_cons (ie_ty (T := "int") rfl T.n_int (by decide +kernel)) ia_nil))))
    (is_one (is_ret (ie_and (ie_isi rfl T.n_isinstance (ia_cons (ie_var 0) (ia_cons (ie_ty (T := "int") rfl T.n_int (by decide +kernel)) ia_nil))) (ie_and (ie_notV (ie_isi rfl T.n_isinstance (ia_cons (ie_var 0) (ia_cons (ie_ty (T := "bool") rfl T.n_bool (by decide +kernel)) ia_nil)))) (ie_one (ie_eq hr (ie_var 0) (ie_var 1)))))))
    is_nil)
    (is_one (is_ret (ie_and (ie_isi rfl T.n_isinstance (ia_cons (ie_var 1) (ia_cons (ie_ty (T := "str") rfl T.n_str (by decide +kernel)) ia_nil))) (ie_and (ie_isi rfl T.n_isinstance (ia_cons (ie_var 0) (ia_cons (ie_ty (T := "str") rfl T.n_str (by decide +kernel)) ia_nil))) (ie_one (ie_eq hr (ie_var 0) (ie_var 1)))))))))))), T.D__law_same.m, T.D__law_same.F.kp, T.D__law_same.b⟩
/-! _law_label -/
theorem sc__law_label : FnScope ["_law_pot_here", "_law_ends", "_law_length", "_law_signs", "_law_k"] ["_law_pot_here"] (defScope (top 22)) := ⟨rfl, rfl, rfl, by decide +kernel, rfl, by decide +kernel, by decide +kernel⟩
def b__law_label : DS := (sSeq (sAsg (dC (.str "0123456789abcdefghijklmnopqrstuvwxyz")) (tName 1))
    (sSeq (sAsg (dOp ixW (dLst (dCons (dC (.int 1)) (dCons (dC (.int 2)) (dCons (dC (.int 3)) (dCons (dOp addW (dC (.int 1)) (dCall 2 d__law_take (dCons (dVar 0) (dCons (dC (.int 20)) dNil)))) (dCons (dC (.int 20)) dNil)))))) (dCall 2 d__law_take (dCons (dVar 0) (dCons (dC (.int 5)) dNil)))) (tName 2))
    (sSeq (sAsg (dLc (dRange1 (dCons (dVar 2) dNil)) [4] (tName 4) dYes (dOp ixW (dOp addW (dC (.str "-")) (dVar 1)) (dCall 2 d__law_take (dCons (dVar 0) (dCons (dC (.int 37)) dNil))))) (tName 3))
    (sSeq (sAsg (dOp ixW (dVar 1) (dCall 2 d__law_take (dCons (dVar 0) (dCons (dC (.int 36)) dNil)))) (tSub (dVar 3) (dC (.int 0))))
    (sSeq (sAsg (dOp ixW (dVar 1) (dCall 2 d__law_take (dCons (dVar 0) (dCons (dC (.int 36)) dNil)))) (tSub (dVar 3) (dUn negW (dC (.int 1)))))
    (sRet (dBm tyS joinW (dC (.str "")) (dCons (dVar 3) dNil))))))))
def d__law_label : List W → Store → Res W := fnDen 5 b__law_label
def fn__law_label (T : Txt P w K mg base) : FnF P w K mg base "_law_label" ["_law_pot_here"] 2 1 d__law_label :=
  ⟨T.D__law_label.f, T.D__law_label.fd, fn_ok (k := 1) T.D__law_label.F sc__law_label (fun cdv A outer s H E hr => (is_cons (is_set (i := 1) ExOk.none sc__law_label.nd rfl (.inr rfl) ie_str)
    (is_cons (is_set (i := 2) ExOk.none sc__law_label.nd rfl (.inl rfl) (ie_ix (ie_lst (ia_cons ie_int (ia_cons ie_int (ia_cons ie_int (ia_cons (ie_add ie_int (ie_callF (fn__law_take T) (hr.mono (by decide)) (takes_of rfl rfl rfl rfl) (ia_cons (ie_var 0) (ia_cons ie_int ia_nil)))) (ia_cons ie_int ia_nil)))))) (ie_callF (fn__law_take T) (hr.mono (by decide)) (takes_of rfl rfl rfl rfl) (ia_cons (ie_var 0) (ia_cons ie_int ia_nil)))))
    (is_cons (is_setLc (i := 3) (own := [("_law_k", 4)]) rfl sc__law_label.nd rfl rfl (sw_true rfl rfl rfl (by decide +kernel)) (ii_range1 rfl T.n_range (ia_cons (ie_var 2) ia_nil)) (blkOk_by (N := ["_law_pot_here", "_law_ends", "_law_length", "_law_signs", "_law_k"]) (sc := defScope (top 22)) (own := [("_law_k", 4)]) (by decide +kernel)) (fun _ _ _ _ _ => (ig_name (i := 4) (by decide) ExOk.none sc__law_label.nd rfl (.inl rfl))) (fun _ _ _ _ _ => (ie_ix (ie_add ie_str (ie_var 1)) (ie_callF (fn__law_take T) (hr.mono (by decide)) takes0 (ia_cons (ie_var 0) (ia_cons ie_int ia_nil))))))
    (is_cons (is_asg (vs := []) (ie_ix (ie_var 1) (ie_callF (fn__law_take T) (hr.mono (by decide)) (takes_of rfl rfl rfl rfl) (ia_cons (ie_var 0) (ia_cons ie_int ia_nil)))) (ig_sub (ie_var 3) ie_int))
    (is_cons (is_asg (vs := []) (ie_ix (ie_var 1) (ie_callF (fn__law_take T) (hr.mono (by decide)) (takes_of rfl rfl rfl rfl) (ia_cons (ie_var 0) (ia_cons ie_int ia_nil)))) (ig_sub (ie_var 3) (ie_neg ie_int)))
    (is_one (is_ret (ie_join ie_str (ia_cons (ie_var 3) ia_nil)))))))))), T.D__law_label.m, T.D__law_label.F.kp, T.D__law_label.b⟩
/-! _law_odd -/
theorem sc__law_odd : FnScope ["_law_pot_here", "_law_some"] ["_law_pot_here"] (defScope (top 23)) := ⟨rfl, rfl, rfl, by decide +kernel, rfl, by decide +kernel, by decide +kernel⟩
def b__law_odd : DS := (sSeq (sAsg (dLst (dCons (dC .non) (dCons (dC (.bl true)) (dCons (dC (.int 7)) (dCons (dUn negW (dC (.int 1))) (dCons (dC (.str "")) (dCons (dC (.str "a")) (dCons (dLst (dCons (dC (.str "a")) dNil)) (dCons (dLst dNil) (dCons (dTup (dCons (dC (.str "a")) (dCons (dC (.int 5)) dNil))) (dCons (dTup (dCons (dC (.str "a")) (dCons (dC (.str "*")) dNil))) (dCons (dTup (dCons (dTup (dCons (dC (.str "a")) dNil)) dNil)) (dCons (dTup (dCons (dC (.str "")) dNil)) (dCons (dTup (dCons (dC (.str "*")) (dCons (dC (.str "*")) dNil))) (dCons (dC (.str "a.")) dNil))))))))))))))) (tName 1))
    (sSeq (sAsg (dOp addW (dVar 1) (dLst (dCons (dTup (dCons (dC (.str "a-")) dNil)) (dCons (dTup (dCons (dC (.str "-")) dNil)) (dCons (dTup (dCons (dC (.str "A")) dNil)) (dCons (dTup (dCons (dC (.str "a b")) dNil)) (dCons (dTup (dCons (dC (.str "a")) (dCons (dC .non) dNil))) (dCons (dLst (dCons (dTup (dCons (dC (.str "a")) dNil)) dNil)) (dCons (dTup (dCons (dOp mulW (dC (.str "a")) (dC (.int 21))) dNil)) (dCons (dTup (dCons (dC (.str "a")) (dCons (dC (.str "")) (dCons (dC (.str "b")) dNil)))) (dCons (dTup (dCons (dC (.str "**")) dNil)) dNil))))))))))) (tName 1))
    (sRet (dOp ixW (dVar 1) (dCall 2 d__law_take (dCons (dVar 0) (dCons (dApp lenW (dCons (dVar 1) dNil)) dNil)))))))
def d__law_odd : List W → Store → Res W := fnDen 2 b__law_odd
def fn__law_odd (T : Txt P w K mg base) : FnF P w K mg base "_law_odd" ["_law_pot_here"] 2 1 d__law_odd :=
  ⟨T.D__law_odd.f, T.D__law_odd.fd, fn_ok (k := 1) T.D__law_odd.F sc__law_odd (fun cdv A outer s H E hr => (is_cons (is_set (i := 1) ExOk.none sc__law_odd.nd rfl (.inl rfl) (ie_lst (ia_cons ie_non (ia_cons ie_bl (ia_cons ie_int (ia_cons (ie_neg ie_int) (ia_cons ie_str (ia_cons ie_str (ia_cons (ie_lst (ia_cons ie_str ia_nil)) (ia_cons (ie_lst ia_nil) (ia_cons (ie_tup (ia_cons ie_str (ia_cons ie_int ia_nil))) (ia_cons (ie_tup (ia_cons ie_str (ia_cons ie_str ia_nil))) (ia_cons (ie_tup (ia_cons (ie_tup (ia_cons ie_str ia_nil)) ia_nil)) (ia_cons (ie_tup (ia_cons ie_str ia_nil)) (ia_cons (ie_tup (ia_cons ie_str (ia_cons ie_str ia_nil))) (ia_cons ie_str ia_nil))))))))))))))))
    (is_cons (is_set (i := 1) ExOk.none sc__law_odd.nd rfl (.inl rfl) (ie_add (ie_var 1) (ie_lst (ia_cons (ie_tup (ia_cons ie_str ia_nil)) (ia_cons (ie_tup (ia_cons ie_str ia_nil)) (ia_cons (ie_tup (ia_cons ie_str ia_nil)) (ia_cons (ie_tup (ia_cons ie_str ia_nil)) (ia_cons (ie_tup (ia_cons ie_str (ia_cons ie_non ia_nil))) (ia_cons (ie_lst (ia_cons (ie_tup (ia_cons ie_str ia_nil)) ia_nil)) (ia_cons (ie_tup (ia_cons (ie_mul ie_str ie_int) ia_nil)) (ia_cons (ie_tup (ia_cons ie_str (ia_cons ie_str (ia_cons ie_str ia_nil)))) (ia_cons (ie_tup (ia_cons ie_str ia_nil)) ia_nil))))))))))))
    (is_one (is_ret (ie_ix (ie_var 1) (ie_callF (fn__law_take T) (hr.mono (by decide)) (takes_of rfl rfl rfl rfl) (ia_cons (ie_var 0) (ia_cons (ie_len rfl T.n_len (ia_cons (ie_var 1) ia_nil)) ia_nil))))))))), T.D__law_odd.m, T.D__law_odd.F.kp, T.D__law_odd.b⟩
/-! _law_is_label -/
theorem sc__law_is_label : FnScope ["_law_value", "_law_good", "_law_sign"] ["_law_value"] (defScope (top 24)) := ⟨rfl, rfl, rfl, by decide +kernel, rfl, by decide +kernel, by decide +kernel⟩
def b__law_is_label : DS := (sSeq (sIf (dOr (dNot (dBool (dApp isiW (dCons (dVar 0) (dCons (dC (.gl (.ty "str"))) dNil))))) (dOr (dBool (dOp ltW (dApp lenW (dCons (dVar 0) dNil)) (dC (.int 1)))) (dBool (dOp gtW (dApp lenW (dCons (dVar 0) dNil)) (dC (.int 20))))))
    (sRet (dC (.bl false)))
    sNil)
    (sSeq (sIf (dBool (dOp eqW (dVar 0) (dC (.str "*"))))
    (sRet (dC (.bl true)))
    sNil)
    (sSeq (sAsg (dC (.str "abcdefghijklmnopqrstuvwxyz0123456789-")) (tName 1))
    (sRet (dAndV (dApp allW (dCons (dLc (dIt (dVar 0)) [2] (tName 2) dYes (dOp (inW false) (dVar 2) (dVar 1))) dNil)) (dAndV (dOp neW (dOp ixW (dVar 0) (dC (.int 0))) (dC (.str "-"))) (dOp neW (dOp ixW (dVar 0) (dOp subW (dApp lenW (dCons (dVar 0) dNil)) (dC (.int 1)))) (dC (.str "-")))))))))
def d__law_is_label : List W → Store → Res W := fnDen 3 b__law_is_label
def fn__law_is_label (T : Txt P w K mg base) : FnF P w K mg base "_law_is_label" ["_law_value"] 1 1 d__law_is_label :=
  ⟨T.D__law_is_label.f, T.D__law_is_label.fd, fn_ok (k := 0) T.D__law_is_label.F sc__law_is_label (fun cdv A outer s H E hr => (is_cons (is_if (it_w (iw_or (it_not (it_val (ie_isi rfl T.n_isinstance (ia_cons (ie_var 0) (ia_cons (ie_ty (T := "str") rfl T.n_str (by decide +kernel)) ia_nil))))) (iw_or (it_lt (ie_len rfl T.n_len (ia_cons (ie_var 0) ia_nil)) ie_int) (iw_or1 (it_gt (ie_len rfl T.n_len (ia_cons (ie_var 0) ia_nil)) ie_int)))))
    (is_one (is_ret ie_bl))
    is_nil)
    (is_cons (is_if (it_eq hr (ie_var 0) ie_str)
    (is_one (is_ret ie_bl))
    is_nil)
    (is_cons (is_set (i := 1) ExOk.none sc__law_is_label.nd rfl (.inr rfl) ie_str)
    (is_one (is_ret (ie_and (ie_all rfl rfl T.n_all (ia_cons (ie_lc (own := [("_law_sign", 2)]) rfl sc__law_is_label.nd (ii_val (ie_var 0)) (blkOk_by (N := ["_law_value", "_law_good", "_law_sign"]) (sc := defScope (top 24)) (own := [("_law_sign", 2)]) (by decide +kernel)) (fun _ _ _ _ _ => (ig_name (i := 2) (by decide) ExOk.none sc__law_is_label.nd rfl (.inl rfl))) (fun _ _ _ _ _ => (ie_in (ie_var 2) (ie_var 1)))) ia_nil)) (ie_and (ie_ne hr (ie_ix (ie_var 0) ie_int) ie_str) (ie_one (ie_ne hr (ie_ix (ie_var 0) (ie_sub (ie_len rfl T.n_len (ia_cons (ie_var 0) ia_nil)) ie_int)) ie_str)))))))))), T.D__law_is_label.m, T.D__law_is_label.F.kp, T.D__law_is_label.b⟩
/-! _law_is_name -/
theorem sc__law_is_name : FnScope ["_law_value", "_law_k", "_law_label_here"] ["_law_value"] (defScope (top 25)) := ⟨rfl, rfl, rfl, by decide +kernel, rfl, by decide +kernel, by decide +kernel⟩
def b__law_is_name : DS := (sSeq (sIf (dOr (dNot (dBool (dApp isiW (dCons (dVar 0) (dCons (dC (.gl (.ty "tuple"))) dNil))))) (dNot (dBool (dApp allW (dCons (dLc (dIt (dVar 0)) [2] (tName 2) dYes (dCall 1 d__law_is_label (dCons (dVar 2) dNil))) dNil)))))
    (sRet (dC (.bl false)))
    sNil)
    (sRet (dApp allW (dCons (dLc (dRange2 (dCons (dC (.int 1)) (dCons (dApp lenW (dCons (dVar 0) dNil)) dNil))) [1] (tName 1) dYes (dOp neW (dOp ixW (dVar 0) (dVar 1)) (dC (.str "*")))) dNil))))
def d__law_is_name : List W → Store → Res W := fnDen 3 b__law_is_name
def fn__law_is_name (T : Txt P w K mg base) : FnF P w K mg base "_law_is_name" ["_law_value"] 2 1 d__law_is_name :=
  ⟨T.D__law_is_name.f, T.D__law_is_name.fd, fn_ok (k := 1) T.D__law_is_name.F sc__law_is_name (fun cdv A outer s H E hr => (is_cons (is_if (it_w (iw_or (it_not (it_val (ie_isi rfl T.n_isinstance (ia_cons (ie_var 0) (ia_cons (ie_ty (T := "tuple") rfl T.n_tuple (by decide +kernel)) ia_nil))))) (iw_or1 (it_not (it_val (ie_all rfl rfl T.n_all (ia_cons (ie_lc (own := [("_law_label_here", 2)]) rfl sc__law_is_name.nd (ii_val (ie_var 0)) (blkOk_by (N := ["_law_value", "_law_k", "_law_label_here"]) (sc := defScope (top 25)) (own := [("_law_label_here", 2)]) (by decide +kernel)) (fun _ _ _ _ _ => (ig_name (i := 2) (by decide) ExOk.none sc__law_is_name.nd rfl (.inl rfl))) (fun _ _ _ _ _ => (ie_callF (fn__law_is_label T) (hr.mono (by decide)) takes0 (ia_cons (ie_var 2) ia_nil)))) ia_nil)))))))
    (is_one (is_ret ie_bl))
    is_nil)
    (is_one (is_ret (ie_all rfl rfl T.n_all (ia_cons (ie_lc (own := [("_law_k", 1)]) rfl sc__law_is_name.nd (ii_range2 rfl T.n_range (ia_cons ie_int (ia_cons (ie_len rfl T.n_len (ia_cons (ie_var 0) ia_nil)) ia_nil))) (blkOk_by (N := ["_law_value", "_law_k", "_law_label_here"]) (sc := defScope (top 25)) (own := [("_law_k", 1)]) (by decide +kernel)) (fun _ _ _ _ _ => (ig_name (i := 1) (by decide) ExOk.none sc__law_is_name.nd rfl (.inl rfl))) (fun _ _ _ _ _ => (ie_ne hr (ie_ix (ie_var 0) (ie_var 1)) ie_str))) ia_nil)))))), T.D__law_is_name.m, T.D__law_is_name.F.kp, T.D__law_is_name.b⟩
/-! _law_any_label -/
theorem sc__law_any_label : FnScope ["_law_pot_here", "_law_way", "_law_text", "_law_wide", "_law_at", "_law_k"] ["_law_pot_here"] (defScope (top 26)) := ⟨rfl, rfl, rfl, by decide +kernel, rfl, by decide +kernel, by decide +kernel⟩
def b__law_any_label : DS := (sSeq (sAsg (dCall 2 d__law_take (dCons (dVar 0) (dCons (dC (.int 9)) dNil))) (tName 1))
    (sSeq (sAsg (dCall 1 d__law_label (dCons (dVar 0) dNil)) (tName 2))
    (sSeq (sIf (dBool (dOp eqW (dVar 1) (dC (.int 6))))
    (sRet (dC (.str "*")))
    sNil)
    (sSeq (sIf (dBool (dOp eqW (dVar 1) (dC (.int 7))))
    (sSeq (sAsg (dC (.str "ab0-*._A ~")) (tName 3))
    (sRet (dBm tyS joinW (dC (.str "")) (dCons (dLc (dRange1 (dCons (dCall 2 d__law_take (dCons (dVar 0) (dCons (dC (.int 23)) dNil))) dNil)) [5] (tName 5) dYes (dOp ixW (dVar 3) (dCall 2 d__law_take (dCons (dVar 0) (dCons (dC (.int 10)) dNil))))) dNil))))
    sNil)
    (sSeq (sIf (dBool (dOp eqW (dVar 1) (dC (.int 8))))
    (sSeq (sAsg (dCall 2 d__law_take (dCons (dVar 0) (dCons (dOp addW (dApp lenW (dCons (dVar 2) dNil)) (dC (.int 1))) dNil))) (tName 4))
    (sRet (dOp addW (dOp addW (dSl (dVar 2) dNoPart (dPart (dVar 4))) (dOp ixW (dC (.str "-*.Z _a")) (dCall 2 d__law_take (dCons (dVar 0) (dCons (dC (.int 7)) dNil))))) (dSl (dVar 2) (dPart (dOp addW (dVar 4) (dCall 2 d__law_take (dCons (dVar 0) (dCons (dC (.int 2)) dNil))))) dNoPart))))
    sNil)
    (sRet (dVar 2)))))))
def d__law_any_label : List W → Store → Res W := fnDen 6 b__law_any_label
def fn__law_any_label (T : Txt P w K mg base) : FnF P w K mg base "_law_any_label" ["_law_pot_here"] 3 1 d__law_any_label :=
  ⟨T.D__law_any_label.f, T.D__law_any_label.fd, fn_ok (k := 2) T.D__law_any_label.F sc__law_any_label (fun cdv A outer s H E hr => (is_cons (is_set (i := 1) ExOk.none sc__law_any_label.nd rfl (.inl rfl) (ie_callF (fn__law_take T) (hr.mono (by decide)) (takes_of rfl rfl rfl rfl) (ia_cons (ie_var 0) (ia_cons ie_int ia_nil))))
    (is_cons (is_set (i := 2) ExOk.none sc__law_any_label.nd rfl (.inl rfl) (ie_callF (fn__law_label T) (hr.mono (by decide)) (takes_of rfl rfl rfl rfl) (ia_cons (ie_var 0) ia_nil)))
    (is_cons (is_if (it_eq hr (ie_var 1) ie_int)
    (is_one (is_ret ie_str))
    is_nil)
    (is_cons (is_if (it_eq hr (ie_var 1) ie_int)
    (is_cons (is_set (i := 3) ExOk.none sc__law_any_label.nd rfl (.inr rfl) ie_str)
    (is_one (is_ret (ie_join ie_str (ia_cons (ie_lc (own := [("_law_k", 5)]) rfl sc__law_any_label.nd (ii_range1 rfl T.n_range (ia_cons (ie_callF (fn__law_take T) (hr.mono (by decide)) (takes_of rfl rfl rfl rfl) (ia_cons (ie_var 0) (ia_cons ie_int ia_nil))) ia_nil)) (blkOk_by (N := ["_law_pot_here", "_law_way", "_law_text", "_law_wide", "_law_at", "_law_k"]) (sc := defScope (top 26)) (own := [("_law_k", 5)]) (by decide +kernel)) (fun _ _ _ _ _ => (ig_name (i := 5) (by decide) ExOk.none sc__law_any_label.nd rfl (.inl rfl))) (fun _ _ _ _ _ => (ie_ix (ie_var 3) (ie_callF (fn__law_take T) (hr.mono (by decide)) takes0 (ia_cons (ie_var 0) (ia_cons ie_int ia_nil)))))) ia_nil)))))
    is_nil)
    (is_cons (is_if (it_eq hr (ie_var 1) ie_int)
    (is_cons (is_set (i := 4) ExOk.none sc__law_any_label.nd rfl (.inl rfl) (ie_callF (fn__law_take T) (hr.mono (by decide)) (takes_of rfl rfl rfl rfl) (ia_cons (ie_var 0) (ia_cons (ie_add (ie_len rfl T.n_len (ia_cons (ie_var 2) ia_nil)) ie_int) ia_nil))))
    (is_one (is_ret (ie_add (ie_add (ie_slice (ie_var 2) io_none (io_some (ie_var 4))) (ie_ix ie_str (ie_callF (fn__law_take T) (hr.mono (by decide)) (takes_of rfl rfl rfl rfl) (ia_cons (ie_var 0) (ia_cons ie_int ia_nil))))) (ie_slice (ie_var 2) (io_some (ie_add (ie_var 4) (ie_callF (fn__law_take T) (hr.mono (by decide)) (takes_of rfl rfl rfl rfl) (ia_cons (ie_var 0) (ia_cons ie_int ia_nil))))) io_none)))))
    is_nil)
    (is_one (is_ret (ie_var 2))))))))), T.D__law_any_label.m, T.D__law_any_label.F.kp, T.D__law_any_label.b⟩
/-! _law_some_labels -/
theorem sc__law_some_labels : FnScope ["_law_pot_here", "_law_many", "_law_k"] ["_law_pot_here"] (defScope (top 27)) := ⟨rfl, rfl, rfl, by decide +kernel, rfl, by decide +kernel, by decide +kernel⟩
def b__law_some_labels : DS := (sSeq (sAsg (dOp ixW (dLst (dCons (dCall 2 d__law_take (dCons (dVar 0) (dCons (dC (.int 4)) dNil))) (dCons (dC (.int 12)) dNil))) (dApp intOfW (dCons (dOp eqW (dCall 2 d__law_take (dCons (dVar 0) (dCons (dC (.int 8)) dNil))) (dC (.int 7))) dNil))) (tName 1))
    (sSeq (sIf (dBool (dOp eqW (dCall 2 d__law_take (dCons (dVar 0) (dCons (dC (.int 2)) dNil))) (dC (.int 0))))
    (sRet (dOp addW (dOp mulW (dLst (dCons (dC (.str "*")) dNil)) (dCall 2 d__law_take (dCons (dVar 0) (dCons (dC (.int 2)) dNil)))) (dLc (dRange1 (dCons (dApp minW (dCons (dVar 1) (dCons (dC (.int 11)) dNil))) dNil)) [2] (tName 2) dYes (dCall 1 d__law_label (dCons (dVar 0) dNil)))))
    sNil)
    (sRet (dLc (dRange1 (dCons (dVar 1) dNil)) [2] (tName 2) dYes (dCall 1 d__law_any_label (dCons (dVar 0) dNil))))))
def d__law_some_labels : List W → Store → Res W := fnDen 3 b__law_some_labels
def fn__law_some_labels (T : Txt P w K mg base) : FnF P w K mg base "_law_some_labels" ["_law_pot_here"] 4 1 d__law_some_labels :=
  ⟨T.D__law_some_labels.f, T.D__law_some_labels.fd, fn_ok (k := 3) T.D__law_some_labels.F sc__law_some_labels (fun cdv A outer s H E hr => (is_cons (is_set (i := 1) ExOk.none sc__law_some_labels.nd rfl (.inl rfl) (ie_ix (ie_lst (ia_cons (ie_callF (fn__law_take T) (hr.mono (by decide)) (takes_of rfl rfl rfl rfl) (ia_cons (ie_var 0) (ia_cons ie_int ia_nil))) (ia_cons ie_int ia_nil))) (ie_intOf rfl T.n_int (ia_cons (ie_eq hr (ie_callF (fn__law_take T) (hr.mono (by decide)) (takes_of rfl rfl rfl rfl) (ia_cons (ie_var 0) (ia_cons ie_int ia_nil))) ie_int) ia_nil))))
    (is_cons (is_if (it_eq hr (ie_callF (fn__law_take T) (hr.mono (by decide)) (takes_of rfl rfl rfl rfl) (ia_cons (ie_var 0) (ia_cons ie_int ia_nil))) ie_int)
    (is_one (is_ret (ie_add (ie_mul (ie_lst (ia_cons ie_str ia_nil)) (ie_callF (fn__law_take T) (hr.mono (by decide)) (takes_of rfl rfl rfl rfl) (ia_cons (ie_var 0) (ia_cons ie_int ia_nil)))) (ie_lc (own := [("_law_k", 2)]) rfl sc__law_some_labels.nd (ii_range1 rfl T.n_range (ia_cons (ie_min rfl rfl T.n_min (ia_cons (ie_var 1) (ia_cons ie_int ia_nil))) ia_nil)) (blkOk_by (N := ["_law_pot_here", "_law_many", "_law_k"]) (sc := defScope (top 27)) (own := [("_law_k", 2)]) (by decide +kernel)) (fun _ _ _ _ _ => (ig_name (i := 2) (by decide) ExOk.none sc__law_some_labels.nd rfl (.inl rfl))) (fun _ _ _ _ _ => (ie_callF (fn__law_label T) (hr.mono (by decide)) takes0 (ia_cons (ie_var 0) ia_nil)))))))
    is_nil)
    (is_one (is_ret (ie_lc (own := [("_law_k", 2)]) rfl sc__law_some_labels.nd (ii_range1 rfl T.n_range (ia_cons (ie_var 1) ia_nil)) (blkOk_by (N := ["_law_pot_here", "_law_many", "_law_k"]) (sc := defScope (top 27)) (own := [("_law_k", 2)]) (by decide +kernel)) (fun _ _ _ _ _ => (ig_name (i := 2) (by decide) ExOk.none sc__law_some_labels.nd rfl (.inl rfl))) (fun _ _ _ _ _ => (ie_callF (fn__law_any_label T) (hr.mono (by decide)) takes0 (ia_cons (ie_var 0) ia_nil))))))))), T.D__law_some_labels.m, T.D__law_some_labels.F.kp, T.D__law_some_labels.b⟩
/-! _law_labels_right -/
theorem sc__law_labels_right : FnScope ["_law_pot_here", "_law_turn", "_law_value"] ["_law_pot_here"] (defScope (top 28)) := ⟨rfl, rfl, rfl, by decide +kernel, rfl, by decide +kernel, by decide +kernel⟩
def b__law_labels_right : DS := (sSeq (sFor (dRange1 (dCons (dC (.int 5)) dNil)) (tName 1)
    (sSeq (sAsg (dCall 1 d__law_any_label (dCons (dVar 0) dNil)) (tName 2))
    (sSeq (sIf (dBool (dOp eqW (dCall 2 d__law_take (dCons (dVar 0) (dCons (dC (.int 5)) dNil))) (dC (.int 4))))
    (sAsg (dCall 1 d__law_odd (dCons (dVar 0) dNil)) (tName 2))
    sNil)
    (sSeq (sIf (dNot (dBool (dCall 2 (d__law_same 8) (dCons (dCall 1 d_is_label (dCons (dVar 2) dNil)) (dCons (dCall 1 d__law_is_label (dCons (dVar 2) dNil)) dNil)))))
    (sRet (dC (.bl false)))
    sNil)
    (sIf (dNot (dBool (dCall 2 (d__law_same 8) (dCons (dCall 1 d_is_label (dCons (dVar 2) dNil)) (dCons (dCall 1 d__law_is_label (dCons (dVar 2) dNil)) dNil)))))
    (sRet (dC (.bl false)))
    sNil)))))
    (sRet (dC (.bl true))))
def d__law_labels_right : List W → Store → Res W := fnDen 3 b__law_labels_right
def fn__law_labels_right (T : Txt P w K mg base) : FnF P w K mg base "_law_labels_right" ["_law_pot_here"] 9 1 d__law_labels_right :=
  ⟨T.D__law_labels_right.f, T.D__law_labels_right.fd, fn_ok (k := 8) T.D__law_labels_right.F sc__law_labels_right (fun cdv A outer s H E hr => (is_cons (is_for (vs := [1]) (passes_of rfl) rfl (ii_range1 rfl T.n_range (ia_cons ie_int ia_nil)) (ig_name (i := 1) (by decide) ExOk.none sc__law_labels_right.nd rfl (.inl rfl))
    (is_cons (is_set (i := 2) ExOk.none sc__law_labels_right.nd rfl (.inl rfl) (ie_callF (fn__law_any_label T) (hr.mono (by decide)) (takes_of rfl rfl rfl rfl) (ia_cons (ie_var 0) ia_nil)))
    (is_cons (is_if (it_eq hr (ie_callF (fn__law_take T) (hr.mono (by decide)) (takes_of rfl rfl rfl rfl) (ia_cons (ie_var 0) (ia_cons ie_int ia_nil))) ie_int)
    (is_one (is_set (i := 2) ExOk.none sc__law_labels_right.nd rfl (.inl rfl) (ie_callF (fn__law_odd T) (hr.mono (by decide)) (takes_of rfl rfl rfl rfl) (ia_cons (ie_var 0) ia_nil))))
    is_nil)
    (is_cons (is_if (it_not (it_val (ie_callF (fn__law_same T 8) (hr.mono (by decide)) (takes_of rfl rfl rfl rfl) (ia_cons (ie_callF (fn_is_label T) (hr.mono (by decide)) (takes_of rfl rfl rfl rfl) (ia_cons (ie_var 2) ia_nil)) (ia_cons (ie_callF (fn__law_is_label T) (hr.mono (by decide)) (takes_of rfl rfl rfl rfl) (ia_cons (ie_var 2) ia_nil)) ia_nil)))))
    (is_one (is_ret ie_bl))
    is_nil)
    (is_one (is_if (it_not (it_val (ie_callF (fn__law_same T 8) (hr.mono (by decide)) (takes_of rfl rfl rfl rfl) (ia_cons (ie_callFK (fn_is_label T) (hr.mono (by decide)) (takes_of rfl rfl rfl rfl) T.k_is_label (ik_cons (ie_var 2) ik_nil)) (ia_cons (ie_callF (fn__law_is_label T) (hr.mono (by decide)) (takes_of rfl rfl rfl rfl) (ia_cons (ie_var 2) ia_nil)) ia_nil)))))
    (is_one (is_ret ie_bl))
    is_nil))))))
    (is_one (is_ret ie_bl)))), T.D__law_labels_right.m, T.D__law_labels_right.F.kp, T.D__law_labels_right.b⟩
/-! _law_shown -/
theorem sc__law_shown : FnScope ["_law_value", "_law_found", "error"] ["_law_value"] (defScope (top 29)) := ⟨rfl, rfl, rfl, by decide +kernel, rfl, by decide +kernel, by decide +kernel⟩
def b__law_shown : DS := (sSeq (sAsg (dC .non) (tName 1))
    (sSeq (sTryAs 2 (sAsg (dTup (dCons (dC (.str "text")) (dCons (dCall 1 d_show_name (dCons (dVar 0) dNil)) dNil))) (tName 1)) (subL [("TreeError", false), ("InvalidName", true), ("Unreadable", false)]) (fun cN wv => (sAsg (dTup (dCons (dC (.str "refused")) (dCons (dExc wv) dNil))) (tName 1))))
    (sRet (dVar 1))))
def d__law_shown : List W → Store → Res W := fnDen 3 b__law_shown
def fn__law_shown (T : Txt P w K mg base) : FnF P w K mg base "_law_shown" ["_law_value"] 11 1 d__law_shown :=
  ⟨T.D__law_shown.f, T.D__law_shown.fd, fn_ok (k := 10) T.D__law_shown.F sc__law_shown (fun cdv A outer s H E hr => (is_cons (is_set (i := 1) ExOk.none sc__law_shown.nd rfl (.inl rfl) ie_non)
    (is_cons (is_try_as (i := 2) rfl rfl sc__law_shown.nd rfl rfl ⟨rfl, by decide, .inl T.E_InvalidName.T.mgC⟩ (takes_of rfl rfl rfl rfl) (fun Wb pnb xeb tkb hpb => (is_one (is_set (i := 1) ExOk.none sc__law_shown.nd rfl (.inl rfl) (ie_tup (ia_cons ie_str (ia_cons (ie_callF (fn_show_name T) (hr.mono (by decide)) tkb (ia_cons (ie_var 0) ia_nil)) ia_nil)))))) (subL_ok (l := [("TreeError", false), ("InvalidName", true), ("Unreadable", false)]) T.sub_InvalidName) (fun cN C dd a y wv oe pn hsN hmN xf nv hz hfv => (is_one (is_set (i := 1) (fun x h => by cases h; show (2 : Nat) ≠ 1; decide) sc__law_shown.nd rfl (.inl rfl) (ie_tup (ia_cons ie_str (ia_cons (ie_exc xf nv hz hfv rfl (.inl rfl)) ia_nil)))))))
    (is_one (is_ret (ie_var 1)))))), T.D__law_shown.m, T.D__law_shown.F.kp, T.D__law_shown.b⟩
/-! _law_kept_apart -/
theorem sc__law_kept_apart : FnScope ["_law_value", "_law_due", "_law_copy", "_law_found", "_law_told_here"] ["_law_value", "_law_due"] (defScope (top 30)) := ⟨rfl, rfl, rfl, by decide +kernel, rfl, by decide +kernel, by decide +kernel⟩
def b__law_kept_apart : DS := (sSeq (sAsg (dApp listW (dCons (dVar 0) dNil)) (tName 2))
    (sSeq (sAsg (dCall 1 d__law_shown (dCons (dVar 0) dNil)) (tName 3))
    (sSeq (sAsg (dOp ixW (dVar 3) (dC (.int 1))) (tName 4))
    (sSeq (sExpr (dBm tyL appendW (dVar 4) (dCons (dC (.str "z")) dNil)))
    (sRet (dAndV (dOp eqW (dVar 0) (dVar 2)) (dOp eqW (dCall 1 d__law_shown (dCons (dVar 0) dNil)) (dVar 1))))))))
def d__law_kept_apart : List W → Store → Res W := fnDen 5 b__law_kept_apart
def fn__law_kept_apart (T : Txt P w K mg base) : FnF P w K mg base "_law_kept_apart" ["_law_value", "_law_due"] 12 2 d__law_kept_apart :=
  ⟨T.D__law_kept_apart.f, T.D__law_kept_apart.fd, fn_ok (k := 11) T.D__law_kept_apart.F sc__law_kept_apart (fun cdv A outer s H E hr => (is_cons (is_set (i := 2) ExOk.none sc__law_kept_apart.nd rfl (.inl rfl) (ie_list rfl T.n_list (ia_cons (ie_var 0) ia_nil)))
    (is_cons (is_set (i := 3) ExOk.none sc__law_kept_apart.nd rfl (.inl rfl) (ie_callF (fn__law_shown T) (hr.mono (by decide)) (takes_of rfl rfl rfl rfl) (ia_cons (ie_var 0) ia_nil)))
    (is_cons (is_set (i := 4) ExOk.none sc__law_kept_apart.nd rfl (.inl rfl) (ie_ix (ie_var 3) ie_int))
    (is_cons (is_expr (ie_append (ie_var 4) (ia_cons ie_str ia_nil)))
    (is_one (is_ret (ie_and (ie_eq hr (ie_var 0) (ie_var 2)) (ie_one (ie_eq hr (ie_callF (fn__law_shown T) (hr.mono (by decide)) (takes_of rfl rfl rfl rfl) (ia_cons (ie_var 0) ia_nil)) (ie_var 1))))))))))), T.D__law_kept_apart.m, T.D__law_kept_apart.F.kp, T.D__law_kept_apart.b⟩
/-! _law_names_right -/
theorem sc__law_names_right : FnScope ["_law_pot_here", "_law_turn", "_law_labels", "_law_value", "_law_good", "_law_due", "_law_label_here"] ["_law_pot_here"] (defScope (top 31)) := ⟨rfl, rfl, rfl, by decide +kernel, rfl, by decide +kernel, by decide +kernel⟩
def b__law_names_right : DS := (sSeq (sFor (dRange1 (dCons (dC (.int 5)) dNil)) (tName 1)
    (sSeq (sAsg (dCall 1 d__law_some_labels (dCons (dVar 0) dNil)) (tName 2))
    (sSeq (sAsg (dApp tupleW (dCons (dVar 2) dNil)) (tName 3))
    (sSeq (sIf (dBool (dOp eqW (dCall 2 d__law_take (dCons (dVar 0) (dCons (dC (.int 5)) dNil))) (dC (.int 4))))
    (sAsg (dOp ixW (dLst (dCons (dApp listW (dCons (dVar 2) dNil)) (dCons (dCall 1 d__law_odd (dCons (dVar 0) dNil)) dNil))) (dCall 2 d__law_take (dCons (dVar 0) (dCons (dC (.int 2)) dNil)))) (tName 3))
    sNil)
    (sSeq (sAsg (dCall 1 d__law_is_name (dCons (dVar 3) dNil)) (tName 4))
    (sSeq (sIf (dNot (dBool (dCall 2 (d__law_same 8) (dCons (dCall 1 d_is_name (dCons (dVar 3) dNil)) (dCons (dVar 4) dNil)))))
    (sRet (dC (.bl false)))
    sNil)
    (sSeq (sIf (dNot (dBool (dCall 2 (d__law_same 8) (dCons (dCall 1 d_is_asked (dCons (dVar 3) dNil)) (dCons (dAndV (dVar 4) (dOp neW (dSl (dVar 3) dNoPart (dPart (dC (.int 1)))) (dTup (dCons (dC (.str "*")) dNil)))) dNil)))))
    (sRet (dC (.bl false)))
    sNil)
    (sSeq (sIf (dBool (dOp neW (dLst (dCons (dCall 1 d_is_name (dCons (dVar 3) dNil)) (dCons (dCall 1 d_is_asked (dCons (dVar 3) dNil)) dNil))) (dLst (dCons (dVar 4) (dCons (dAndV (dVar 4) (dOp neW (dSl (dVar 3) dNoPart (dPart (dC (.int 1)))) (dTup (dCons (dC (.str "*")) dNil)))) dNil)))))
    (sRet (dC (.bl false)))
    sNil)
    (sSeq (sAsg (dTup (dCons (dC (.str "refused")) (dCons (dVar 3) dNil))) (tName 5))
    (sSeq (sIf (dBool (dVar 4))
    (sSeq (sAsg (dTup (dCons (dC (.str "text")) (dCons (dBm tyS joinW (dC (.str "")) (dCons (dLc (dIt (dVar 2)) [6] (tName 6) dYes (dOp addW (dVar 6) (dC (.str ".")))) dNil)) dNil))) (tName 5))
    (sIf (dBool (dOp eqW (dVar 2) (dLst dNil)))
    (sAsg (dTup (dCons (dC (.str "text")) (dCons (dC (.str ".")) dNil))) (tName 5))
    sNil))
    sNil)
    (sSeq (sIf (dAnd (dBool (dUn (isi2W "tuple" "list") (dVar 3))) (dNot (dBool (dCall 2 (d__law_same 8) (dCons (dCall 1 d__law_shown (dCons (dVar 3) dNil)) (dCons (dVar 5) dNil))))))
    (sRet (dC (.bl false)))
    sNil)
    (sSeq (sIf (dBool (dOp neW (dCall 1 d__law_shown (dCons (dVar 3) dNil)) (dVar 5)))
    (sRet (dC (.bl false)))
    sNil)
    (sSeq (sIf (dAnd (dNot (dBool (dVar 4))) (dAnd (dBool (dApp isiW (dCons (dVar 3) (dCons (dC (.gl (.ty "list"))) dNil)))) (dNot (dBool (dCall 2 d__law_kept_apart (dCons (dVar 3) (dCons (dVar 5) dNil)))))))
    (sRet (dC (.bl false)))
    sNil)
    (sSeq (sIf (dAnd (dBool (dVar 4)) (dOr (dNot (dBool (dCall 2 (d__law_same 8) (dCons (dCall 1 d_name_of (dCons (dOp ixW (dVar 5) (dC (.int 1))) dNil)) (dCons (dVar 3) dNil))))) (dBool (dOp neW (dCall 1 d_show_name (dCons (dVar 3) dNil)) (dOp ixW (dVar 5) (dC (.int 1)))))))
    (sRet (dC (.bl false)))
    sNil)
    (sIf (dAnd (dBool (dVar 4)) (dNot (dBool (dCall 2 (d__law_same 8) (dCons (dCall 1 d_name_of (dCons (dOp ixW (dVar 5) (dC (.int 1))) dNil)) (dCons (dVar 3) dNil))))))
    (sRet (dC (.bl false)))
    sNil)))))))))))))))
    (sRet (dC (.bl true))))
def d__law_names_right : List W → Store → Res W := fnDen 7 b__law_names_right
def fn__law_names_right (T : Txt P w K mg base) : FnF P w K mg base "_law_names_right" ["_law_pot_here"] 13 1 d__law_names_right :=
  ⟨T.D__law_names_right.f, T.D__law_names_right.fd, fn_ok (k := 12) T.D__law_names_right.F sc__law_names_right (fun cdv A outer s H E hr => (is_cons (is_for (vs := [1]) (passes_of rfl) rfl (ii_range1 rfl T.n_range (ia_cons ie_int ia_nil)) (ig_name (i := 1) (by decide) ExOk.none sc__law_names_right.nd rfl (.inl rfl))
    (is_cons (is_set (i := 2) ExOk.none sc__law_names_right.nd rfl (.inl rfl) (ie_callF (fn__law_some_labels T) (hr.mono (by decide)) (takes_of rfl rfl rfl rfl) (ia_cons (ie_var 0) ia_nil)))
    (is_cons (is_set (i := 3) ExOk.none sc__law_names_right.nd rfl (.inl rfl) (ie_tuple rfl T.n_tuple (ia_cons (ie_var 2) ia_nil)))
    (is_cons (is_if (it_eq hr (ie_callF (fn__law_take T) (hr.mono (by decide)) (takes_of rfl rfl rfl rfl) (ia_cons (ie_var 0) (ia_cons ie_int ia_nil))) ie_int)
    (is_one (is_set (i := 3) ExOk.none sc__law_names_right.nd rfl (.inl rfl) (ie_ix (ie_lst (ia_cons (ie_list rfl T.n_list (ia_cons (ie_var 2) ia_nil)) (ia_cons (ie_callF (fn__law_odd T) (hr.mono (by decide)) (takes_of rfl rfl rfl rfl) (ia_cons (ie_var 0) ia_nil)) ia_nil))) (ie_callF (fn__law_take T) (hr.mono (by decide)) (takes_of rfl rfl rfl rfl) (ia_cons (ie_var 0) (ia_cons ie_int ia_nil))))))
    is_nil)
    (is_cons (is_set (i := 4) ExOk.none sc__law_names_right.nd rfl (.inl rfl) (ie_callF (fn__law_is_name T) (hr.mono (by decide)) (takes_of rfl rfl rfl rfl) (ia_cons (ie_var 3) ia_nil)))
    (is_cons (is_if (it_not (it_val (ie_callF (fn__law_same T 8) (hr.mono (by decide)) (takes_of rfl rfl rfl rfl) (ia_cons (ie_callF (fn_is_name T) (hr.mono (by decide)) (takes_of rfl rfl rfl rfl) (ia_cons (ie_var 3) ia_nil)) (ia_cons (ie_var 4) ia_nil)))))
    (is_one (is_ret ie_bl))
    is_nil)
    (is_cons (is_if (it_not (it_val (ie_callF (fn__law_same T 8) (hr.mono (by decide)) (takes_of rfl rfl rfl rfl) (ia_cons (ie_callF (fn_is_asked T) (hr.mono (by decide)) (takes_of rfl rfl rfl rfl) (ia_cons (ie_var 3) ia_nil)) (ia_cons (ie_and (ie_var 4) (ie_one (ie_ne hr (ie_slice (ie_var 3) io_none (io_some ie_int)) (ie_tup (ia_cons ie_str ia_nil))))) ia_nil)))))
    (is_one (is_ret ie_bl))
    is_nil)
    (is_cons (is_if (it_ne hr (ie_lst (ia_cons (ie_callFK (fn_is_name T) (hr.mono (by decide)) (takes_of rfl rfl rfl rfl) T.k_is_name (ik_cons (ie_var 3) ik_nil)) (ia_cons (ie_callFK (fn_is_asked T) (hr.mono (by decide)) (takes_of rfl rfl rfl rfl) T.k_is_asked (ik_cons (ie_var 3) ik_nil)) ia_nil))) (ie_lst (ia_cons (ie_var 4) (ia_cons (ie_and (ie_var 4) (ie_one (ie_ne hr (ie_slice (ie_var 3) io_none (io_some ie_int)) (ie_tup (ia_cons ie_str ia_nil))))) ia_nil))))
    (is_one (is_ret ie_bl))
    is_nil)
    (is_cons (is_set (i := 5) ExOk.none sc__law_names_right.nd rfl (.inl rfl) (ie_tup (ia_cons ie_str (ia_cons (ie_var 3) ia_nil))))
    (is_cons (is_if (it_val (ie_var 4))
    (is_cons (is_set (i := 5) ExOk.none sc__law_names_right.nd rfl (.inl rfl) (ie_tup (ia_cons ie_str (ia_cons (ie_join ie_str (ia_cons (ie_lc (own := [("_law_label_here", 6)]) rfl sc__law_names_right.nd (ii_val (ie_var 2)) (blkOk_by (N := ["_law_pot_here", "_law_turn", "_law_labels", "_law_value", "_law_good", "_law_due", "_law_label_here"]) (sc := defScope (top 31)) (own := [("_law_label_here", 6)]) (by decide +kernel)) (fun _ _ _ _ _ => (ig_name (i := 6) (by decide) ExOk.none sc__law_names_right.nd rfl (.inl rfl))) (fun _ _ _ _ _ => (ie_add (ie_var 6) ie_str))) ia_nil)) ia_nil))))
    (is_one (is_if (it_eq hr (ie_var 2) (ie_lst ia_nil))
    (is_one (is_set (i := 5) ExOk.none sc__law_names_right.nd rfl (.inl rfl) (ie_tup (ia_cons ie_str (ia_cons ie_str ia_nil)))))
    is_nil)))
    is_nil)
    (is_cons (is_if (it_w (iw_and (it_val (ie_isi2 (A := "tuple") (B := "list") rfl T.n_isinstance (ie_var 3) rfl T.n_tuple (by decide +kernel) rfl T.n_list (by decide +kernel))) (iw_and1 (it_not (it_val (ie_callF (fn__law_same T 8) (hr.mono (by decide)) (takes_of rfl rfl rfl rfl) (ia_cons (ie_callF (fn__law_shown T) (hr.mono (by decide)) (takes_of rfl rfl rfl rfl) (ia_cons (ie_var 3) ia_nil)) (ia_cons (ie_var 5) ia_nil))))))))
    (is_one (is_ret ie_bl))
    is_nil)
    (is_cons (is_if (it_ne hr (ie_callF (fn__law_shown T) (hr.mono (by decide)) (takes_of rfl rfl rfl rfl) (ia_cons (ie_var 3) ia_nil)) (ie_var 5))
    (is_one (is_ret ie_bl))
    is_nil)
    (is_cons (is_if (it_w (iw_and (it_not (it_val (ie_var 4))) (iw_and (it_val (ie_isi rfl T.n_isinstance (ia_cons (ie_var 3) (ia_cons (ie_ty (T := "list") rfl T.n_list (by decide +kernel)) ia_nil)))) (iw_and1 (it_not (it_val (ie_callF (fn__law_kept_apart T) (hr.mono (by decide)) (takes_of rfl rfl rfl rfl) (ia_cons (ie_var 3) (ia_cons (ie_var 5) ia_nil)))))))))
    (is_one (is_ret ie_bl))
    is_nil)
    (is_cons (is_if (it_w (iw_and (it_val (ie_var 4)) (iw_and1 (it_w (iw_or (it_not (it_val (ie_callF (fn__law_same T 8) (hr.mono (by decide)) (takes_of rfl rfl rfl rfl) (ia_cons (ie_callF (fn_name_of T) (hr.mono (by decide)) (takes_of rfl rfl rfl rfl) (ia_cons (ie_ix (ie_var 5) ie_int) ia_nil)) (ia_cons (ie_var 3) ia_nil))))) (iw_or1 (it_ne hr (ie_callFK (fn_show_name T) (hr.mono (by decide)) (takes_of rfl rfl rfl rfl) T.k_show_name (ik_cons (ie_var 3) ik_nil)) (ie_ix (ie_var 5) ie_int))))))))
    (is_one (is_ret ie_bl))
    is_nil)
    (is_one (is_if (it_w (iw_and (it_val (ie_var 4)) (iw_and1 (it_not (it_val (ie_callF (fn__law_same T 8) (hr.mono (by decide)) (takes_of rfl rfl rfl rfl) (ia_cons (ie_callFK (fn_name_of T) (hr.mono (by decide)) (takes_of rfl rfl rfl rfl) T.k_name_of (ik_cons (ie_ix (ie_var 5) ie_int) ik_nil)) (ia_cons (ie_var 3) ia_nil))))))))
    (is_one (is_ret ie_bl))
    is_nil))))))))))))))))
    (is_one (is_ret ie_bl)))), T.D__law_names_right.m, T.D__law_names_right.F.kp, T.D__law_names_right.b⟩
/-! _law_read -/
theorem sc__law_read : FnScope ["_law_text", "_law_name"] ["_law_text"] (defScope (top 32)) := ⟨rfl, rfl, rfl, by decide +kernel, rfl, by decide +kernel, by decide +kernel⟩
def b__law_read : DS := (sSeq (sIf (dBool (dOp eqW (dVar 0) (dC (.str "."))))
    (sRet (dLst (dCons (dTup dNil) dNil)))
    sNil)
    (sSeq (sIf (dOr (dBool (dOp eqW (dVar 0) (dC (.str "")))) (dBool (dOp neW (dOp ixW (dVar 0) (dOp subW (dApp lenW (dCons (dVar 0) dNil)) (dC (.int 1)))) (dC (.str ".")))))
    (sRet (dLst dNil))
    sNil)
    (sSeq (sAsg (dApp tupleW (dCons (dBm tyS splitW (dSl (dVar 0) dNoPart (dPart (dOp subW (dApp lenW (dCons (dVar 0) dNil)) (dC (.int 1))))) (dCons (dC (.str ".")) dNil)) dNil)) (tName 1))
    (sRet (dIf (dBool (dCall 1 d__law_is_name (dCons (dVar 1) dNil))) (dLst (dCons (dVar 1) dNil)) (dLst dNil))))))
def d__law_read : List W → Store → Res W := fnDen 2 b__law_read
def fn__law_read (T : Txt P w K mg base) : FnF P w K mg base "_law_read" ["_law_text"] 3 1 d__law_read :=
  ⟨T.D__law_read.f, T.D__law_read.fd, fn_ok (k := 2) T.D__law_read.F sc__law_read (fun cdv A outer s H E hr => (is_cons (is_if (it_eq hr (ie_var 0) ie_str)
    (is_one (is_ret (ie_lst (ia_cons (ie_tup ia_nil) ia_nil))))
    is_nil)
    (is_cons (is_if (it_w (iw_or (it_eq hr (ie_var 0) ie_str) (iw_or1 (it_ne hr (ie_ix (ie_var 0) (ie_sub (ie_len rfl T.n_len (ia_cons (ie_var 0) ia_nil)) ie_int)) ie_str))))
    (is_one (is_ret (ie_lst ia_nil)))
    is_nil)
    (is_cons (is_set (i := 1) ExOk.none sc__law_read.nd rfl (.inl rfl) (ie_tuple rfl T.n_tuple (ia_cons (ie_split (ie_slice (ie_var 0) io_none (io_some (ie_sub (ie_len rfl T.n_len (ia_cons (ie_var 0) ia_nil)) ie_int))) (ia_cons ie_str ia_nil)) ia_nil)))
    (is_one (is_ret (ie_if (it_val (ie_callF (fn__law_is_name T) (hr.mono (by decide)) (takes_of rfl rfl rfl rfl) (ia_cons (ie_var 1) ia_nil))) (ie_lst (ia_cons (ie_var 1) ia_nil)) (ie_lst ia_nil)))))))), T.D__law_read.m, T.D__law_read.F.kp, T.D__law_read.b⟩
/-! _law_told -/
theorem sc__law_told : FnScope ["_law_text", "_law_found", "error"] ["_law_text"] (defScope (top 33)) := ⟨rfl, rfl, rfl, by decide +kernel, rfl, by decide +kernel, by decide +kernel⟩
def b__law_told : DS := (sSeq (sAsg (dC .non) (tName 1))
    (sSeq (sTryAs 2 (sAsg (dTup (dCons (dC (.str "name")) (dCons (dCall 1 d_name_of (dCons (dVar 0) dNil)) dNil))) (tName 1)) (subL [("TreeError", false), ("InvalidName", false), ("Unreadable", true)]) (fun cN wv => (sAsg (dTup (dCons (dC (.str "refused")) (dCons (dExc wv) dNil))) (tName 1))))
    (sRet (dVar 1))))
def d__law_told : List W → Store → Res W := fnDen 3 b__law_told
def fn__law_told (T : Txt P w K mg base) : FnF P w K mg base "_law_told" ["_law_text"] 10 1 d__law_told :=
  ⟨T.D__law_told.f, T.D__law_told.fd, fn_ok (k := 9) T.D__law_told.F sc__law_told (fun cdv A outer s H E hr => (is_cons (is_set (i := 1) ExOk.none sc__law_told.nd rfl (.inl rfl) ie_non)
    (is_cons (is_try_as (i := 2) rfl rfl sc__law_told.nd rfl rfl ⟨rfl, by decide, .inl T.E_Unreadable.T.mgC⟩ (takes_of rfl rfl rfl rfl) (fun Wb pnb xeb tkb hpb => (is_one (is_set (i := 1) ExOk.none sc__law_told.nd rfl (.inl rfl) (ie_tup (ia_cons ie_str (ia_cons (ie_callF (fn_name_of T) (hr.mono (by decide)) tkb (ia_cons (ie_var 0) ia_nil)) ia_nil)))))) (subL_ok (l := [("TreeError", false), ("InvalidName", false), ("Unreadable", true)]) T.sub_Unreadable) (fun cN C dd a y wv oe pn hsN hmN xf nv hz hfv => (is_one (is_set (i := 1) (fun x h => by cases h; show (2 : Nat) ≠ 1; decide) sc__law_told.nd rfl (.inl rfl) (ie_tup (ia_cons ie_str (ia_cons (ie_exc xf nv hz hfv rfl (.inl rfl)) ia_nil)))))))
    (is_one (is_ret (ie_var 1)))))), T.D__law_told.m, T.D__law_told.F.kp, T.D__law_told.b⟩
/-! _law_is_base -/
theorem sc__law_is_base : FnScope ["_law_text", "_law_found", "error"] ["_law_text"] (defScope (top 34)) := ⟨rfl, rfl, rfl, by decide +kernel, rfl, by decide +kernel, by decide +kernel⟩
def b__law_is_base : DS := (sSeq (sAsg (dC (.bl false)) (tName 1))
    (sSeq (sTryAs 2 (sExpr (dCall 1 d_name_of (dCons (dVar 0) dNil))) (subL [("TreeError", true), ("InvalidName", true), ("Unreadable", true)]) (fun cN wv => (sAsg (dAndV (dIsExc [("TreeError", true), ("InvalidName", true), ("Unreadable", true)] cN) (dAndV (dIsExc [("TreeError", false), ("InvalidName", false), ("Unreadable", true)] cN) (dNotV (dIsExc [("TreeError", false), ("InvalidName", true), ("Unreadable", false)] cN)))) (tName 1))))
    (sRet (dVar 1))))
def d__law_is_base : List W → Store → Res W := fnDen 3 b__law_is_base
def fn__law_is_base (T : Txt P w K mg base) : FnF P w K mg base "_law_is_base" ["_law_text"] 10 1 d__law_is_base :=
  ⟨T.D__law_is_base.f, T.D__law_is_base.fd, fn_ok (k := 9) T.D__law_is_base.F sc__law_is_base (fun cdv A outer s H E hr => (is_cons (is_set (i := 1) ExOk.none sc__law_is_base.nd rfl (.inl rfl) ie_bl)
    (is_cons (is_try_as (i := 2) rfl rfl sc__law_is_base.nd rfl rfl ⟨rfl, by decide, .inl T.E_TreeError.T.mgC⟩ (takes_of rfl rfl rfl rfl) (fun Wb pnb xeb tkb hpb => (is_one (is_expr (ie_callF (fn_name_of T) (hr.mono (by decide)) tkb (ia_cons (ie_var 0) ia_nil))))) (subL_ok (l := [("TreeError", true), ("InvalidName", true), ("Unreadable", true)]) T.sub_TreeError) (fun cN C dd a y wv oe pn hsN hmN xf nv hz hfv => (is_one (is_set (i := 1) (fun x h => by cases h; show (2 : Nat) ≠ 1; decide) sc__law_is_base.nd rfl (.inl rfl) (ie_and (ie_isExc (l := [("TreeError", true), ("InvalidName", true), ("Unreadable", true)]) rfl T.n_isinstance xf T.xc_ValueError hmN hsN hz hfv rfl (.inl rfl) (pe_bltn (v := .ty "ValueError") rfl T.n_ValueError (by decide +kernel) rfl) (fun u h => h)) (ie_and (ie_isExc (l := [("TreeError", false), ("InvalidName", false), ("Unreadable", true)]) rfl T.n_isinstance xf T.xc_Unreadable hmN hsN hz hfv rfl (.inl rfl) (pe_glob (v := .ref T.E_Unreadable.C) rfl T.E_Unreadable.T.mgC rfl) (fun u h => h)) (ie_one (ie_notV (ie_isExc (l := [("TreeError", false), ("InvalidName", true), ("Unreadable", false)]) rfl T.n_isinstance xf T.xc_InvalidName hmN hsN hz hfv rfl (.inl rfl) (pe_glob (v := .ref T.E_InvalidName.C) rfl T.E_InvalidName.T.mgC rfl) (fun u h => h))))))))))
    (is_one (is_ret (ie_var 1)))))), T.D__law_is_base.m, T.D__law_is_base.F.kp, T.D__law_is_base.b⟩
/-! _law_texts_right -/
theorem sc__law_texts_right : FnScope ["_law_pot_here", "_law_turn", "_law_text", "_law_way", "_law_at", "_law_due", "_law_some", "_law_label_here"] ["_law_pot_here"] (defScope (top 35)) := ⟨rfl, rfl, rfl, by decide +kernel, rfl, by decide +kernel, by decide +kernel⟩
def b__law_texts_right : DS := (sSeq (sFor (dRange1 (dCons (dC (.int 6)) dNil)) (tName 1)
    (sSeq (sAsg (dBm tyS joinW (dC (.str "")) (dCons (dLc (dIt (dSl (dCall 1 d__law_some_labels (dCons (dVar 0) dNil)) dNoPart (dPart (dC (.int 11))))) [7] (tName 7) dYes (dOp addW (dVar 7) (dC (.str ".")))) dNil)) (tName 2))
    (sSeq (sAsg (dCall 2 d__law_take (dCons (dVar 0) (dCons (dC (.int 6)) dNil))) (tName 3))
    (sSeq (sAsg (dCall 2 d__law_take (dCons (dVar 0) (dCons (dOp addW (dApp lenW (dCons (dVar 2) dNil)) (dC (.int 1))) dNil))) (tName 4))
    (sSeq (sIf (dBool (dOp eqW (dVar 3) (dC (.int 3))))
    (sAsg (dOp addW (dOp addW (dSl (dVar 2) dNoPart (dPart (dVar 4))) (dC (.str "."))) (dSl (dVar 2) (dPart (dVar 4)) dNoPart)) (tName 2))
    sNil)
    (sSeq (sIf (dBool (dOp eqW (dVar 3) (dC (.int 4))))
    (sAsg (dOp addW (dSl (dVar 2) dNoPart (dPart (dVar 4))) (dSl (dVar 2) (dPart (dOp addW (dVar 4) (dC (.int 1)))) dNoPart)) (tName 2))
    sNil)
    (sSeq (sIf (dBool (dOp eqW (dVar 3) (dC (.int 5))))
    (sSeq (sAsg (dLst (dCons (dC (.str "")) (dCons (dC (.str ".")) (dCons (dC (.str "..")) (dCons (dC (.str "*.")) (dCons (dC (.str "*")) (dCons (dC (.str "a")) (dCons (dC (.str ".a.")) (dCons (dC (.str "a..")) (dCons (dC (.str "*.*.")) (dCons (dC (.str "a.*.")) (dCons (dC (.str " .")) (dCons (dC (.str "a.\n")) (dCons (dC (.str "\n")) (dCons (dC (.str "-.")) dNil))))))))))))))) (tName 6))
    (sAsg (dOp ixW (dVar 6) (dCall 2 d__law_take (dCons (dVar 0) (dCons (dC (.int 14)) dNil)))) (tName 2)))
    sNil)
    (sSeq (sAsg (dCall 1 d__law_read (dCons (dVar 2) dNil)) (tName 5))
    (sIf (dBool (dOp eqW (dVar 5) (dLst dNil)))
    (sIf (dOr (dBool (dOp neW (dCall 1 d__law_told (dCons (dVar 2) dNil)) (dTup (dCons (dC (.str "refused")) (dCons (dVar 2) dNil))))) (dNot (dBool (dCall 1 d__law_is_base (dCons (dVar 2) dNil)))))
    (sRet (dC (.bl false)))
    sNil)
    (sIf (dOr (dNot (dBool (dCall 2 (d__law_same 8) (dCons (dCall 1 d__law_told (dCons (dVar 2) dNil)) (dCons (dTup (dCons (dC (.str "name")) (dCons (dOp ixW (dVar 5) (dC (.int 0))) dNil))) dNil))))) (dBool (dOp neW (dCall 1 d_show_name (dCons (dOp ixW (dVar 5) (dC (.int 0))) dNil)) (dVar 2))))
    (sRet (dC (.bl false)))
    sNil))))))))))
    (sRet (dC (.bl true))))
def d__law_texts_right : List W → Store → Res W := fnDen 8 b__law_texts_right
def fn__law_texts_right (T : Txt P w K mg base) : FnF P w K mg base "_law_texts_right" ["_law_pot_here"] 11 1 d__law_texts_right :=
  ⟨T.D__law_texts_right.f, T.D__law_texts_right.fd, fn_ok (k := 10) T.D__law_texts_right.F sc__law_texts_right (fun cdv A outer s H E hr => (is_cons (is_for (vs := [1]) (passes_of rfl) rfl (ii_range1 rfl T.n_range (ia_cons ie_int ia_nil)) (ig_name (i := 1) (by decide) ExOk.none sc__law_texts_right.nd rfl (.inl rfl))
    (is_cons (is_set (i := 2) ExOk.none sc__law_texts_right.nd rfl (.inl rfl) (ie_join ie_str (ia_cons (ie_lc (own := [("_law_label_here", 7)]) rfl sc__law_texts_right.nd (ii_val (ie_slice (ie_callF (fn__law_some_labels T) (hr.mono (by decide)) (takes_of rfl rfl rfl rfl) (ia_cons (ie_var 0) ia_nil)) io_none (io_some ie_int))) (blkOk_by (N := ["_law_pot_here", "_law_turn", "_law_text", "_law_way", "_law_at", "_law_due", "_law_some", "_law_label_here"]) (sc := defScope (top 35)) (own := [("_law_label_here", 7)]) (by decide +kernel)) (fun _ _ _ _ _ => (ig_name (i := 7) (by decide) ExOk.none sc__law_texts_right.nd rfl (.inl rfl))) (fun _ _ _ _ _ => (ie_add (ie_var 7) ie_str))) ia_nil)))
    (is_cons (is_set (i := 3) ExOk.none sc__law_texts_right.nd rfl (.inl rfl) (ie_callF (fn__law_take T) (hr.mono (by decide)) (takes_of rfl rfl rfl rfl) (ia_cons (ie_var 0) (ia_cons ie_int ia_nil))))
    (is_cons (is_set (i := 4) ExOk.none sc__law_texts_right.nd rfl (.inl rfl) (ie_callF (fn__law_take T) (hr.mono (by decide)) (takes_of rfl rfl rfl rfl) (ia_cons (ie_var 0) (ia_cons (ie_add (ie_len rfl T.n_len (ia_cons (ie_var 2) ia_nil)) ie_int) ia_nil))))
    (is_cons (is_if (it_eq hr (ie_var 3) ie_int)
    (is_one (is_set (i := 2) ExOk.none sc__law_texts_right.nd rfl (.inl rfl) (ie_add (ie_add (ie_slice (ie_var 2) io_none (io_some (ie_var 4))) ie_str) (ie_slice (ie_var 2) (io_some (ie_var 4)) io_none))))
    is_nil)
    (is_cons (is_if (it_eq hr (ie_var 3) ie_int)
    (is_one (is_set (i := 2) ExOk.none sc__law_texts_right.nd rfl (.inl rfl) (ie_add (ie_slice (ie_var 2) io_none (io_some (ie_var 4))) (ie_slice (ie_var 2) (io_some (ie_add (ie_var 4) ie_int)) io_none))))
    is_nil)
    (is_cons (is_if (it_eq hr (ie_var 3) ie_int)
    (is_cons (is_set (i := 6) ExOk.none sc__law_texts_right.nd rfl (.inl rfl) (ie_lst (ia_cons ie_str (ia_cons ie_str (ia_cons ie_str (ia_cons ie_str (ia_cons ie_str (ia_cons ie_str (ia_cons ie_str (ia_cons ie_str (ia_cons ie_str (ia_cons ie_str (ia_cons ie_str (ia_cons ie_str (ia_cons ie_str (ia_cons ie_str ia_nil))))))))))))))))
    (is_one (is_set (i := 2) ExOk.none sc__law_texts_right.nd rfl (.inl rfl) (ie_ix (ie_var 6) (ie_callF (fn__law_take T) (hr.mono (by decide)) (takes_of rfl rfl rfl rfl) (ia_cons (ie_var 0) (ia_cons ie_int ia_nil)))))))
    is_nil)
    (is_cons (is_set (i := 5) ExOk.none sc__law_texts_right.nd rfl (.inl rfl) (ie_callF (fn__law_read T) (hr.mono (by decide)) (takes_of rfl rfl rfl rfl) (ia_cons (ie_var 2) ia_nil)))
    (is_one (is_if (it_eq hr (ie_var 5) (ie_lst ia_nil))
    (is_one (is_if (it_w (iw_or (it_ne hr (ie_callF (fn__law_told T) (hr.mono (by decide)) (takes_of rfl rfl rfl rfl) (ia_cons (ie_var 2) ia_nil)) (ie_tup (ia_cons ie_str (ia_cons (ie_var 2) ia_nil)))) (iw_or1 (it_not (it_val (ie_callF (fn__law_is_base T) (hr.mono (by decide)) (takes_of rfl rfl rfl rfl) (ia_cons (ie_var 2) ia_nil)))))))
    (is_one (is_ret ie_bl))
    is_nil))
    (is_one (is_if (it_w (iw_or (it_not (it_val (ie_callF (fn__law_same T 8) (hr.mono (by decide)) (takes_of rfl rfl rfl rfl) (ia_cons (ie_callF (fn__law_told T) (hr.mono (by decide)) (takes_of rfl rfl rfl rfl) (ia_cons (ie_var 2) ia_nil)) (ia_cons (ie_tup (ia_cons ie_str (ia_cons (ie_ix (ie_var 5) ie_int) ia_nil))) ia_nil))))) (iw_or1 (it_ne hr (ie_callF (fn_show_name T) (hr.mono (by decide)) (takes_of rfl rfl rfl rfl) (ia_cons (ie_ix (ie_var 5) ie_int) ia_nil)) (ie_var 2)))))
    (is_one (is_ret ie_bl))
    is_nil))))))))))))
    (is_one (is_ret ie_bl)))), T.D__law_texts_right.m, T.D__law_texts_right.F.kp, T.D__law_texts_right.b⟩
/-! law -/
theorem sc_law : FnScope ["_law_script", "_law_k", "_law_pot_here"] ["_law_script"] (defScope (top 36)) := ⟨rfl, rfl, rfl, by decide +kernel, rfl, by decide +kernel, by decide +kernel⟩
def b_law : DS := (sSeq (sFor (dRange1 (dCons (dApp maxW (dCons (dC (.int 1)) (dCons (dApp minW (dCons (dC (.int 5)) (dCons (dApp lenW (dCons (dVar 0) dNil)) dNil))) dNil))) dNil)) (tName 1)
    (sSeq (sAsg (dCall 2 d__law_pot (dCons (dVar 0) (dCons (dVar 1) dNil))) (tName 2))
    (sIf (dOr (dNot (dBool (dCall 1 d__law_labels_right (dCons (dVar 2) dNil)))) (dOr (dNot (dBool (dCall 1 d__law_names_right (dCons (dVar 2) dNil)))) (dNot (dBool (dCall 1 d__law_texts_right (dCons (dVar 2) dNil))))))
    (sRet (dC (.bl false)))
    sNil)))
    (sRet (dC (.bl true))))
def d_law : List W → Store → Res W := fnDen 3 b_law
def fn_law (T : Txt P w K mg base) : FnF P w K mg base "law" ["_law_script"] 14 1 d_law :=
  ⟨T.D_law.f, T.D_law.fd, fn_ok (k := 13) T.D_law.F sc_law (fun cdv A outer s H E hr => (is_cons (is_for (vs := [1]) (passes_of rfl) rfl (ii_range1 rfl T.n_range (ia_cons (ie_max rfl rfl T.n_max (ia_cons ie_int (ia_cons (ie_min rfl rfl T.n_min (ia_cons ie_int (ia_cons (ie_len rfl T.n_len (ia_cons (ie_var 0) ia_nil)) ia_nil))) ia_nil))) ia_nil)) (ig_name (i := 1) (by decide) ExOk.none sc_law.nd rfl (.inl rfl))
    (is_cons (is_set (i := 2) ExOk.none sc_law.nd rfl (.inl rfl) (ie_callF (fn__law_pot T) (hr.mono (by decide)) (takes_of rfl rfl rfl rfl) (ia_cons (ie_var 0) (ia_cons (ie_var 1) ia_nil))))
    (is_one (is_if (it_w (iw_or (it_not (it_val (ie_callF (fn__law_labels_right T) (hr.mono (by decide)) (takes_of rfl rfl rfl rfl) (ia_cons (ie_var 2) ia_nil)))) (iw_or (it_not (it_val (ie_callF (fn__law_names_right T) (hr.mono (by decide)) (takes_of rfl rfl rfl rfl) (ia_cons (ie_var 2) ia_nil)))) (iw_or1 (it_not (it_val (ie_callF (fn__law_texts_right T) (hr.mono (by decide)) (takes_of rfl rfl rfl rfl) (ia_cons (ie_var 2) ia_nil))))))))
    (is_one (is_ret ie_bl))
    is_nil))))
    (is_one (is_ret ie_bl)))), T.D_law.m, T.D_law.F.kp, T.D_law.b⟩
end
end
end K01
namespace K01
open PySem PySem.Spec PyProof.Rows L2 MP
open Classical
noncomputable section
def IN : List Nat := c_INNER.cps.toList
def EN : List Nat := c_ENDS.cps.toList
def star : Str := "*"
/-! labels -/
def fst0 (x : Str) : Nat := (x.cps.toList[0]?).getD 0
def lst0 (x : Str) : Nat := (x.cps.toList[x.length - 1]?).getD 0
def plainB (x : Str) : Bool := decide (1 ≤ x.length) && decide (x.length ≤ 20) && x.cps.toList.all (fun c => decide (c ∈ IN)) && decide (fst0 x ∈ EN) && decide (lst0 x ∈ EN)
theorem strip_all {x y : Str} : (Txt.stripChars x y == ("" : Str)) = x.cps.toList.all (fun c => decide (c ∈ y.cps.toList)) := by
  rw [PySem.Txt.stripChars.eq_1, stripBy_eq]
  have key : ∀ (g : Nat → Bool) (l : List Nat), (∀ c ∈ l, g c = true) ↔ l.takeWhile g = l := fun g l => by
    induction l with
    | nil => simp
    | cons a l ih =>
      by_cases h : g a = true
      · rw [List.takeWhile_cons_of_pos h]; simp [h, ih]
      · rw [List.takeWhile_cons_of_neg h]; simp [h]
  have ec : ∀ c, y.cps.contains c = decide (c ∈ y.cps.toList) := fun c => by
    rw [Bool.eq_iff_iff]; simp
  have hall : x.cps.toList.all (fun c => decide (c ∈ y.cps.toList)) = x.cps.toList.all y.cps.contains := by
    congr 1; funext c; exact (ec c).symm
  rw [hall]
  generalize y.cps.contains = g
  unfold PySem.stripLo PySem.stripHi
  simp only [if_true]
  rw [Bool.eq_iff_iff, beq_iff_eq, List.all_eq_true]
  unfold PySem.Builtin.Str.strSub
  have hlen : x.length = x.cps.toList.length := by simp [Str.length]
  constructor
  · intro h
    have h' : (x.cps.extract (List.takeWhile g x.cps.toList).length (x.length - (List.takeWhile g (List.drop (List.takeWhile g x.cps.toList).length x.cps.toList).reverse).length)).size = 0 := by
      exact (congrArg (fun s : Str => s.cps.size) h).trans rfl
    rw [Array.size_extract] at h'
    rw [key]
    -- the rest behind the left run
    have hsplit := List.takeWhile_append_dropWhile (p := g) (l := x.cps.toList)
    have hd : List.drop (List.takeWhile g x.cps.toList).length x.cps.toList = List.dropWhile g x.cps.toList := by
      conv => lhs; arg 2; rw [← hsplit]
      rw [List.drop_left]
    rw [hd] at h'
    have hL : (List.takeWhile g x.cps.toList).length + (List.dropWhile g x.cps.toList).length = x.length := by
      rw [hlen, ← List.length_append, hsplit]
    cases hD : List.dropWhile g x.cps.toList with
    | nil => rw [hD, List.append_nil] at hsplit; exact hsplit
    | cons a r =>
      exfalso
      have ha : g a = false := by
        have := List.head_dropWhile_not g (l := x.cps.toList) (by rw [hD]; simp)
        simpa [hD] using this
      rw [hD] at h' hL
      have h2 : (List.takeWhile g (a :: r).reverse).length ≤ r.length := by
        rw [List.reverse_cons, List.takeWhile_append]
        split
        · rw [List.takeWhile_cons_of_neg (by simp [ha])]; simp
        · rename_i hn
          have := (List.takeWhile_sublist (p := g) (l := r.reverse)).length_le
          simpa using this
      have hs : x.cps.size = x.length := rfl
      simp only [List.length_cons] at hL
      omega
  · intro h
    have e := (key g _).mp h
    rw [e]
    have h0 : ∀ (k : Nat), x.cps.extract x.cps.toList.length k = #[] := fun k => by
      apply Array.eq_empty_of_size_eq_zero
      rw [Array.size_extract]
      have : x.cps.toList.length = x.cps.size := by simp
      omega
    exact congrArg Str.mk (h0 _)
theorem len_in {c : Nat} (h : c ∈ IN) : c < 128 := by
  have : ∀ c ∈ IN, c < 128 := by decide +kernel
  exact this c h
theorem en_in : ∀ c ∈ IN, (c ∈ EN ↔ c ≠ 45) := by decide +kernel
/-! rows for whole numbers -/
section
variable {st : Store} {i j : Int}
@[simp] theorem addW_i : addW (.int i) (.int j) st = .ok (.int (i + j)) st := rfl
@[simp] theorem subW_i : subW (.int i) (.int j) st = .ok (.int (i - j)) st := rfl
@[simp] theorem leW_i : leW (.int i) (.int j) st = .ok (.bl (decide (i ≤ j))) st := rfl
@[simp] theorem ltW_i : ltW (.int i) (.int j) st = .ok (.bl (decide (i < j))) st := rfl
@[simp] theorem gtW_i : gtW (.int i) (.int j) st = .ok (.bl (decide (j < i))) st := rfl
@[simp] theorem negW_i : negW (.int i) st = .ok (.int (-i)) st := rfl
@[simp] theorem minW_i : minW [.int i, .int j] st = .ok (.int (if j < i then j else i)) st := rfl
@[simp] theorem maxW_i : maxW [.int i, .int j] st = .ok (.int (if j > i then j else i)) st := rfl
@[simp] theorem absW_i : absW [.int i] st = .ok (.int (if i < 0 then -i else i)) st := rfl
@[simp] theorem intOf_i : intOfW [.int i] st = .ok (.int i) st := rfl
@[simp] theorem intOf_b {b : Bool} : intOfW [.bl b] st = .ok (.int (if b then 1 else 0)) st := rfl
@[simp] theorem tuple_t {ws : List W} : tupleW [.tup ws] st = .ok (.tup ws) st := rfl
@[simp] theorem clB_b {n : Nat} {b : Bool} : clB n (.bl b) = true := rfl
@[simp] theorem clB_s {n : Nat} {b : Str} : clB n (.str b) = true := rfl
@[simp] theorem clB_i {n : Nat} : clB n (.int i) = true := rfl
@[simp] theorem clB_n {n : Nat} : clB n .non = true := rfl
@[simp] theorem gc_b {b : Bool} : gc st (.bl b) st = .ok (.bl b) st := gc_same rfl
@[simp] theorem gc_s {b : Str} : gc st (.str b) st = .ok (.str b) st := gc_same rfl
@[simp] theorem gc_i : gc st (.int i) st = .ok (.int i) st := gc_same rfl
@[simp] theorem gc_n : gc st .non st = .ok .non st := gc_same rfl
@[simp] theorem gc_ba {b : Bool} {g : Store} : gc st (.bl b) (st ++ g) = .ok (.bl b) st := gc_app rfl
@[simp] theorem gc_sa {b : Str} {g : Store} : gc st (.str b) (st ++ g) = .ok (.str b) st := gc_app rfl
@[simp] theorem gc_na {g : Store} : gc st .non (st ++ g) = .ok .non st := gc_app rfl
end
theorem ok_nil : okS ("" : Str) = true := by decide +kernel
theorem ok_star : okS ("*" : Str) = true := by decide +kernel
theorem ok_wild : okS c_WILD = true := by decide +kernel
theorem ok_dash : okS ("-" : Str) = true := by decide +kernel
theorem ok_dot : okS ("." : Str) = true := by decide +kernel
theorem ok_one {c : Nat} (h : c < 128) : okS ⟨#[c]⟩ = true := by
  rw [okS_iff]; exact ⟨by show 1 ≤ _; decide, fun d hd => by simp at hd; omega⟩
theorem stripBy_mem {x y : Str} : ∀ c ∈ (Txt.stripChars x y).cps.toList, c ∈ x.cps.toList := fun c h => by
  rw [PySem.Txt.stripChars.eq_1, stripBy_eq] at h
  unfold PySem.Builtin.Str.strSub at h
  simp only [Array.toList_extract, List.extract] at h
  exact List.mem_of_mem_drop (List.mem_of_mem_take h)
theorem okS.strip {x y : Str} (h : okS x = true) : okS (Txt.stripChars x y) = true :=
  okS_iff.mpr ⟨Nat.le_trans (len_stripChars x y) (okS.len h), fun c hc => (okS_iff.mp h).2 c (stripBy_mem c hc)⟩
theorem fst0_of {x : Str} {c : Nat} (h : x.cps.toList[(0 : Int).toNat]? = some c) : fst0 x = c := by
  unfold fst0; rw [show (0 : Nat) = (0 : Int).toNat from rfl, h]; rfl
theorem lst0_of {x : Str} {c : Nat} (h : x.cps.toList[x.length - 1]? = some c) : lst0 x = c := by
  unfold lst0; rw [h]; rfl
theorem plain_ok {x : Str} {st : Store} (h : okS x = true) : d__is_plain [.str x] st = .ok (.bl (plainB x)) st := by
  unfold d__is_plain; rw [fnDen_ap]; unfold b__is_plain
  by_cases h1 : 1 ≤ x.length
  · by_cases h2 : x.length ≤ 20
    · obtain ⟨c, hc, hm, e⟩ := ix_str (x := x) (i := 0) (okS.line h) (by decide) (by omega)
      obtain ⟨t, ht, hmt, e'⟩ := ix_strL (x := x) (okS.line h) (by omega)
      have hn1 : ¬ (x.length : Int) < 1 := by omega
      have s1 : stripW (.str x) [.str c_INNER] st = .ok (.str (Txt.stripChars x c_INNER)) st := by unfold stripW; simp only [if_pos (okS.line h)]
      have hp : plainB x = (x.cps.toList.all (fun c => decide (c ∈ IN)) && (decide (c ∈ EN) && decide (t ∈ EN))) := by
        unfold plainB
        rw [fst0_of hc, lst0_of ht, decide_eq_true h1, decide_eq_true h2, Bool.and_assoc, Bool.true_and, Bool.true_and]
      have l1 : (decide ((1 : Int) ≤ (x.length : Int))) = true := decide_eq_true (by omega)
      have l2 : (decide ((x.length : Int) ≤ 20)) = true := decide_eq_true (by omega)
      have hs : (Txt.stripChars x c_INNER == ("" : Str)) = x.cps.toList.all (fun c => decide (c ∈ IN)) := strip_all
      have e1 : inW false (.str ⟨#[c]⟩) (.str c_ENDS) st = .ok (.bl (decide (c ∈ EN))) st := in_sign
      have e2 : inW false (.str ⟨#[t]⟩) (.str c_ENDS) st = .ok (.bl (decide (t ∈ EN))) st := in_sign
      rw [hp]
      generalize x.cps.toList.all (fun c => decide (c ∈ IN)) = A at hs ⊢
      generalize decide (c ∈ EN) = B at e1 ⊢
      generalize decide (t ∈ EN) = C at e2 ⊢
      simp [len_str (okS.line h), l1, l2, s1, eqW_str (okS.strip h) ok_nil, hs]
      cases A with
      | false => simp
      | true =>
        simp [e, e', e1, e2]
        cases B <;> simp [e, e', e1, e2]
    · have hp : plainB x = false := by unfold plainB; simp [h2]
      have l1 : (decide ((1 : Int) ≤ (x.length : Int))) = true := decide_eq_true (by omega)
      have l2 : (decide ((x.length : Int) ≤ 20)) = false := decide_eq_false (by omega)
      rw [hp]
      simp [len_str (okS.line h), l1, l2]
  · have hp : plainB x = false := by unfold plainB; simp [h1]
    have l1 : (decide ((1 : Int) ≤ (x.length : Int))) = false := decide_eq_false (by omega)
    rw [hp]
    simp [len_str (okS.line h), l1]
def labB (u : W) : Bool := match u with
  | .str x => x == ("*" : Str) || plainB x
  | _ => false
def okU : W → Prop
  | .str x => okS x = true
  | _ => True
theorem Pic.str {st : Store} {w : W} {x : Str} (h : Pic st w (.str x)) : w = .str x ∧ okS x = true := by
  cases h with
  | pu _ h => exact ⟨rfl, h⟩
theorem label_ok {w u : W} {st : Store} (h : Pic st w u) : d_is_label [w] st = .ok (.bl (labB u)) st := by
  unfold d_is_label; rw [fnDen_ap]; unfold b_is_label
  cases u with
  | str x =>
    obtain ⟨rfl, hx⟩ := Pic.str h
    simp [pic_isS h, isS, eqW_str hx ok_wild]
    show _ = Res.ok (W.bl (x == c_WILD || plainB x)) st
    cases x == c_WILD <;> simp [plain_ok hx]
  | _ => simp [pic_isS h, isS, labB]
def GD : List Nat := ("abcdefghijklmnopqrstuvwxyz0123456789-" : Str).cps.toList
theorem gd_in : ∀ c, c ∈ GD ↔ c ∈ IN := fun c => ⟨fun h => (by decide +kernel : ∀ c ∈ GD, c ∈ IN) c h, fun h => (by decide +kernel : ∀ c ∈ IN, c ∈ GD) c h⟩
theorem plain_law {x : Str} (h1 : 1 ≤ x.length) (h2 : x.length ≤ 20) : plainB x = (x.cps.toList.all (fun c => decide (c ∈ GD)) && (!(fst0 x == 45) && !(lst0 x == 45))) := by
  unfold plainB
  rw [decide_eq_true h1, decide_eq_true h2]
  have hl : x.cps.toList.length = x.length := by simp [Str.length]
  have e : x.cps.toList.all (fun c => decide (c ∈ GD)) = x.cps.toList.all (fun c => decide (c ∈ IN)) := by
    congr 1; funext c; simp only [gd_in c]
  rw [e]
  cases h : x.cps.toList.all (fun c => decide (c ∈ IN)) with
  | false => rfl
  | true =>
    rw [List.all_eq_true] at h
    have hf : ∀ i, i < x.cps.toList.length → decide ((x.cps.toList[i]?).getD 0 ∈ EN) = !((x.cps.toList[i]?).getD 0 == 45) := fun i hi => by
      rw [List.getElem?_eq_getElem hi, Option.getD_some]
      have hm := en_in _ (of_decide_eq_true (h _ (List.getElem_mem hi)))
      by_cases hx : x.cps.toList[i] = 45
      · rw [decide_eq_false (fun z => hm.mp z hx), hx]; rfl
      · rw [decide_eq_true (hm.mpr hx), beq_false_of_ne hx]; rfl
    have f1 := hf 0 (by omega)
    have f2 := hf (x.length - 1) (by omega)
    unfold fst0 lst0
    rw [f1, f2]; simp
theorem beq_sign {c : Nat} : ((⟨#[c]⟩ : Str) == ("-" : Str)) = (c == 45) := by
  rw [Bool.eq_iff_iff, beq_iff_eq, beq_iff_eq]
  constructor
  · intro h
    have := congrArg (fun s : Str => s.cps.toList) h
    have h' : [c] = [45] := this
    simpa using h'
  · intro h; subst h; rfl
theorem law_label_ok {w u : W} {st : Store} (h : Pic st w u) : d__law_is_label [w] st = .ok (.bl (labB u)) st := by
  unfold d__law_is_label; rw [fnDen_ap]; unfold b__law_is_label
  cases u with
  | str x =>
    obtain ⟨rfl, hx⟩ := Pic.str h
    have hL := okS.line hx
    by_cases h1 : 1 ≤ x.length
    · by_cases h2 : x.length ≤ 20
      · have l1 : (decide ((x.length : Int) < 1)) = false := decide_eq_false (by omega)
        have l2 : (decide ((20 : Int) < (x.length : Int))) = false := decide_eq_false (by omega)
        by_cases h3 : (x == ("*" : Str)) = true
        · have : labB (.str x) = true := by unfold labB; simp [h3]
          rw [this]
          simp [pic_isS h, isS, len_str hL, l1, l2, eqW_str hx ok_star, h3]
        · have h3 : (x == ("*" : Str)) = false := by simpa using h3
          have hb : labB (.str x) = plainB x := by show (x == ("*" : Str) || plainB x) = _; rw [h3]; rfl
          obtain ⟨c, hc, hm, e⟩ := ix_str (x := x) (i := 0) hL (by decide) (by omega)
          obtain ⟨t, ht, hmt, e'⟩ := ix_str (x := x) (i := (x.length : Int) - 1) hL (by omega) (by omega)
          have ht' : x.cps.toList[x.length - 1]? = some t := by rw [← ht]; congr 1; omega
          have b128 := (okS_iff.mp hx).2
          have n1 : ∀ st, neW (.str ⟨#[c]⟩) (.str ("-" : Str)) st = .ok (.bl (!(c == 45))) st := fun st => by rw [neW_str (ok_one (b128 c hm)) ok_dash, beq_sign]
          have n2 : ∀ st, neW (.str ⟨#[t]⟩) (.str ("-" : Str)) st = .ok (.bl (!(t == 45))) st := fun st => by rw [neW_str (ok_one (b128 t hmt)) ok_dash, beq_sign]
          rw [hb, plain_law h1 h2, fst0_of hc, lst0_of ht']
          have kl := kLc_mapB (env := [some (.str x), some (.str ("abcdefghijklmnopqrstuvwxyz0123456789-" : Str)), none]) (i := 2) (e := dOp (inW false) (dVar 2) (dVar 1)) (st := st) (src := none) (fun c : Nat => W.str ⟨#[c]⟩) (fun c => W.bl (decide (c ∈ GD))) x.cps.toList (by simp) (fun b _ => by simp [in_sign, GD]) (by rw [show x.cps.toList.length = x.length by simp [Str.length]]; exact hL)
          have hal := all_here (st := st) (l := x.cps.toList) (g := fun c => decide (c ∈ GD))
          simp only [Array.all_toList] at *
          generalize (List.map (fun c => W.bl (decide (c ∈ GD))) x.cps.toList) = LL at kl hal
          generalize x.cps.all (fun c => decide (c ∈ GD)) = A at hal ⊢
          simp [pic_isS h, isS, len_str hL, l1, l2, eqW_str hx ok_star, h3, wipeW]
          unfold MP.signs
          rw [kl]
          simp [hal]
          cases A with
          | false => simp
          | true =>
            simp [e, n1]
            cases (c == 45) with
            | true => simp
            | false => simp [len_str hL, e', n2]
      · have l1 : (decide ((x.length : Int) < 1)) = false := decide_eq_false (by omega)
        have l2 : (decide ((20 : Int) < (x.length : Int))) = true := decide_eq_true (by omega)
        have hs : (x == ("*" : Str)) = false := by
          rw [beq_eq_false_iff_ne]; intro z; rw [z] at h2; exact h2 (by decide +kernel)
        have : labB (.str x) = false := by show (x == ("*" : Str) || plainB x) = _; rw [hs]; unfold plainB; simp [h2]
        rw [this]
        simp [pic_isS h, isS, len_str hL, l1, l2]
    · have l1 : (decide ((x.length : Int) < 1)) = true := decide_eq_true (by omega)
      have hs : (x == ("*" : Str)) = false := by
        rw [beq_eq_false_iff_ne]; intro z; rw [z] at h1; exact h1 (by decide +kernel)
      have : labB (.str x) = false := by show (x == ("*" : Str) || plainB x) = _; rw [hs]; unfold plainB; simp [h1]
      rw [this]
      simp [pic_isS h, isS, len_str hL, l1]
  | _ => simp [pic_isS h, isS, labB]
/-! names -/
def plS : W → Bool | .str x => plainB x | _ => false
def askB : W → Bool | .tup ws => ws.all plS | _ => false
def hdS : List W → Bool | .str x :: _ => x == c_WILD | _ => false
def nameB : W → Bool | .tup ws => (if hdS ws = true then ws.drop 1 else ws).all plS | _ => false
theorem asked_ok {w u : W} {st : Store} (h : Pic st w u) : d_is_asked [w] st = .ok (.bl (askB u)) st := by
  unfold d_is_asked; rw [fnDen_ap]; unfold b_is_asked
  cases u with
  | tup ws =>
    cases h with
    | pu _ h =>
      obtain ⟨hl, hi⟩ := pu_items h
      have kl := kLc_mapB (env := [some (.tup ws), none]) (i := 1) (e := dAndV (dApp isiW (dCons (dVar 1) (dCons (dC (.gl (.ty "str"))) dNil))) (dCall 1 d__is_plain (dCons (dVar 1) dNil))) (st := st) (src := none) (fun w : W => w) (fun w => W.bl (plS w)) ws (by simp) (fun b hb => by
        have hp : pu b := puB_mono (hi b hb) (by decide)
        simp [pic_isS (.pu b hp)]
        cases b with
        | str x => simp [isS, plain_ok (x := x) hp, plS]
        | _ => simp [isS, plS]) (Nat.le_trans hl (by decide))
      have hal := all_here (st := st) (l := ws) (g := plS)
      rw [List.map_id'] at kl
      simp [pic_isT (.pu (st := st) _ h), isT, wipeW, kl, hal]
      rfl
  | _ => simp [pic_isT h, isT, askB]
theorem eqv_str {n : Nat} {w : W} {x : Str} : (dat (n + 1) w).eqv (.str x) = (match w with | .str y => y == x | _ => false) := by
  cases w with
  | str y => simp only [dat, PyData.eqv.eq_6]
  | non => rfl
  | bl b => rfl
  | int b => rfl
  | tup ws => rfl
  | _ => rfl
def hdX (s : Str) : List W → Bool | .str x :: _ => x == s | _ => false
theorem line8 {n : Nat} (h : n ≤ 8192) : n ≤ sizeLine := Nat.le_trans h (by decide)
theorem head_ok {ws : List W} {st : Store} {s : Str} (h : pu (.tup ws)) (hs : okS s = true) : eqW (.tup (ws.take 1)) (.tup [.str s]) st = .ok (.bl (hdX s ws)) st := by
  obtain ⟨hl, hi⟩ := pu_items h
  have h1 : pu (.tup (ws.take 1)) := by
    show (decide ((ws.take 1).length ≤ 8192) && (ws.take 1).all (puB 4)) = true
    rw [Bool.and_eq_true, decide_eq_true_iff, List.all_eq_true]
    exact ⟨by simp; omega, fun a ha => hi a (List.mem_of_mem_take ha)⟩
  have h2 : pu (.tup [.str s]) := by
    show (decide (1 ≤ 8192) && (okS s && true)) = true
    rw [hs]; rfl
  rw [pic_eq (.pu _ h1) (.pu _ h2)]
  congr 2
  cases ws with
  | nil => rfl
  | cons w r =>
    show PyData.eqv (.tuple [dat 4 w]) (.tuple [.str s]) = _
    rw [PyData.eqv.eq_8, PyData.eqvAll.eq_2, PyData.eqvAll.eq_1, Bool.and_true, eqv_str]
    cases w <;> rfl
theorem nhead_ok {ws : List W} {st : Store} {s : Str} (h : pu (.tup ws)) (hs : okS s = true) : neW (.tup (ws.take 1)) (.tup [.str s]) st = .ok (.bl (!hdX s ws)) st := by
  have e := head_ok (st := st) h hs
  unfold eqW at e
  unfold neW
  split at e
  · split at e
    · rename_i d e' h1 h2 hs
      simp only [h1, h2, if_pos hs]
      injection e with e1 _
      injection e1 with e1
      rw [e1]
    · cases e
  · cases e
theorem pu_sub {ws : List W} (h : pu (.tup ws)) (r : List W) (hr : ∀ w ∈ r, w ∈ ws) (hl : r.length ≤ ws.length) : pu (.tup r) := by
  obtain ⟨hl', hi⟩ := pu_items h
  show (decide (r.length ≤ 8192) && r.all (puB 4)) = true
  rw [Bool.and_eq_true, decide_eq_true_iff, List.all_eq_true]
  exact ⟨by omega, fun a ha => hi a (hr a ha)⟩
@[simp] theorem sl_to {ws : List W} {st : Store} : slW (.tup ws) none (some 1) st = .ok (.tup (ws.take 1)) st := by
  show Res.ok (W.tup (cutW ws none (some ((1 : Nat) : Int)))) st = _
  rw [cut_to]
@[simp] theorem sl_from {ws : List W} {st : Store} : slW (.tup ws) (some 1) none st = .ok (.tup (ws.drop 1)) st := by
  show Res.ok (W.tup (cutW ws (some ((1 : Nat) : Int)) none)) st = _
  rw [cut_from]
theorem tup_one {s : Str} {st : Store} : kTup [.str s] st = .ok (.tup [.str s]) st := kTup_ok (Nat.le_trans (by simp : [W.str s].length ≤ 1) (by decide))
theorem name_ok {w u : W} {st : Store} (h : Pic st w u) : d_is_name [w] st = .ok (.bl (nameB u)) st := by
  unfold d_is_name; rw [fnDen_ap]; unfold b_is_name
  cases u with
  | tup ws =>
    cases h with
    | pu _ h =>
      have hh : eqW (.tup (ws.take 1)) (.tup [.str c_WILD]) st = .ok (.bl (hdS ws)) st := by
        rw [head_ok h ok_wild]; congr 2
      have hd : pu (.tup (ws.drop 1)) := pu_sub h _ (fun w m => List.mem_of_mem_drop m) (by simp)
      have a1 := asked_ok (.pu (st := st) _ hd)
      have a2 := asked_ok (.pu (st := st) _ h)
      have hn : nameB (.tup ws) = (if hdS ws = true then ws.drop 1 else ws).all plS := rfl
      rw [hn]
      simp [-List.drop_one, pic_isT (.pu (st := st) _ h), isT, tup_one, hh]
      cases hdS ws with
      | true => simp [-List.drop_one, a1]; rfl
      | false => simp [-List.drop_one, a2]; rfl
  | _ => simp [pic_isT h, isT, nameB]
theorem star_plain : plainB ("*" : Str) = false := by decide +kernel
theorem labs_strs : ∀ {ws : List W}, ws.all labB = true → ∃ xs : List Str, ws = xs.map W.str
  | [], _ => ⟨[], rfl⟩
  | w :: ws, h => by
    rw [List.all_cons, Bool.and_eq_true] at h
    obtain ⟨xs, rfl⟩ := labs_strs h.2
    cases w with
    | str x => exact ⟨x :: xs, rfl⟩
    | _ => exact nomatch (show false = true from h.1)
theorem lab_split (x : Str) : (labB (.str x) && !(x == ("*" : Str))) = plainB x := by
  show ((x == ("*" : Str) || plainB x) && _) = _
  cases h : (x == ("*" : Str)) with
  | true =>
    have : x = "*" := beq_iff_eq.mp h
    subst this
    rw [star_plain]; rfl
  | false => simp
theorem range_all {β : Type} (l : List β) (f : Nat → Bool) (g : β → Bool) : (∀ i b, l[i]? = some b → f i = g b) → (List.range l.length).all f = l.all g := by
  intro h
  rw [Bool.eq_iff_iff, List.all_eq_true, List.all_eq_true]
  constructor
  · intro hf b hb
    obtain ⟨i, hi, rfl⟩ := List.getElem_of_mem hb
    rw [← h i _ (List.getElem?_eq_getElem hi)]
    exact hf i (List.mem_range.mpr hi)
  · intro hg i hi
    have hi := List.mem_range.mp hi
    rw [h i _ (List.getElem?_eq_getElem hi)]
    exact hg _ (List.getElem_mem hi)
theorem lt62 {n : Nat} (h : n ≤ 8192) : (n : Int) < 2 ^ 62 := Int.lt_of_le_of_lt (Int.ofNat_le.mpr h) (by decide)
theorem ints1 (n : Nat) : intsW 1 ((n : Int) - 1).toNat = (List.range (n - 1)).map fun i : Nat => W.int (1 + (i : Nat)) := by
  unfold intsW; rw [show ((n : Int) - 1).toNat = n - 1 by omega]
theorem law_name_ok {w u : W} {st : Store} (h : Pic st w u) : d__law_is_name [w] st = .ok (.bl (nameB u)) st := by
  unfold d__law_is_name; rw [fnDen_ap]; unfold b__law_is_name
  cases u with
  | tup ws =>
    cases h with
    | pu _ h =>
      obtain ⟨hl, hi⟩ := pu_items h
      have kl := kLc_mapB (env := [some (.tup ws), none, none]) (i := 2) (e := dCall 1 d__law_is_label (dCons (dVar 2) dNil)) (st := st) (src := none) (fun w : W => w) (fun w => W.bl (labB w)) ws (by simp) (fun b hb => by
        have hp : pu b := puB_mono (hi b hb) (by decide)
        simp [law_label_ok (.pu (st := st) b hp)]) (Nat.le_trans hl (by decide))
      have hal := all_here (st := st) (l := ws) (g := labB)
      rw [List.map_id'] at kl
      simp [pic_isT (.pu (st := st) _ h), isT, wipeW, kl, hal]
      cases hA : ws.all labB with
      | false =>
        have : nameB (.tup ws) = false := by
          show (if hdS ws = true then ws.drop 1 else ws).all plS = false
          rw [Bool.eq_false_iff] at hA ⊢
          intro hn
          apply hA
          have pl : ∀ w, plS w = true → labB w = true := fun w hw => by
            cases w with
            | str x => show (x == ("*" : Str) || plainB x) = true; rw [show plainB x = true from hw]; simp
            | _ => exact nomatch (show false = true from hw)
          cases ws with
          | nil => rfl
          | cons w r =>
            rw [List.all_eq_true] at hn ⊢
            by_cases hh : hdS (w :: r) = true
            · rw [if_pos hh] at hn
              intro a ha
              rcases List.mem_cons.mp ha with rfl | ha
              · cases a with
                | str x => show (x == ("*" : Str) || plainB x) = true; rw [show (x == ("*" : Str)) = true from hh]; rfl
                | _ => exact nomatch (show false = true from hh)
              · exact pl a (hn a (by simpa using ha))
            · rw [if_neg hh] at hn
              exact fun a ha => pl a (hn a ha)
        rw [this]; simp
      | true =>
        obtain ⟨xs, rfl⟩ := labs_strs hA
        have hx : ∀ x ∈ xs, okS x = true := fun x hx => hi (.str x) (List.mem_map_of_mem hx)
        generalize ((xs.map W.str).map fun w => W.bl (labB w)) = L1
        obtain ⟨S, hS⟩ : ∃ S, S = st ++ [Ob.lst L1] := ⟨_, rfl⟩
        rw [← hS]
        have hlen : lenW [.tup (xs.map W.str)] S = .ok (.int (xs.length : Int)) S := by
          rw [len_seq (ws := xs.map W.str) rfl]; simp
        simp only [List.length_map] at hl
        have hk := kR2_ok (st := S) (i := 1) (j := (xs.length : Int)) (by decide) (by decide) (Int.natCast_nonneg _) (lt62 hl)
        have hn : nameB (.tup (xs.map W.str)) = (xs.drop 1).all fun x => !(x == ("*" : Str)) := by
          show (if hdS (xs.map W.str) = true then (xs.map W.str).drop 1 else xs.map W.str).all plS = _
          cases xs with
          | nil => rfl
          | cons x r =>
            rw [List.map_cons, List.all_cons, Bool.and_eq_true, List.all_eq_true] at hA
            have hr : ∀ y ∈ r, (!(y == ("*" : Str))) = plainB y := fun y hy => by
              rw [← lab_split y, hA.2 (.str y) (List.mem_map_of_mem hy)]; simp
            have er : (r.map W.str).all plS = r.all fun x => !(x == ("*" : Str)) := by
              rw [List.all_map, Bool.eq_iff_iff, List.all_eq_true, List.all_eq_true]
              exact ⟨fun h y hy => (hr y hy).trans (h y hy), fun h y hy => (hr y hy).symm.trans (h y hy)⟩
            have ehd : hdS ((x :: r).map W.str) = (x == ("*" : Str)) := rfl
            rw [ehd]
            cases hs : (x == ("*" : Str)) with
            | true => rw [if_pos rfl]; simpa using er
            | false =>
              rw [if_neg (by simp)]
              show (plainB x && (r.map W.str).all plS) = _
              have := lab_split x
              rw [hA.1, hs] at this
              rw [← this, er]; simp
        rw [hn]
        have kl2 := kLc_mapB (env := [some (.tup (xs.map W.str)), none, none]) (i := 1) (e := dOp neW (dOp ixW (dVar 0) (dVar 1)) (dC (.str ("*" : Str)))) (st := S) (src := none) (fun i : Nat => W.int (1 + (i : Nat))) (fun i => W.bl (!(xs.getD (i + 1) ("*" : Str) == ("*" : Str)))) (List.range (xs.length - 1)) (by simp) (fun b hb => by
          have hb := List.mem_range.mp hb
          have hb1 : b + 1 < xs.length := by omega
          obtain ⟨v, hv, hg, e⟩ := ix_mem (st := S) (a := .tup (xs.map W.str)) (ws := xs.map W.str) (i := 1 + (b : Nat)) rfl (by omega) (by simp; omega)
          have : v = .str (xs.getD (b + 1) ("*" : Str)) := by
            have h1 : (1 + (b : Int)).toNat = b + 1 := by omega
            rw [h1, List.getElem?_map, List.getElem?_eq_getElem hb1] at hg
            rw [List.getD_eq_getElem?_getD, List.getElem?_eq_getElem hb1]
            simpa using hg.symm
          subst this
          have ho : okS (xs.getD (b + 1) ("*" : Str)) = true := by
            rw [List.getD_eq_getElem?_getD, List.getElem?_eq_getElem hb1]
            exact hx _ (List.getElem_mem hb1)
          simp only [dOp_ap, dVar_ap, List.set_cons_succ, List.set_cons_zero, List.getElem?_cons_zero, List.getElem?_cons_succ, Res.bind_ok, kOp1_ap, dC_ap, e]
          exact neW_str ho ok_star) (line8 (by simp; omega))
        have hal2 := all_here (st := S) (l := List.range (xs.length - 1)) (g := fun i => !(xs.getD (i + 1) ("*" : Str) == ("*" : Str)))
        have er : (List.range (xs.length - 1)).all (fun i => !(xs.getD (i + 1) ("*" : Str) == ("*" : Str))) = (xs.drop 1).all fun x => !(x == ("*" : Str)) := by
          rw [show xs.length - 1 = (xs.drop 1).length by simp]
          refine range_all _ _ _ fun i b hb => ?_
          rw [List.getElem?_drop, Nat.add_comm] at hb
          rw [List.getD_eq_getElem?_getD, hb]; rfl
        have hz : intsW 1 ((xs.length : Int) - 1).toNat = (List.range (xs.length - 1)).map (fun i : Nat => W.int (1 + (i : Nat))) := by
          exact ints1 _
        rw [hz] at hk
        rw [er] at hal2
        generalize List.map (fun i => W.bl (!(xs.getD (i + 1) ("*" : Str) == ("*" : Str)))) (List.range (xs.length - 1)) = LL at kl2 hal2
        generalize (xs.drop 1).all (fun x => !(x == ("*" : Str))) = A at *
        simp -implicitDefEqProofs [hlen, hk, kl2, wipeW, hal2]
        rw [hS, List.append_assoc, gc_ba]
  | _ => simp [pic_isT h, isT, nameB]
/-! copies -/
theorem rebuilt_pu : ∀ (n : Nat) (w : W), puB n w = true → n ≤ 5 → ∀ (m : Nat) (st : Store), n ≤ m → d_rebuilt m [w] st = .ok w st
  | 0, _, h, _, _, _, _ => nomatch (show false = true from h)
  | n + 1, w, h, hn, 0, st, hm => by omega
  | n + 1, w, h, hn, m + 1, st, hm => by
    have hp : pu w := puB_mono h hn
    unfold d_rebuilt; rw [fnDen_ap]; unfold b_rebuilt
    cases w with
    | tup ws =>
      have h' : (decide (ws.length ≤ 8192) && ws.all (puB n)) = true := h
      rw [Bool.and_eq_true, decide_eq_true_iff, List.all_eq_true] at h'
      have kl := kLc_mapB (env := [some (.tup ws), none]) (i := 1) (e := dCall 1 (d_rebuilt m) (dCons (dVar 1) dNil)) (st := st) (src := none) (fun w : W => w) (fun w => w) ws (by simp) (fun b hb => by
        simp [rebuilt_pu n b (h'.2 b hb) (by omega) m st (by omega)]) (line8 h'.1)
      rw [List.map_id'] at kl
      have hg : gc st (.tup ws) (st ++ [.lst ws]) = .ok (.tup ws) st := gc_app (cl_pu _ 5 _ hp)
      have ht : tupleW [.loc st.length] (st ++ [.lst ws]) = .ok (.tup ws) (st ++ [.lst ws]) := by
        unfold tupleW lstW; simp
      simp [pic_isL (.pu (st := st) _ hp), pic_isT (.pu (st := st) _ hp), isT, isL, wipeW, kl, ht, hg]
    | str x => simp [pic_isL (.pu (st := st) _ hp), pic_isT (.pu (st := st) _ hp), isT, isL]
    | bl x => simp [pic_isL (.pu (st := st) _ hp), pic_isT (.pu (st := st) _ hp), isT, isL]
    | int x => simp [pic_isL (.pu (st := st) _ hp), pic_isT (.pu (st := st) _ hp), isT, isL, gc_same]
    | non => simp [pic_isL (.pu (st := st) _ hp), pic_isT (.pu (st := st) _ hp), isT, isL]
    | _ => exact nomatch (show false = true from h)
/-- the copy of a value: the value itself, or a new list -/
theorem rebuilt_ok {w u : W} {st : Store} (h : Pic st w u) : ∃ w' g, d_rebuilt 8 [w] st = .ok w' (st ++ g) ∧ Pic (st ++ g) w' u ∧ (∀ ws, u = .fro ws → w' = .loc st.length ∧ g = [.lst ws]) := by
  cases h with
  | pu _ h => exact ⟨w, [], by rw [rebuilt_pu 5 w h (by decide) 8 st (by decide), List.append_nil], .pu _ h, fun ws e => by subst e; exact nomatch (show false = true from h)⟩
  | ls k ws h hl hw =>
    refine ⟨.loc st.length, [.lst ws], ?_, .ls _ ws (by simp) hl hw, fun ws' e => by cases e; exact ⟨rfl, rfl⟩⟩
    have hP : Pic st (.loc k) (.fro ws) := .ls k ws h hl hw
    show d_rebuilt (7 + 1) [.loc k] st = _
    unfold d_rebuilt; rw [fnDen_ap]; unfold b_rebuilt
    have kl := kLc_mapB (env := [some (.loc k), none]) (i := 1) (e := dCall 1 (d_rebuilt 7) (dCons (dVar 1) dNil)) (st := st) (src := some k) (fun w : W => w) (fun w => w) ws (by simpa using h) (fun b hb => by
      simp [rebuilt_pu 5 b (hw b hb) (by decide) 7 st (by decide)]) (line8 hl)
    rw [List.map_id'] at kl
    have hg : gc st (.loc st.length) (st ++ [.lst ws]) = .ok (.loc st.length) (st ++ [.lst ws]) := gc_newA (Nat.le_refl _) (by simp) (cls_pu _ 5 ws hw)
    simp [pic_isL hP, isL, wipeW, itOf_loc h, kl, hg]
/-! names shown -/
theorem check_good {w u : W} {st : Store} (h : Pic st w u) (hn : nameB u = true) : d_check_name [w] st = .ok .non st := by
  unfold d_check_name; rw [fnDen_ap]; unfold b_check_name
  simp [name_ok h, hn]
theorem check_bad {w u : W} {st : Store} (h : Pic st w u) (hn : nameB u = false) : ∃ w' g, d_check_name [w] st = .err "InvalidName" w' (st ++ g) ∧ Pic (st ++ g) w' u ∧ (∀ ws, u = .fro ws → w' = .loc st.length ∧ g = [.lst ws]) := by
  obtain ⟨w', g, e, hP, hf⟩ := rebuilt_ok h
  refine ⟨w', g, ?_, hP, hf⟩
  unfold d_check_name; rw [fnDen_ap]; unfold b_check_name
  simp [name_ok h, hn, e]
theorem name_strs {u : W} (h : nameB u = true) : ∃ xs : List Str, u = .tup (xs.map W.str) ∧ ∀ x ∈ xs, x.length ≤ 20 ∧ ¬ 46 ∈ x.cps.toList := by
  have pl : ∀ x, plainB x = true → x.length ≤ 20 ∧ ¬ 46 ∈ x.cps.toList := fun x hx => by
    unfold plainB at hx
    simp only [Bool.and_eq_true, decide_eq_true_eq, List.all_eq_true] at hx
    exact ⟨hx.1.1.1.2, fun z => by have := hx.1.1.2 46 z; revert this; decide +kernel⟩
  have all : ∀ ws : List W, ws.all plS = true → ∃ xs : List Str, ws = xs.map W.str ∧ ∀ x ∈ xs, x.length ≤ 20 ∧ ¬ 46 ∈ x.cps.toList := by
    intro ws
    induction ws with
    | nil => intro _; exact ⟨[], rfl, fun _ z => nomatch z⟩
    | cons w r ih =>
      intro h
      rw [List.all_cons, Bool.and_eq_true] at h
      obtain ⟨xs, rfl, hx⟩ := ih h.2
      cases w with
      | str x => exact ⟨x :: xs, rfl, fun y hy => by
          rcases List.mem_cons.mp hy with rfl | hy
          · exact pl _ h.1
          · exact hx y hy⟩
      | _ => exact nomatch (show false = true from h.1)
  cases u with
  | tup ws =>
    have h' : (if hdS ws = true then ws.drop 1 else ws).all plS = true := h
    by_cases hh : hdS ws = true
    · rw [if_pos hh] at h'
      obtain ⟨xs, e, hx⟩ := all _ h'
      cases ws with
      | nil => exact ⟨[], rfl, fun _ z => nomatch z⟩
      | cons w r =>
        cases w with
        | str x =>
          have hx' : x = c_WILD := beq_iff_eq.mp hh
          subst hx'
          refine ⟨c_WILD :: xs, ?_, fun y hy => ?_⟩
          · have e' : r = xs.map W.str := by simpa using e
            rw [e']; rfl
          · rcases List.mem_cons.mp hy with rfl | hy
            · decide +kernel
            · exact hx y hy
        | _ => exact nomatch (show false = true from hh)
    · rw [if_neg hh] at h'
      obtain ⟨xs, rfl, hx⟩ := all _ h'
      exact ⟨xs, rfl, hx⟩
  | _ => exact nomatch (show false = true from h)
def dotS : Str := "."
def showT (xs : List Str) : Str := Txt.join ("" : Str) (xs.map fun x => x ++ dotS)
def shownS (xs : List Str) : Str := if xs.isEmpty = true then dotS else showT xs
end
end K01
namespace K01
open PySem PySem.Spec PyProof.Rows L2 MP
open Classical
noncomputable section
/-! texts -/
abbrev cl (x : Str) : List Nat := x.cps.toList
theorem str_ext {x y : Str} (h : cl x = cl y) : x = y := by
  obtain ⟨x⟩ := x; obtain ⟨y⟩ := y
  have : x = y := Array.toList_inj.mp h
  rw [this]
theorem cl_app (x y : Str) : cl (x ++ y) = cl x ++ cl y := by
  show (x.cps ++ y.cps).toList = _
  simp [cl]
theorem len_cl (x : Str) : x.length = (cl x).length := by simp [Str.length, cl]
theorem fold_cl (s : Array Nat) : ∀ (r : List Str) (a : Array Nat), (r.foldl (fun acc p => acc ++ s ++ p.cps) a).toList = a.toList ++ (r.map fun p => s.toList ++ cl p).flatten
  | [], a => by simp
  | p :: r, a => by
    rw [List.foldl_cons, fold_cl s r]; simp [cl]
theorem join_cl (s : Str) (p : Str) (r : List Str) : cl (Txt.join s (p :: r)) = cl p ++ (r.map fun p => cl s ++ cl p).flatten := by
  show (List.foldl _ p.cps r).toList = _
  exact fold_cl s.cps r p.cps
theorem join_nil (s : Str) : cl (Txt.join s []) = [] := rfl
theorem join0 (ys : List Str) : cl (Txt.join ("" : Str) ys) = (ys.map cl).flatten := by
  cases ys with
  | nil => rfl
  | cons p r =>
    rw [join_cl]
    have : cl ("" : Str) = [] := rfl
    simp [this]
theorem dot_cl : cl dotS = [46] := rfl
theorem show_cl (xs : List Str) : cl (showT xs) = (xs.map fun x => cl x ++ [46]).flatten := by
  unfold showT
  rw [join0, List.map_map]
  refine congrArg List.flatten (List.map_congr_left fun x _ => ?_)
  show cl (x ++ dotS) = _
  rw [cl_app, dot_cl]
theorem show_join {xs : List Str} (h : xs ≠ []) : cl (showT xs) = cl (Txt.join dotS xs) ++ [46] := by
  rw [show_cl]
  cases xs with
  | nil => exact absurd rfl h
  | cons p r =>
    rw [join_cl, dot_cl]
    have key : ∀ (r : List Str) (a : List Nat), (a ++ [46]) ++ (r.map fun x => cl x ++ [46]).flatten = a ++ (r.map fun p => [46] ++ cl p).flatten ++ [46] := by
      intro r
      induction r with
      | nil => intro a; simp
      | cons x r ih =>
        intro a
        have := ih (a ++ [46] ++ cl x)
        simp only [List.map_cons, List.flatten_cons, List.append_assoc] at this ⊢
        exact this
    rw [List.map_cons, List.flatten_cons]
    exact key r (cl p)
def cutT (t : Str) : Str := cutS t none (some (-1))
theorem cutT_cl (t : Str) : cl (cutT t) = (cl t).take (t.length - 1) := by
  unfold cutT cutS HT.sIx
  simp only [List.drop_zero, Nat.sub_zero]
  rw [if_pos (by decide)]
  have : ((-1 : Int) + (t.length : Int)).toNat = t.length - 1 := by omega
  rw [this]
theorem cutT_law {t : Str} (h : 1 ≤ t.length) : cutS t none (some ((t.length : Int) - 1)) = cutT t := by
  apply str_ext
  rw [cutT_cl]
  unfold cutS HT.sIx
  simp only [List.drop_zero, Nat.sub_zero]
  rw [if_neg (by omega)]
  have : ((t.length : Int) - 1).toNat = t.length - 1 := by omega
  rw [this, Nat.min_eq_left (by omega)]
def lastDot (t : Str) : Bool := decide (1 ≤ t.length) && (lst0 t == 46)
theorem ends_dot (t : Str) : Txt.endswith t dotS = lastDot t := by
  unfold Txt.endswith lastDot
  have h1 : dotS.length = 1 := rfl
  rw [h1, Nat.zero_add]
  by_cases h : 1 ≤ t.length
  · rw [decide_eq_true h, Bool.true_and, Bool.true_and]
    unfold Builtin.Str.subAt lst0
    rw [h1]
    have hl : t.length - 1 < t.cps.toList.length := by rw [show t.cps.toList.length = t.length from (len_cl t).symm]; omega
    rw [List.getElem?_eq_getElem hl, Option.getD_some, Bool.eq_iff_iff, beq_iff_eq, beq_iff_eq]
    have e : (t.cps.extract (t.length - 1) (t.length - 1 + 1)).toList = [t.cps.toList[t.length - 1]] := by
      rw [Array.toList_extract]
      unfold List.extract
      rw [show t.length - 1 + 1 - (t.length - 1) = 1 by omega, List.drop_eq_getElem_cons hl]; simp
    constructor
    · intro hx
      have := congrArg Array.toList hx
      rw [e] at this
      have h2 : [t.cps.toList[t.length - 1]] = [46] := this
      simpa using h2
    · intro hx
      apply Array.toList_inj.mp
      rw [e, hx]; rfl
  · rw [decide_eq_false h]; rfl
theorem last_cl {t : Str} (h : lastDot t = true) : cl t = cl (cutT t) ++ [46] := by
  unfold lastDot at h
  rw [Bool.and_eq_true, decide_eq_true_iff, beq_iff_eq] at h
  have hl : t.length - 1 < (cl t).length := by rw [← len_cl]; omega
  have h2 : (cl t)[t.length - 1] = 46 := by
    have := h.2
    unfold lst0 at this
    rw [List.getElem?_eq_getElem hl] at this
    simpa using this
  rw [cutT_cl]
  conv => lhs; rw [← List.take_append_drop (t.length - 1) (cl t)]
  rw [List.drop_eq_getElem_cons hl, h2, List.drop_of_length_le (by rw [← len_cl]; omega)]
def parts (t : Str) : List Str := Txt.split (cutT t) dotS
theorem parts_ne (t : Str) : parts t ≠ [] := fun h => by
  have := split_pos (cutT t) dotS
  rw [show Txt.split (cutT t) dotS = [] from h] at this
  simp at this
theorem parts_join (t : Str) : Txt.join dotS (parts t) = cutT t := (StrLaws.glued_eq_join dotS (parts t)).trans (StrLaws.join_split (cutT t) dotS)
theorem show_parts {t : Str} (h : lastDot t = true) : showT (parts t) = t := by
  apply str_ext
  rw [show_join (parts_ne t), parts_join, last_cl h]
theorem parts_show {xs : List Str} (h : xs ≠ []) (hd : ∀ x ∈ xs, ¬ 46 ∈ cl x) : parts (showT xs) = xs := by
  have e : cutT (showT xs) = Txt.join dotS xs := by
    apply str_ext
    rw [cutT_cl, show_join h, len_cl, show_join h]
    simp
  unfold parts
  rw [e]
  exact TL.split_join (y := dotS) (s := 46) (S := []) rfl (by decide +kernel) h hd
theorem show_last {xs : List Str} (h : xs ≠ []) : lastDot (showT xs) = true := by
  have e := show_join h
  unfold lastDot lst0
  have hl : (showT xs).length = (cl (Txt.join dotS xs)).length + 1 := by rw [len_cl, e]; simp
  rw [hl, decide_eq_true (by omega)]
  have e2 : (showT xs).cps.toList = cl (Txt.join dotS xs) ++ [46] := e
  rw [e2, Nat.add_sub_cancel]
  simp
theorem mem_join {s : Str} : ∀ {ys : List Str} {y : Str} {c : Nat}, y ∈ ys → c ∈ cl y → c ∈ cl (Txt.join s ys) := by
  intro ys y c hy hc
  cases ys with
  | nil => nomatch hy
  | cons p r =>
    rw [join_cl, List.mem_append]
    rcases List.mem_cons.mp hy with rfl | hy
    · exact .inl hc
    · exact .inr (List.mem_flatten.mpr ⟨_, List.mem_map_of_mem hy, List.mem_append.mpr (.inr hc)⟩)
theorem parts_ok {t : Str} (h : okS t = true) (hl : t.length ≤ 8000) : pu (.tup ((parts t).map W.str)) := by
  have hc : (cutT t).length ≤ t.length := by
    rw [len_cl, cutT_cl, len_cl]; simp
  show (decide (((parts t).map W.str).length ≤ 8192) && ((parts t).map W.str).all (puB 4)) = true
  rw [Bool.and_eq_true, decide_eq_true_iff, List.all_eq_true]
  refine ⟨?_, fun a ha => ?_⟩
  · have := split_le (cutT t) dotS
    rw [List.length_map]
    show (Txt.split (cutT t) dotS).length ≤ 8192
    omega
  · obtain ⟨p, hp, rfl⟩ := List.mem_map.mp ha
    show okS p = true
    rw [okS_iff]
    refine ⟨Nat.le_trans (part_short hp) (by omega), fun c hcp => (okS_iff.mp h).2 c ?_⟩
    have h1 : c ∈ cl (Txt.join dotS (parts t)) := mem_join hp hcp
    rw [parts_join, cutT_cl] at h1
    exact List.mem_of_mem_take h1
theorem show_len (xs : List Str) (h : ∀ x ∈ xs, x.length ≤ 20) : (showT xs).length ≤ 21 * xs.length := by
  rw [len_cl, show_cl]
  induction xs with
  | nil => simp
  | cons x r ih =>
    have h1 := h x List.mem_cons_self
    have h2 := ih fun y hy => h y (List.mem_cons_of_mem _ hy)
    rw [len_cl] at h1
    simp only [List.map_cons, List.flatten_cons, List.length_append, List.length_cons, List.length_nil] at h2 ⊢
    omega
theorem show_okS {xs : List Str} (h : ∀ x ∈ xs, okS x = true) (hl : (showT xs).length ≤ 8192) : okS (showT xs) = true := by
  rw [okS_iff]
  refine ⟨hl, fun c hc => ?_⟩
  have hc : c ∈ (xs.map fun x => cl x ++ [46]).flatten := by rw [← show_cl]; exact hc
  obtain ⟨l, hl, hcl⟩ := List.mem_flatten.mp hc
  obtain ⟨x, hx, rfl⟩ := List.mem_map.mp hl
  rcases List.mem_append.mp hcl with h1 | h1
  · exact (okS_iff.mp (h x hx)).2 c h1
  · have : c = 46 := by simpa using h1
    omega
end
end K01
namespace K01
open PySem PySem.Spec PyProof.Rows L2 MP
open Classical
noncomputable section
theorem name_pu {st : Store} {w : W} {ws : List W} (h : Pic st w (.tup ws)) : w = .tup ws ∧ pu (.tup ws) := by
  cases h with
  | pu _ h => exact ⟨rfl, h⟩
theorem eq_empty {ws : List W} {st : Store} (h : pu (.tup ws)) : eqW (.tup ws) (.tup []) st = .ok (.bl ws.isEmpty) st := by
  rw [pic_eq (.pu _ h) (.pu _ rfl)]
  congr 2
  cases ws <;> rfl
theorem addW_s {x y : Str} {st : Store} (h : x.length + y.length ≤ sizeLine) : addW (.str x) (.str y) st = .ok (.str (x ++ y)) st := by
  show (if x.length + y.length ≤ sizeLine then _ else _) = _
  rw [if_pos h]
theorem join_here {st : Store} {ys : List Str} {z : Str} (h : (ys.map (·.length)).sum + ys.length * z.length ≤ 16777216) : joinW (.str z) [.loc st.length] (st ++ [.lst (ys.map W.str)]) = .ok (.str (Txt.join z ys)) (st ++ [.lst (ys.map W.str)]) := by
  have e : strsW (st ++ [.lst (ys.map W.str)]) (.loc st.length) = some ys := by
    unfold strsW seqW
    simp only [get_here, Option.bind_some, List.map_map]
    have := allO_of (stOf ∘ W.str) id ys (fun _ _ => rfl)
    rw [this]; simp
  show (match strsW (st ++ [.lst (ys.map W.str)]) (.loc st.length) with | some ys => _ | none => _) = _
  rw [e]
  exact if_pos h
theorem sum_le {xs : List Str} {f : Str → Nat} {k : Nat} (h : ∀ x ∈ xs, f x ≤ k) : (xs.map f).sum ≤ k * xs.length := by
  induction xs with
  | nil => simp
  | cons x r ih =>
    have h1 := h x List.mem_cons_self
    have h2 := ih fun y hy => h y (List.mem_cons_of_mem _ hy)
    simp only [List.map_cons, List.sum_cons, List.length_cons]
    rw [Nat.mul_add, Nat.mul_one]; omega
theorem len_add (x y : Str) : (x ++ y).length = x.length + y.length := by rw [len_cl, cl_app, List.length_append, ← len_cl, ← len_cl]
/-- (label + ".") of each, joined -/
theorem dots_ok {env : EnvW} {src : Option Nat} {i : Nat} {xs : List Str} {st : Store} (hi : i < env.length) (hc : (ItW.mk (xs.map W.str) src).Chk st) (hx : ∀ x ∈ xs, x.length ≤ 100) (hl : xs.length ≤ 8192) :
    kLc env (tName i) dYes (dOp addW (dVar i) (dC (.str "."))) ⟨xs.map W.str, src⟩ st = .ok (.loc st.length) (st ++ [.lst ((xs.map fun x => x ++ dotS).map W.str)]) ∧
    joinW (.str "") [.loc st.length] (st ++ [.lst ((xs.map fun x => x ++ dotS).map W.str)]) = .ok (.str (showT xs)) (st ++ [.lst ((xs.map fun x => x ++ dotS).map W.str)]) := by
  constructor
  · have := kLc_mapB (env := env) (i := i) (e := dOp addW (dVar i) (dC (.str ("." : Str)))) (st := st) (src := src) W.str (fun x => W.str (x ++ dotS)) xs hc (fun b hb => by
      have h1 := hx b hb
      have ha : addW (.str b) (.str ".") st = .ok (.str (b ++ dotS)) st := addW_s (Nat.le_trans (Nat.add_le_add_right h1 _) (by decide +kernel))
      simp -implicitDefEqProofs [hi, ha]) (line8 hl)
    rw [this, List.map_map]; rfl
  · refine join_here ?_
    have h1 : ((xs.map fun x => x ++ dotS).map (·.length)).sum ≤ 101 * xs.length := by
      rw [List.map_map]
      exact sum_le fun x hx' => by
        show (x ++ dotS).length ≤ 101
        rw [len_add]
        have := hx x hx'
        have h2 : dotS.length = 1 := rfl
        omega
    have h2 : ("" : Str).length = 0 := rfl
    rw [h2, Nat.mul_zero]
    omega
theorem show_good {w u : W} {st : Store} {xs : List Str} (h : Pic st w u) (e : u = .tup (xs.map W.str)) (hn : nameB u = true) (hx : ∀ x ∈ xs, x.length ≤ 20) : d_show_name [w] st = .ok (.str (shownS xs)) st := by
  subst e
  obtain ⟨rfl, hp⟩ := name_pu h
  obtain ⟨hl, _⟩ := pu_items hp
  rw [List.length_map] at hl
  obtain ⟨k1, k2⟩ := dots_ok (env := [some (.tup (xs.map W.str)), none]) (i := 1) (src := none) (st := st) (xs := xs) (by simp) (by simp) (fun x hx' => Nat.le_trans (hx x hx') (by decide)) hl
  unfold d_show_name; rw [fnDen_ap]; unfold b_show_name
  have ht : kTup [] st = .ok (.tup []) st := kTup_ok (Nat.zero_le _)
  generalize ((xs.map fun x => x ++ dotS).map W.str) = L at k1 k2
  simp -implicitDefEqProofs [check_good h hn, ht, eq_empty hp]
  unfold shownS
  cases xs with
  | nil => simp -implicitDefEqProofs; rfl
  | cons x r =>
    simp only [List.map_cons] at k1
    simp -implicitDefEqProofs [wipeW, k1, k2]
theorem show_bad {w u : W} {st : Store} (h : Pic st w u) (hn : nameB u = false) : ∃ w' g, d_show_name [w] st = .err "InvalidName" w' (st ++ g) ∧ Pic (st ++ g) w' u ∧ (∀ ws, u = .fro ws → w' = .loc st.length ∧ g = [.lst ws]) := by
  obtain ⟨w', g, e, hP, hf⟩ := check_bad h hn
  refine ⟨w', g, ?_, hP, hf⟩
  unfold d_show_name; rw [fnDen_ap]; unfold b_show_name
  simp -implicitDefEqProofs [e]
/-! names read -/
def readB (t : Str) : Bool := lastDot t && nameB (.tup ((parts t).map W.str))
theorem tuple_here {st : Store} {ws : List W} : tupleW [.loc st.length] (st ++ [.lst ws]) = .ok (.tup ws) (st ++ [.lst ws]) := by
  unfold tupleW lstW; simp
theorem split_here {t : Str} {st : Store} (h : (cutT t).length + 2 ≤ sizeLine) : splitW (.str (cutT t)) [.str "."] st = .ok (.loc st.length) (st ++ [.lst ((parts t).map W.str)]) := by
  show (if ((("." : Str).length == 0) = false ∧ (cutT t).length + 2 ≤ sizeLine) then _ else _) = _
  rw [if_pos ⟨rfl, h⟩]; rfl
theorem cut_len (t : Str) : (cutT t).length ≤ t.length := by
  rw [len_cl, cutT_cl, len_cl]; simp
theorem cut_okS {t : Str} (h : okS t = true) : okS (cutT t) = true := by
  rw [okS_iff]
  exact ⟨Nat.le_trans (cut_len t) (okS.len h), fun c hc => (okS_iff.mp h).2 c (by
    have : c ∈ cl (cutT t) := hc
    rw [cutT_cl] at this
    exact List.mem_of_mem_take this)⟩
theorem line2 {n : Nat} (h : n ≤ 8192) : n + 2 ≤ sizeLine := Nat.le_trans (Nat.add_le_add_right h 2) (by decide)
theorem sl_cut {t : Str} {st : Store} (h : okS t = true) : slW (.str t) none (some (-1)) st = .ok (.str (cutT t)) st := by
  show (if t.length ≤ sizeLine then _ else _) = _
  rw [if_pos (okS.line h)]; rfl
theorem sl_cutL {t : Str} {st : Store} (h : okS t = true) (h1 : 1 ≤ t.length) : slW (.str t) none (some ((t.length : Int) - 1)) st = .ok (.str (cutT t)) st := by
  show (if t.length ≤ sizeLine then _ else _) = _
  rw [if_pos (okS.line h), cutT_law h1]
theorem ends_ok {t : Str} {st : Store} : endswithW (.str t) [.str "."] st = .ok (.bl (lastDot t)) st := by
  show Res.ok (W.bl (Txt.endswith t dotS)) st = _
  rw [ends_dot]
theorem read_dot {st : Store} : d_name_of [.str "."] st = .ok (.tup []) st := by
  unfold d_name_of; rw [fnDen_ap]; unfold b_name_of
  have ht : kTup [] st = .ok (.tup []) st := kTup_ok (Nat.zero_le _)
  have hg : gc st (.tup []) st = .ok (.tup []) st := gc_same rfl
  simp -implicitDefEqProofs [eqW_str ok_dot ok_dot, ht, hg]
theorem read_good {t : Str} {st : Store} (h : okS t = true) (hl : t.length ≤ 8000) (h1 : t ≠ ".") (hr : readB t = true) : d_name_of [.str t] st = .ok (.tup ((parts t).map W.str)) st := by
  unfold readB at hr
  rw [Bool.and_eq_true] at hr
  have hp := parts_ok h hl
  have hb : (t == ("." : Str)) = false := beq_false_of_ne h1
  have hg : ∀ g, gc st (.tup ((parts t).map W.str)) (st ++ g) = .ok (.tup ((parts t).map W.str)) st := fun g => gc_app (cl_pu _ 5 _ hp)
  unfold d_name_of; rw [fnDen_ap]; unfold b_name_of
  have hn := name_ok (.pu (st := st ++ [.lst ((parts t).map W.str)]) _ hp)
  have hs := split_here (t := t) (st := st) (line2 (Nat.le_trans (cut_len t) (okS.len h)))
  have htu := tuple_here (st := st) (ws := (parts t).map W.str)
  rw [hr.2] at hn
  generalize (parts t).map W.str = P at *
  simp -implicitDefEqProofs [eqW_str h ok_dot, hb, pic_isS (.pu (st := st) _ (pu_str h)), isS, ends_ok, hr.1, sl_cut h, hs, htu, hn, hg]
theorem read_bad {t : Str} {st : Store} (h : okS t = true) (hl : t.length ≤ 8000) (h1 : t ≠ ".") (hr : readB t = false) : ∃ g, d_name_of [.str t] st = .err "Unreadable" (.str t) (st ++ g) := by
  have hb : (t == ("." : Str)) = false := beq_false_of_ne h1
  have hrb := rebuilt_pu 5 (.str t) (pu_str h) (by decide) 8 st (by decide)
  unfold d_name_of; rw [fnDen_ap]; unfold b_name_of
  cases hd : lastDot t with
  | false =>
    refine ⟨[], ?_⟩
    simp -implicitDefEqProofs [eqW_str h ok_dot, hb, pic_isS (.pu (st := st) _ (pu_str h)), isS, ends_ok, hd, hrb]
  | true =>
    have hp := parts_ok h hl
    have hn := name_ok (.pu (st := st ++ [.lst ((parts t).map W.str)]) _ hp)
    have hs := split_here (t := t) (st := st) (line2 (Nat.le_trans (cut_len t) (okS.len h)))
    have htu := tuple_here (st := st) (ws := (parts t).map W.str)
    have hf : nameB (.tup ((parts t).map W.str)) = false := by
      unfold readB at hr; rw [hd] at hr; simpa using hr
    rw [hf] at hn
    refine ⟨[.lst ((parts t).map W.str)], ?_⟩
    generalize (parts t).map W.str = P at *
    simp -implicitDefEqProofs [eqW_str h ok_dot, hb, pic_isS (.pu (st := st) _ (pu_str h)), isS, ends_ok, hd, sl_cut h, hs, htu, hn]
/-- what the law reads: a list of at most one name -/
def lawR (t : Str) : List W := if t = "." then [.tup []] else if readB t = true then [.tup ((parts t).map W.str)] else []
theorem law_read_ok {t : Str} {st : Store} (h : okS t = true) (hl : t.length ≤ 8000) : d__law_read [.str t] st = .ok (.loc st.length) (st ++ [.lst (lawR t)]) := by
  unfold d__law_read; rw [fnDen_ap]; unfold b__law_read
  have kl1 : ∀ (l : List W) (st : Store), l.length ≤ 1 → kLst l st = .ok (.loc st.length) (st ++ [.lst l]) := fun l st h => kLst_ok (Nat.le_trans h (by decide))
  by_cases h1 : t = "."
  · have hr : lawR t = [.tup []] := if_pos h1
    rw [hr]; subst h1
    have ht : kTup [] st = .ok (.tup []) st := kTup_ok (Nat.zero_le _)
    have hg : gc st (.loc st.length) (st ++ [.lst [.tup []]]) = .ok (.loc st.length) (st ++ [.lst [.tup []]]) := gc_newA (Nat.le_refl _) (by simp) rfl
    simp -implicitDefEqProofs [eqW_str ok_dot ok_dot, ht, hg, kl1 [.tup []] st (by simp)]
  · have hb : (t == ("." : Str)) = false := beq_false_of_ne h1
    have hge : gc st (.loc st.length) (st ++ [.lst []]) = .ok (.loc st.length) (st ++ [.lst []]) := gc_newA (Nat.le_refl _) (by simp) rfl
    by_cases h2 : t = ""
    · have hr : lawR t = [] := by
        unfold lawR; rw [if_neg h1, if_neg]; subst h2; simp [readB, lastDot]
        intro z; exact absurd z (by decide +kernel)
      have hb2 : (t == ("" : Str)) = true := beq_iff_eq.mpr h2
      rw [hr]
      simp -implicitDefEqProofs [eqW_str h ok_dot, hb, eqW_str h ok_nil, hb2, kl1 [] st (by simp), hge]
    · have hb2 : (t == ("" : Str)) = false := beq_false_of_ne h2
      have hl1 : 1 ≤ t.length := by
        rcases Nat.eq_zero_or_pos t.length with z | z
        · exfalso; apply h2; apply str_ext
          have : (cl t).length = 0 := by rw [← len_cl]; exact z
          rw [List.length_eq_zero_iff.mp this]; rfl
        · exact z
      obtain ⟨c, hc, hm, e⟩ := ix_str (x := t) (i := (t.length : Int) - 1) (okS.line h) (by omega) (by omega)
      have hc' : t.cps.toList[t.length - 1]? = some c := by rw [← hc]; congr 1; omega
      have b128 := (okS_iff.mp h).2 c hm
      have n1 : ∀ st, neW (.str ⟨#[c]⟩) (.str ("." : Str)) st = .ok (.bl (!(c == 46))) st := fun st => by
        rw [neW_str (ok_one b128) ok_dot]
        congr 3
        rw [Bool.eq_iff_iff, beq_iff_eq, beq_iff_eq]
        exact ⟨fun z => by have : [c] = [46] := congrArg cl z
                           simpa using this, fun z => by subst z; rfl⟩
      have hd : lastDot t = (c == 46) := by
        unfold lastDot; rw [decide_eq_true hl1, lst0_of hc']; rfl
      cases hcc : (c == 46) with
      | false =>
        have hr : lawR t = [] := by
          unfold lawR readB; rw [if_neg h1, hd, hcc]; rfl
        rw [hr]
        rw [hcc] at n1
        simp -implicitDefEqProofs [eqW_str h ok_dot, hb, eqW_str h ok_nil, hb2, len_str (okS.line h), e, n1, kl1 [] st (by simp), hge]
      | true =>
        rw [hcc] at n1 hd
        have hp := parts_ok h hl
        have hn := law_name_ok (.pu (st := st ++ [.lst ((parts t).map W.str)]) _ hp)
        have hs := split_here (t := t) (st := st) (line2 (Nat.le_trans (cut_len t) (okS.len h)))
        have htu := tuple_here (st := st) (ws := (parts t).map W.str)
        have hrB : readB t = nameB (.tup ((parts t).map W.str)) := by unfold readB; rw [hd]; rfl
        have hr : lawR t = if nameB (.tup ((parts t).map W.str)) = true then [.tup ((parts t).map W.str)] else [] := by
          unfold lawR; rw [if_neg h1, hrB]
        rw [hr]
        have hcl := cl_pu st.length 5 _ hp
        generalize (parts t).map W.str = P at *
        have k1 := kl1 [.tup P] (st ++ [.lst P]) (by simp)
        have k2 := kl1 [] (st ++ [.lst P]) (by simp)
        have g1 : ∀ Q, clBs st.length Q = true → gc st (.loc (st.length + 1)) (st ++ [.lst P, .lst Q]) = .ok (.loc st.length) (st ++ [.lst Q]) := fun Q hQ => gc_newA (by omega) (by simp) hQ
        cases hB : nameB (.tup P) with
        | true =>
          rw [hB] at hn
          have g2 := g1 [.tup P] (by simp only [clBs, hcl]; rfl)
          simp -implicitDefEqProofs [eqW_str h ok_dot, hb, eqW_str h ok_nil, hb2, len_str (okS.line h), e, n1, sl_cutL h hl1, hs, htu, hn]
          rw [k1]
          simp -implicitDefEqProofs [g2]
        | false =>
          rw [hB] at hn
          have g2 := g1 [] rfl
          simp -implicitDefEqProofs [eqW_str h ok_dot, hb, eqW_str h ok_nil, hb2, len_str (okS.line h), e, n1, sl_cutL h hl1, hs, htu, hn]
          rw [k2]
          simp -implicitDefEqProofs [g2]
end
end K01
namespace K01
open PySem PySem.Spec PyProof.Rows L2 MP
open Classical
noncomputable section
theorem _root_.MP.Pic.app {st : Store} {w u : W} (g : Store) (h : Pic st w u) : Pic (st ++ g) w u := by
  cases h with
  | pu _ h => exact .pu _ h
  | ls k ws h hl hw => exact .ls k ws (get_app g h) hl hw
/-! alike -/
theorem same_bl {n : Nat} {a b : Bool} {st : Store} : d__law_same (n + 1) [.bl a, .bl b] st = .ok (.bl (a == b)) st := by
  unfold d__law_same; rw [fnDen_ap]; unfold b__law_same
  have h1 : isi2W "tuple" "list" (.bl b) st = .ok (.bl false) st := rfl
  have h2 : isNW (.bl b) .non st = .ok (.bl false) st := rfl
  have h3 : isiW [.bl b, .gl (.ty "bool")] st = .ok (.bl true) st := rfl
  have h4 : isiW [.bl a, .gl (.ty "bool")] st = .ok (.bl true) st := rfl
  simp -implicitDefEqProofs [h1, h2, h3, h4]
theorem same_seq {m : Nat} {a b : W} {T : String} {x y : Bool} {ws vs : List W} {st : Store} (ha : tyN st a = some T) (hb : tyN st b = some T) (hx : kitB T "tuple" = some x) (hy : kitB T "list" = some y) (hxy : (x || y) = true)
    (sa : seqW st a = some ws) (sb : seqW st b = some vs) (hl : ws.length = vs.length) (h8 : vs.length ≤ 8192) (hi : ∀ (i : Nat) (v w : W), ws[i]? = some v → vs[i]? = some w → d__law_same m [v, w] st = .ok (.bl true) st) :
    d__law_same (m + 1) [a, b] st = .ok (.bl true) st := by
  unfold d__law_same; rw [fnDen_ap]; unfold b__law_same
  have h1 : isi2W "tuple" "list" b st = .ok (.bl true) st := by rw [isi2_of hb hx hy, hxy]
  have h2 := isi_of hb hx
  have h3 := isi_of ha hx
  have h4 := isi_of hb hy
  have h5 := isi_of ha hy
  have h6 := len_seq sa
  have h7 := len_seq sb
  rw [hl] at h6
  have hk := kR1_ok (st := st) (j := (vs.length : Int)) (by have := Int.natCast_nonneg vs.length; exact Int.le_trans (by decide) this) (lt62 h8)
  rw [show intsW 0 ((vs.length : Int)).toNat = (List.range vs.length).map (fun i : Nat => W.int (0 + (i : Nat))) from rfl] at hk
  have kl := kLc_mapB (env := [some a, some b, none]) (i := 2) (e := dCall 2 (d__law_same m) (dCons (dOp ixW (dVar 0) (dVar 2)) (dCons (dOp ixW (dVar 1) (dVar 2)) dNil))) (st := st) (src := none) (fun i : Nat => W.int (0 + (i : Nat))) (fun _ => W.bl true) (List.range vs.length) (by simp) (fun i hm => by
    have hm := List.mem_range.mp hm
    obtain ⟨v, _, ev, e1⟩ := ix_mem (i := 0 + (i : Int)) sa (by omega) (by omega)
    obtain ⟨w, _, ew, e2⟩ := ix_mem (i := 0 + (i : Int)) sb (by omega) (by omega)
    have hr := hi _ v w ev ew
    simp only [dCall_ap, dCons_ap, dOp_ap, dVar_ap, List.set_cons_succ, List.set_cons_zero, List.getElem?_cons_zero, List.getElem?_cons_succ, Res.bind_ok, kOp1_ap, e1, e2, kCons1_ap, dNil_ap, kCons2_ap, kCall_2, hr]) (line8 (by simpa using h8))
  have hal := all_here (st := st) (l := List.range vs.length) (g := fun _ => true)
  have ht : (List.range vs.length).all (fun _ => true) = true := by simp
  rw [ht] at hal
  generalize List.map (fun x : Nat => W.bl true) (List.range vs.length) = LL at kl hal
  generalize List.map (fun i : Nat => W.int (0 + (i : Nat))) (List.range vs.length) = RR at kl hk
  simp -implicitDefEqProofs [h1, h2, h3, h4, h5, h6, h7, hk, wipeW, kl, hal]
theorem same_pu : ∀ (n : Nat) (w : W), puB n w = true → n ≤ 5 → ∀ (m : Nat) (st : Store), n ≤ m → d__law_same m [w, w] st = .ok (.bl true) st
  | 0, _, h, _, _, _, _ => nomatch (show false = true from h)
  | n + 1, w, h, hn, 0, st, hm => by omega
  | n + 1, w, h, hn, m + 1, st, hm => by
    have hp : pu w := puB_mono h hn
    cases w with
    | tup ws =>
      have h' : (decide (ws.length ≤ 8192) && ws.all (puB n)) = true := h
      rw [Bool.and_eq_true, decide_eq_true_iff, List.all_eq_true] at h'
      refine same_seq (T := "tuple") (x := true) (y := false) rfl rfl rfl rfl rfl rfl rfl rfl h'.1 fun i v w hv hw => ?_
      rw [hv] at hw; cases hw
      exact same_pu n v (h'.2 v (List.mem_of_getElem? hv)) (by omega) m st (by omega)
    | bl b => rw [same_bl]; simp
    | non =>
      unfold d__law_same; rw [fnDen_ap]; unfold b__law_same
      have h1 : isi2W "tuple" "list" .non st = .ok (.bl false) st := rfl
      have h2 : isNW .non .non st = .ok (.bl true) st := rfl
      simp -implicitDefEqProofs [h1, h2]
    | int i =>
      unfold d__law_same; rw [fnDen_ap]; unfold b__law_same
      have h1 : isi2W "tuple" "list" (.int i) st = .ok (.bl false) st := rfl
      have h2 : isNW (.int i) .non st = .ok (.bl false) st := rfl
      have h3 : isiW [.int i, .gl (.ty "bool")] st = .ok (.bl false) st := rfl
      have h4 : isiW [.int i, .gl (.ty "int")] st = .ok (.bl true) st := rfl
      simp -implicitDefEqProofs [h1, h2, h3, h4]
    | str s =>
      unfold d__law_same; rw [fnDen_ap]; unfold b__law_same
      have h1 : isi2W "tuple" "list" (.str s) st = .ok (.bl false) st := rfl
      have h2 : isNW (.str s) .non st = .ok (.bl false) st := rfl
      have h3 : isiW [.str s, .gl (.ty "bool")] st = .ok (.bl false) st := rfl
      have h4 : isiW [.str s, .gl (.ty "int")] st = .ok (.bl false) st := rfl
      have h5 : isiW [.str s, .gl (.ty "str")] st = .ok (.bl true) st := rfl
      simp -implicitDefEqProofs [h1, h2, h3, h4, h5, eqW_str hp hp]
    | _ => exact nomatch (show false = true from h)
theorem same_pic {a b u : W} {st : Store} {m : Nat} (h : Pic st a u) (h' : Pic st b u) (hm : 6 ≤ m) : d__law_same m [a, b] st = .ok (.bl true) st := by
  cases h with
  | pu _ hp =>
    cases h' with
    | pu => exact same_pu 5 _ hp (by decide) m st (by omega)
    | ls k ws => exact nomatch (show false = true from hp)
  | ls k ws hk hl hw =>
    cases h' with
    | pu _ hp => exact nomatch (show false = true from hp)
    | ls k' _ hk' =>
      obtain ⟨m, rfl⟩ : ∃ m', m = m' + 1 := ⟨m - 1, by omega⟩
      refine same_seq (T := "list") (x := false) (y := true) (ws := ws) (vs := ws) (by simp [tyN, hk]) (by simp [tyN, hk']) rfl rfl rfl (by simp [seqW, hk]) (by simp [seqW, hk']) rfl hl fun i v w hv hw' => ?_
      rw [hv] at hw'; cases hw'
      exact same_pu 5 v (hw v (List.mem_of_getElem? hv)) (by decide) m st (by omega)
theorem same_pair {a b u : W} {s : Str} {st : Store} {m : Nat} (hs : okS s = true) (h : Pic st a u) (h' : Pic st b u) (hm : 7 ≤ m) : d__law_same m [.tup [.str s, a], .tup [.str s, b]] st = .ok (.bl true) st := by
  obtain ⟨m, rfl⟩ : ∃ m', m = m' + 1 := ⟨m - 1, by omega⟩
  refine same_seq (T := "tuple") (x := true) (y := false) rfl rfl rfl rfl rfl rfl rfl rfl (by simp) fun i v w hv hw => ?_
  match i with
  | 0 => simp at hv hw; subst hv; subst hw; exact same_pu 5 _ (pu_str hs) (by decide) m st (by omega)
  | 1 => simp at hv hw; subst hv; subst hw; exact same_pic h h' (by omega)
  | n + 2 => simp at hv
theorem pair_data {a u : W} {s : Str} {st : Store} (h : Pic st a u) (hs : okS s = true) : datF st 66 (.tup [.str s, a]) = some (.tuple [.str s, dU u]) ∧ SeqAt.shaped (.tuple [.str s, dU u]) = true := by
  constructor
  · show ((allO [datF st 65 (.str s), datF st 65 a]).map PyData.tuple) = _
    rw [h.dat 65 (by decide)]; rfl
  · refine shaped_of ⟨?_, ?_⟩
    · show PyData.canLayAll0 [.str s, dU u] = true
      rw [PyData.canLayAll0.eq_2, PyData.canLayAll0.eq_2, h.shp.1]
      show (PyData.strOk s && _) = true
      rw [okS.ok hs]; rfl
    · rw [PyData.depth.eq_2, PyData.depthAll.eq_2, PyData.depthAll.eq_2]
      have := h.shp.2
      have h0 : PyData.depthAll [] = 0 := rfl
      have h1 : (PyData.str s).depth = 0 := rfl
      rw [h0, h1]; omega
theorem pair_eqv {d : PyData} {s : Str} (h : d.eqv d = true) : (PyData.tuple [.str s, d]).eqv (.tuple [.str s, d]) = true := by
  rw [PyData.eqv.eq_8, PyData.eqvAll.eq_2, PyData.eqvAll.eq_2, PyData.eqv.eq_6, h]
  show (s == s && (true && true)) = true
  simp
theorem pair_ne {a b u : W} {s : Str} {st : Store} (h : Pic st a u) (h' : Pic st b u) (hs : okS s = true) : neW (.tup [.str s, a]) (.tup [.str s, b]) st = .ok (.bl false) st := by
  rw [neW_of (pair_data h hs).1 (pair_data h' hs).1 (pair_data h hs).2 (pair_data h' hs).2, pair_eqv h.refl]; rfl
theorem pair_eq {a b u : W} {s : Str} {st : Store} (h : Pic st a u) (h' : Pic st b u) (hs : okS s = true) : eqW (.tup [.str s, a]) (.tup [.str s, b]) st = .ok (.bl true) st := by
  rw [eqW_of (pair_data h hs).1 (pair_data h' hs).1 (pair_data h hs).2 (pair_data h' hs).2, pair_eqv h.refl]
/-! what the law is told -/
theorem ok_text : okS ("text" : Str) = true := by decide +kernel
theorem ok_refused : okS ("refused" : Str) = true := by decide +kernel
theorem ok_namew : okS ("name" : Str) = true := by decide +kernel
theorem two {a b : W} {st : Store} : kTup [a, b] st = .ok (.tup [a, b]) st := kTup_ok (Nat.le_trans (by simp : [a, b].length ≤ 2) (by decide))
theorem pair_cl {n : Nat} {s : Str} {w : W} (h : clB n w = true) : clB n (.tup [.str s, w]) = true := by
  simp only [clB, clBs, h]; rfl
theorem shown_good {w u : W} {st : Store} {xs : List Str} (h : Pic st w u) (e : u = .tup (xs.map W.str)) (hn : nameB u = true) (hx : ∀ x ∈ xs, x.length ≤ 20) : d__law_shown [w] st = .ok (.tup [.str "text", .str (shownS xs)]) st := by
  have hs := show_good h e hn hx
  have hg : gc st (.tup [.str "text", .str (shownS xs)]) st = .ok (.tup [.str "text", .str (shownS xs)]) st := gc_same rfl
  unfold d__law_shown; rw [fnDen_ap]; unfold b__law_shown
  simp -implicitDefEqProofs [hs, two, hg]
theorem shown_bad {w u : W} {st : Store} (h : Pic st w u) (hn : nameB u = false) : ∃ w' g, d__law_shown [w] st = .ok (.tup [.str "refused", w']) (st ++ g) ∧ Pic (st ++ g) w' u ∧ (∀ ws, u = .fro ws → w' = .loc st.length ∧ g = [.lst ws]) := by
  obtain ⟨w', g, e, hP, hf⟩ := show_bad h hn
  have hsub : subL [("TreeError", false), ("InvalidName", true), ("Unreadable", false)] "InvalidName" = some true := by decide +kernel
  unfold d__law_shown; rw [fnDen_ap]; unfold b__law_shown
  have key : ∀ (v : W) (st' : Store), gc st (.tup [.str "refused", w']) (st ++ g) = .ok v st' → fnR st ((sSeq (sAsg (dC .non) (tName 1))
    (sSeq (sTryAs 2 (sAsg (dTup (dCons (dC (.str "text")) (dCons (dCall 1 d_show_name (dCons (dVar 0) dNil)) dNil))) (tName 1)) (subL [("TreeError", false), ("InvalidName", true), ("Unreadable", false)]) (fun cN wv => (sAsg (dTup (dCons (dC (.str "refused")) (dCons (dExc wv) dNil))) (tName 1))))
    (sRet (dVar 1)))) ([w].map some ++ List.replicate (3 - [w].length) none) st) = .ok v st' := fun v st' hg => by
    simp -implicitDefEqProofs [e]
    rw [kTry_err hsub (by simp)]
    simp -implicitDefEqProofs [two, hg]
  have hgen : ∀ v st', gc st (.tup [.str "refused", w']) (st ++ g) = .ok v st' → _ := key
  cases hP with
  | pu _ hp =>
    refine ⟨_, [], ?_, by rw [List.append_nil]; exact .pu _ hp, fun ws e => by subst e; exact nomatch (show false = true from hp)⟩
    rw [List.append_nil]
    exact key _ _ (gc_app (pair_cl (cl_pu _ 5 _ hp)))
  | ls k ws hk hl hw =>
    obtain ⟨ek, eg⟩ := hf ws rfl
    refine ⟨.loc k, g, key _ _ ?_, .ls k ws hk hl hw, fun ws' e => by cases e; exact ⟨ek, eg⟩⟩
    injection ek with ek
    have ok : GcOk st (st ++ g) := fun i hi => .inl (List.getElem?_append_left hi)
    have nc : ¬ clB st.length (.tup [.str "refused", .loc k]) = true := by simp [clB, clBs, ek]
    unfold gc; rw [if_pos ok, if_neg nc]
theorem told_good {t : Str} {st : Store} {v : W} (hr : d_name_of [.str t] st = .ok v st) (hv : pu v) : d__law_told [.str t] st = .ok (.tup [.str "name", v]) st := by
  have hg : gc st (.tup [.str "name", v]) st = .ok (.tup [.str "name", v]) st := gc_same (by simp only [clB, clBs]; rw [cl_pu _ 5 _ hv]; rfl)
  unfold d__law_told; rw [fnDen_ap]; unfold b__law_told
  simp -implicitDefEqProofs [hr, two, hg]
theorem told_bad {t : Str} {st : Store} (hr : ∃ g, d_name_of [.str t] st = .err "Unreadable" (.str t) (st ++ g)) : d__law_told [.str t] st = .ok (.tup [.str "refused", .str t]) st := by
  obtain ⟨g, e⟩ := hr
  have hsub : subL [("TreeError", false), ("InvalidName", false), ("Unreadable", true)] "Unreadable" = some true := by decide +kernel
  have hg : gc st (.tup [.str "refused", .str t]) (st ++ g) = .ok (.tup [.str "refused", .str t]) st := gc_app rfl
  unfold d__law_told; rw [fnDen_ap]; unfold b__law_told
  simp -implicitDefEqProofs [e]
  rw [kTry_err hsub (by simp)]
  simp -implicitDefEqProofs [two, hg]
theorem base_bad {t : Str} {st : Store} (hr : ∃ g, d_name_of [.str t] st = .err "Unreadable" (.str t) (st ++ g)) : d__law_is_base [.str t] st = .ok (.bl true) st := by
  obtain ⟨g, e⟩ := hr
  have hsub : subL [("TreeError", true), ("InvalidName", true), ("Unreadable", true)] "Unreadable" = some true := by decide +kernel
  have h1 : ∀ env st, dIsExc [("TreeError", true), ("InvalidName", true), ("Unreadable", true)] "Unreadable" env st = .ok (.bl true) st := fun env st => by
    unfold dIsExc; rw [show ([("TreeError", true), ("InvalidName", true), ("Unreadable", true)] : List (Str × Bool)).lookup ("Unreadable" : Str) = some true by decide +kernel]
  have h2 : ∀ env st, dIsExc [("TreeError", false), ("InvalidName", false), ("Unreadable", true)] "Unreadable" env st = .ok (.bl true) st := fun env st => by
    unfold dIsExc; rw [show ([("TreeError", false), ("InvalidName", false), ("Unreadable", true)] : List (Str × Bool)).lookup ("Unreadable" : Str) = some true by decide +kernel]
  have h3 : ∀ env st, dIsExc [("TreeError", false), ("InvalidName", true), ("Unreadable", false)] "Unreadable" env st = .ok (.bl false) st := fun env st => by
    unfold dIsExc; rw [show ([("TreeError", false), ("InvalidName", true), ("Unreadable", false)] : List (Str × Bool)).lookup ("Unreadable" : Str) = some false by decide +kernel]
  unfold d__law_is_base; rw [fnDen_ap]; unfold b__law_is_base
  simp -implicitDefEqProofs [e]
  rw [kTry_err hsub (by simp)]
  simp -implicitDefEqProofs [h1, h2, h3]
theorem set_here (st : Store) (a b c : Ob) : (st ++ [a, b]).set (st.length + 1) c = st ++ [a, c] := by simp
theorem kept_ok {k : Nat} {ws : List W} {st : Store} (h : Pic st (.loc k) (.fro ws)) (hn : nameB (.fro ws) = false) : d__law_kept_apart [.loc k, .tup [.str "refused", .loc k]] st = .ok (.bl true) st := by
  have hk : st[k]? = some (.lst ws) ∧ ws.length ≤ 8192 ∧ ∀ w ∈ ws, pu w := by
    cases h with
    | ls _ _ h hl hw => exact ⟨h, hl, hw⟩
  obtain ⟨hk, hl, hw⟩ := hk
  have hl1 : listW [.loc k] st = .ok (.loc st.length) (st ++ [.lst ws]) := by unfold listW seqW; simp [hk]
  obtain ⟨w1, g1, e1, hP1, hf1⟩ := shown_bad (h.app [.lst ws]) hn
  obtain ⟨rfl, rfl⟩ := hf1 ws rfl
  have ea : (st ++ [Ob.lst ws] ++ [Ob.lst ws]) = st ++ [.lst ws, .lst ws] := by simp
  have el : (st ++ [Ob.lst ws]).length = st.length + 1 := by simp
  rw [ea, el] at e1
  have hix : ixW (.tup [.str "refused", .loc (st.length + 1)]) (.int 1) (st ++ [.lst ws, .lst ws]) = .ok (.loc (st.length + 1)) (st ++ [.lst ws, .lst ws]) := rfl
  have hap : appendW (.loc (st.length + 1)) [.str "z"] (st ++ [.lst ws, .lst ws]) = .ok .non (st ++ [.lst ws, .lst (ws ++ [.str "z"])]) := by
    unfold appendW
    simp only [get_here1]
    rw [if_pos (Nat.lt_of_le_of_lt hl (by decide)), set_here]
  have hb := kBm_l (st := st ++ [.lst ws, .lst ws]) (m := appendW) (r := dCons (dC (.str "z")) dNil) (n := st.length + 1) (ws := ws) (env := [some (.loc k), some (.tup [.str "refused", .loc k]), some (.loc st.length), some (.tup [.str "refused", .loc (st.length + 1)]), some (.loc (st.length + 1))]) (by simp)
  have hq : eqW (.loc k) (.loc st.length) (st ++ [.lst ws, .lst (ws ++ [.str "z"])]) = .ok (.bl true) (st ++ [.lst ws, .lst (ws ++ [.str "z"])]) := by
    have hA := h.app [.lst ws, .lst (ws ++ [.str "z"])]
    have hB : Pic (st ++ [.lst ws, .lst (ws ++ [.str "z"])]) (.loc st.length) (.fro ws) := .ls _ ws (by simp) hl hw
    rw [pic_eq hA hB, hA.refl]
  obtain ⟨w2, g2, e2, hP2, hf2⟩ := shown_bad (h.app [.lst ws, .lst (ws ++ [.str "z"])]) hn
  have hq2 := pair_eq hP2 ((h.app [.lst ws, .lst (ws ++ [.str "z"])]).app g2) ok_refused
  rw [List.append_assoc] at e2 hq2
  unfold d__law_kept_apart; rw [fnDen_ap]; unfold b__law_kept_apart
  simp -implicitDefEqProofs [hl1, e1, hix, hb, hap, hq]
  rw [e2]
  simp -implicitDefEqProofs only [Res.bind_ok, kOp1_ap, dVar_ap, List.getElem?_cons_zero, List.getElem?_cons_succ, hq2, Res.then_ok, kRet_ap, fnR_rt, gc_ba]
end
end K01
namespace K01
open PySem PySem.Spec PyProof.Rows L2 MP
open Classical
noncomputable section
/-! pots -/
def PotA (p n : Nat) (st : Store) : Prop := ∃ a b c : Int, st[p]? = some (.lst [.int a, .int b, .int c]) ∧ 0 ≤ b ∧ b < 10 ^ 34 ∧ 0 ≤ c ∧ c ≤ n
theorem PotA.lt {p n : Nat} {st : Store} (h : PotA p n st) : p < st.length := by
  obtain ⟨a, b, c, h, _⟩ := h
  exact (List.getElem?_eq_some_iff.mp h).1
theorem PotA.mono {p n m : Nat} {st : Store} (h : PotA p n st) (hm : n ≤ m) : PotA p m st := by
  obtain ⟨a, b, c, h, h1, h2, h3, h4⟩ := h
  exact ⟨a, b, c, h, h1, h2, h3, by omega⟩
theorem PotA.of {p n : Nat} {st st' : Store} (h : PotA p n st) (e : st'[p]? = st[p]?) : PotA p n st' := by
  obtain ⟨a, b, c, h, h1, h2, h3, h4⟩ := h
  exact ⟨a, b, c, by rw [e]; exact h, h1, h2, h3, h4⟩
theorem PotA.app {p n : Nat} {st : Store} (g : Store) (h : PotA p n st) : PotA p n (st ++ g) := h.of (List.getElem?_append_left h.lt)
theorem PotA.take {p n k : Nat} {st : Store} (h : PotA p n st) (hk : p < k) : PotA p n (st.take k) := h.of (by rw [List.getElem?_take, if_pos hk])
theorem PotA.set {p n k : Nat} {st : Store} {o : Ob} (h : PotA p n st) (hk : p ≠ k) : PotA p n (st.set k o) := h.of (List.getElem?_set_ne (Ne.symm hk))
theorem PotA.flat {p n : Nat} {st : Store} (h : PotA p n st) : ∀ (k : Nat) (o : Ob), p < k → st[p]? = some o → flatO o := by
  obtain ⟨a, b, c, h, _⟩ := h
  intro k o _ e
  rw [h] at e; cases e
  exact fun _ => rfl
theorem _root_.MP.Ext.set {p k : Nat} {st st' : Store} {o : Ob} (h : Ext p st st') (hk : st.length ≤ k) : Ext p st (st'.set k o) :=
  ⟨by simp [h.le], fun i hi hp => by rw [List.getElem?_set_ne (by omega)]; exact h.keep i hi hp⟩
theorem gc_pot {p n : Nat} {st st' : Store} {v : W} (h : Ext p st st') (hp : PotA p n st') (hl : p < st.length) (hv : clB st.length v = true) : gc st v st' = .ok v (st'.take st.length) ∧ Kp p st (st'.take st.length) ∧ PotA p n (st'.take st.length) :=
  ⟨gcx_ok h (hp.flat _) hv, h.take, hp.take hl⟩
theorem gc_potL {p n m : Nat} {st st' : Store} {ws : List W} (h : Ext p st st') (hp : PotA p n st') (hl : p < st.length) (hm : st.length ≤ m) (e : st'[m]? = some (.lst ws)) (hw : clBs st.length ws = true) : gc st (.loc m) st' = .ok (.loc st.length) (st'.take st.length ++ [.lst ws]) ∧ Kp p st (st'.take st.length) ∧ PotA p n (st'.take st.length) :=
  ⟨gc_new h (hp.flat _) hm e hw, h.take, hp.take hl⟩
theorem kAsg_sub {env : EnvW} {st st3 : Store} {mo mi : D W} {o i v : W} (h1 : mo env st = .ok o st) (h2 : mi env st = .ok i st) (h3 : setW o i v st = some st3) : kAsg (MP.tSub mo mi) env v st = .go .nx env st3 := by
  have : MP.tSub mo mi v env st = some (env, st3) := by
    unfold MP.tSub; simp only [h1, h2, h3, Option.map_some]
  unfold kAsg; rw [this]
theorem setW_of {st : Store} {k : Nat} {i : Int} {j : Nat} {ws : List W} {v : W} (h : st[k]? = some (.lst ws)) (hi : ixN ws.length i = some j) : setW (.loc k) (.int i) v st = some (st.set k (.lst (ws.set j v))) := by
  unfold setW; simp only [h, hi]
theorem mod_ok {i j : Int} {st : Store} (h : 0 < j) : modW (.int i) (.int j) st = .ok (.int (i % j)) st := if_pos h
theorem div_ok {i j : Int} {st : Store} (h : 0 < j) (h' : j < 9000) : fdivW (.int i) (.int j) st = .ok (.int (i / j)) st := by
  refine if_pos ⟨h, ?_⟩
  exact Nat.lt_of_le_of_lt (Nat.log2_le_self _) (by omega)
theorem div_big {i : Int} {st : Store} : fdivW (.int i) (.int 65537) st = .ok (.int (i / 65537)) st := if_pos ⟨by decide, by decide +kernel⟩
theorem mul_ok {i j : Int} {st : Store} (h : IntMulOk i j) : mulW (.int i) (.int j) st = .ok (.int (i * j)) st := if_pos h
theorem pow_ok {i j : Int} {st : Store} (h : CPowW i j) : powW (.int i) (.int j) st = .ok (.int (i ^ j.toNat)) st := if_pos h
theorem small_mul {i j : Int} (h : -2 ^ 64 < i) (h' : i < 2 ^ 64) : IntMulOk i j := IntMulOk.of_left (intBits_le_64 h h')
theorem pow10 (k : Int) (h0 : 0 ≤ k) (h : k ≤ 100) : CPowW 10 k := ⟨h0, by
  have : (Builtin.Int.intBits 10 : Int) = 4 := by decide +kernel
  rw [this]; omega⟩
theorem take_ok {p n : Nat} {m : Int} {st : Store} (h : PotA p n st) (hn : n ≤ 1000000) (h0 : 0 < m) (h1 : m < 9000) :
    ∃ (r : Int) (st' : Store), d__law_take [.loc p, .int m] st = .ok (.int r) st' ∧ 0 ≤ r ∧ r < m ∧ PotA p (n + 1) st' ∧ Kp p st st' := by
  have hl := h.lt
  obtain ⟨a, b, c, hp, hb0, hb, hc0, hc⟩ := h
  have kp : ∀ o, Kp p st (st.set p o) := fun o => ⟨by simp, fun i hi => List.getElem?_set_ne (Ne.symm hi)⟩
  have fin : ∀ (r x y z : Int), 0 ≤ y → y < 10 ^ 34 → 0 ≤ z → z ≤ ((n + 1 : Nat) : Int) → gc st (.int r) (st.set p (.lst [.int x, .int y, .int z])) = .ok (.int r) (st.set p (.lst [.int x, .int y, .int z])) ∧ PotA p (n + 1) (st.set p (.lst [.int x, .int y, .int z])) := fun r x y z hy hy' hz hz' => by
    have hP : PotA p (n + 1) (st.set p (.lst [.int x, .int y, .int z])) := ⟨x, y, z, by rw [List.getElem?_set_self hl], hy, hy', hz, hz'⟩
    have := (gc_pot (v := .int r) (kp (.lst [.int x, .int y, .int z])).ext hP hl rfl).1
    rw [List.take_of_length_le (by simp)] at this
    exact ⟨this, hP⟩
  have ix : ∀ (st : Store) (x y z : Int), st[p]? = some (.lst [.int x, .int y, .int z]) → ixW (.loc p) (.int 0) st = .ok (.int x) st ∧ ixW (.loc p) (.int 1) st = .ok (.int y) st ∧ ixW (.loc p) (.int 2) st = .ok (.int z) st := fun st x y z h => by
    refine ⟨?_, ?_, ?_⟩ <;> (unfold ixW seqW; simp only [h]; rfl)
  obtain ⟨i0, i1, i2⟩ := ix st a b c hp
  unfold d__law_take; rw [fnDen_ap]; unfold b__law_take
  by_cases ha : 0 < a
  · obtain ⟨f1, f2⟩ := fin (a % m) (a / m) b c hb0 hb hc0 (by omega)
    refine ⟨a % m, _, ?_, Int.emod_nonneg _ (by omega), Int.emod_lt_of_pos _ h0, f2, kp _⟩
    have hset := setW_of (v := .int (a / m)) (i := 0) (j := 0) hp rfl
    have hk := kAsg_sub (env := [some (.loc p), some (.int m), none, some (.int (a % m))]) (st := st) (mo := dVar 0) (mi := dC (.int 0)) (v := .int (a / m)) rfl rfl hset
    simp only [List.set_cons_zero] at hk
    simp -implicitDefEqProofs [i0, ha, mod_ok h0, div_ok h0 h1, hk, f1]
  · have hp1 : (st.set p (.lst [.int a, .int b, .int (c + 1)]))[p]? = some (.lst [.int a, .int b, .int (c + 1)]) := by rw [List.getElem?_set_self hl]
    obtain ⟨j0, j1, j2⟩ := ix _ a b (c + 1) hp1
    obtain ⟨S, hS⟩ : ∃ S, S = st.set p (.lst [.int a, .int b, .int (c + 1)]) := ⟨_, rfl⟩
    rw [← hS] at j0 j1 j2
    have hset := setW_of (v := .int (c + 1)) (i := 2) (j := 2) hp rfl
    have hk := kAsg_sub (env := [some (.loc p), some (.int m), none, none]) (st := st) (mo := dVar 0) (mi := dC (.int 2)) (v := .int (c + 1)) rfl rfl hset
    simp only [List.set_cons_succ, List.set_cons_zero] at hk
    rw [← hS] at hk
    have hy : Builtin.Int.intBits (b + 999983 * (c + 1)) ≤ 128 := by
      refine intBits_le ?_
      have : b + 999983 * (c + 1) < 2 ^ 128 := by
        have e1 : (10 : Int) ^ 34 = 10000000000000000000000000000000000 := by decide
        have e2 : (2 : Int) ^ 128 = 340282366920938463463374607431768211456 := by decide
        rw [e2]; rw [e1] at hb; omega
      have e3 : ((2 ^ 128 : Nat) : Int) = 2 ^ 128 := by decide
      omega
    have hpw : CPowW (b + 999983 * (c + 1)) 3 := ⟨by decide, by
      have : (Builtin.Int.intBits (b + 999983 * (c + 1)) : Int) ≤ ((128 : Nat) : Int) := Int.ofNat_le.mpr hy
      have e : (2 : Int) ^ 27 = 134217728 := by decide
      rw [e]; omega⟩
    have m1 : mulW (.int 999983) (.int (c + 1)) S = .ok (.int (999983 * (c + 1))) S := mul_ok (small_mul (by decide) (by decide))
    have m2 : mulW (.int 7) (.int (c + 1)) S = .ok (.int (7 * (c + 1))) S := mul_ok (small_mul (by decide) (by decide))
    have p1 : powW (.int (b + 999983 * (c + 1))) (.int 3) S = .ok (.int ((b + 999983 * (c + 1)) ^ (3 : Int).toNat)) S := pow_ok hpw
    have p2 : powW (.int 10) (.int 37) S = .ok (.int (10 ^ (37 : Int).toNat)) S := pow_ok (pow10 37 (by decide) (by decide))
    have d1 : ∀ x, modW (.int x) (.int (10 ^ (37 : Int).toNat + 43)) S = .ok (.int (x % (10 ^ (37 : Int).toNat + 43))) S := fun x => mod_ok (by decide)
    obtain ⟨f1, f2⟩ := fin ((((b + 999983 * (c + 1)) ^ (3 : Int).toNat + 7 * (c + 1)) % (10 ^ (37 : Int).toNat + 43)) / 65537 % m) a b (c + 1) hb0 hb (by omega) (by omega)
    rw [← hS] at f1 f2
    refine ⟨((((b + 999983 * (c + 1)) ^ (3 : Int).toNat + 7 * (c + 1)) % (10 ^ (37 : Int).toNat + 43)) / 65537) % m, S, ?_, Int.emod_nonneg _ (by omega), Int.emod_lt_of_pos _ h0, f2, by rw [hS]; exact kp _⟩
    · generalize (10 : Int) ^ (37 : Int).toNat = T at *
      generalize (b + 999983 * (c + 1)) ^ (3 : Int).toNat = Y at *
      simp -implicitDefEqProofs [i0, ha, i2, hk]
      simp -implicitDefEqProofs [j0, j1, j2, m1, m2, p1, p2, d1, div_big, mod_ok h0, f1]
end
end K01
namespace K01
open PySem PySem.Spec PyProof.Rows L2 MP
open Classical
noncomputable section
/-! lists of texts -/
def StL (b : Nat) (ws : List W) : Prop := ∀ w ∈ ws, ∃ y : Str, w = .str y ∧ okS y = true ∧ y.length ≤ b
theorem StL.app {b : Nat} {ws vs : List W} (h : StL b ws) (h' : StL b vs) : StL b (ws ++ vs) := fun w m => by
  rcases List.mem_append.mp m with m | m
  · exact h w m
  · exact h' w m
theorem StL.one {b : Nat} {y : Str} (h : okS y = true) (h' : y.length ≤ b) : StL b [.str y] := fun w m => by
  have : w = .str y := by simpa using m
  exact ⟨y, this, h, h'⟩
theorem StL.nil {b : Nat} : StL b [] := fun _ m => nomatch m
theorem StL.mono {b c : Nat} {ws : List W} (h : StL b ws) (hc : b ≤ c) : StL c ws := fun w m => by
  obtain ⟨y, e, h1, h2⟩ := h w m
  exact ⟨y, e, h1, Nat.le_trans h2 hc⟩
theorem StL.set {b i : Nat} {ws : List W} {y : Str} (h : StL b ws) (hy : okS y = true) (hl : y.length ≤ b) : StL b (ws.set i (.str y)) := fun w m => by
  rcases List.mem_or_eq_of_mem_set m with m | m
  · exact h w m
  · exact ⟨y, m, hy, hl⟩
theorem StL.strs {b : Nat} : ∀ {ws : List W}, StL b ws → ∃ ys : List Str, ws = ys.map W.str ∧ ∀ y ∈ ys, okS y = true ∧ y.length ≤ b
  | [], _ => ⟨[], rfl, fun _ m => nomatch m⟩
  | w :: ws, h => by
    obtain ⟨y, rfl, h1, h2⟩ := h w List.mem_cons_self
    obtain ⟨ys, rfl, h3⟩ := StL.strs fun w m => h w (List.mem_cons_of_mem _ m)
    exact ⟨y :: ys, rfl, fun z m => by
      rcases List.mem_cons.mp m with rfl | m
      · exact ⟨h1, h2⟩
      · exact h3 z m⟩
theorem StL.cl {b n : Nat} : ∀ {ws : List W}, StL b ws → clBs n ws = true
  | [], _ => rfl
  | w :: ws, h => by
    obtain ⟨y, rfl, _⟩ := h w List.mem_cons_self
    simp only [clBs, clB, Bool.true_and]
    exact StL.cl fun w m => h w (List.mem_cons_of_mem _ m)
theorem join_at {st : Store} {k : Nat} {ys : List Str} {z : Str} (e : st[k]? = some (.lst (ys.map W.str))) (h : (ys.map (·.length)).sum + ys.length * z.length ≤ 16777216) : joinW (.str z) [.loc k] st = .ok (.str (Txt.join z ys)) st := by
  have e : strsW st (.loc k) = some ys := by
    unfold strsW seqW
    simp only [e, Option.bind_some, List.map_map]
    have := allO_of (stOf ∘ W.str) id ys (fun _ _ => rfl)
    rw [this]; simp
  show (match strsW st (.loc k) with | some ys => _ | none => _) = _
  rw [e]
  exact if_pos h
theorem join_good {ys : List Str} {b : Nat} (h : ∀ y ∈ ys, okS y = true ∧ y.length ≤ b) (hl : b * ys.length ≤ 8192) : okS (Txt.join ("" : Str) ys) = true ∧ (Txt.join ("" : Str) ys).length ≤ b * ys.length := by
  have hlen : (Txt.join ("" : Str) ys).length ≤ b * ys.length := by
    rw [len_cl, join0]
    clear hl
    induction ys with
    | nil => simp
    | cons y r ih =>
      have h1 := (h y List.mem_cons_self).2
      have h2 := ih fun z m => h z (List.mem_cons_of_mem _ m)
      rw [len_cl] at h1
      simp only [List.map_cons, List.flatten_cons, List.length_append, List.length_cons]
      rw [Nat.mul_add, Nat.mul_one]; omega
  refine ⟨okS_iff.mpr ⟨by omega, fun c hc => ?_⟩, hlen⟩
  have hc : c ∈ (ys.map cl).flatten := by rw [← join0]; exact hc
  obtain ⟨l, hl', hcl⟩ := List.mem_flatten.mp hc
  obtain ⟨y, hy, rfl⟩ := List.mem_map.mp hl'
  exact (okS_iff.mp (h y hy).1).2 c hcl
theorem join_StL {st : Store} {k b : Nat} {ws : List W} (e : st[k]? = some (.lst ws)) (h : StL b ws) (hl : b * ws.length ≤ 8192) : ∃ x : Str, joinW (.str "") [.loc k] st = .ok (.str x) st ∧ okS x = true ∧ x.length ≤ b * ws.length := by
  obtain ⟨ys, rfl, hy⟩ := h.strs
  rw [List.length_map] at hl ⊢
  obtain ⟨h1, h2⟩ := join_good hy hl
  refine ⟨_, join_at e ?_, h1, h2⟩
  have : ("" : Str).length = 0 := rfl
  rw [this, Nat.mul_zero]
  have := sum_le (f := (·.length)) (k := b) (xs := ys) fun y m => (hy y m).2
  omega
theorem ok_app {x y : Str} (h : okS x = true) (h' : okS y = true) (hl : x.length + y.length ≤ 8192) : okS (x ++ y) = true := by
  rw [okS_iff]
  refine ⟨by rw [len_add]; exact hl, fun c hc => ?_⟩
  have hc : c ∈ cl x ++ cl y := by rw [← cl_app]; exact hc
  rcases List.mem_append.mp hc with hc | hc
  · exact (okS_iff.mp h).2 c hc
  · exact (okS_iff.mp h').2 c hc
theorem cut_good {z : Str} {lo hi : Option Int} (h : okS z = true) : okS (cutS z lo hi) = true ∧ (cutS z lo hi).length ≤ z.length := by
  have hl : (cutS z lo hi).length ≤ z.length := by
    rw [len_cl, len_cl]
    show (List.take _ (List.drop _ (cl z))).length ≤ _
    rw [List.length_take, List.length_drop]; omega
  refine ⟨okS_iff.mpr ⟨Nat.le_trans hl (okS.len h), fun c hc => (okS_iff.mp h).2 c ?_⟩, hl⟩
  have hc : c ∈ List.take (HT.sIx z.length z.length hi - HT.sIx z.length 0 lo) (List.drop (HT.sIx z.length 0 lo) (cl z)) := hc
  exact List.mem_of_mem_drop (List.mem_of_mem_take hc)
/-- a sign of a text -/
theorem sign_of {x : Str} {i : Int} (hx : okS x = true) (h0 : 0 ≤ i) (hi : i < x.length) : ∃ y : Str, okS y = true ∧ y.length ≤ 1 ∧ ∀ st, ixW (.str x) (.int i) st = .ok (.str y) st := by
  obtain ⟨c, _, hm, e⟩ := ix_str (okS.line hx) h0 hi
  exact ⟨⟨#[c]⟩, ok_one ((okS_iff.mp hx).2 c hm), Nat.le_refl 1, e⟩
def AL : Str := "0123456789abcdefghijklmnopqrstuvwxyz"
def AL1 : Str := ("-" : Str) ++ AL
theorem ok_al : okS AL = true := by decide +kernel
theorem ok_al1 : okS AL1 = true := by decide +kernel
theorem al_len : AL.length = 36 := by decide +kernel
theorem al1_len : AL1.length = 37 := by decide +kernel
theorem al1_add {st : Store} : addW (.str "-") (.str AL) st = .ok (.str AL1) st := addW_s (by decide +kernel)
theorem lst5 {l : List W} {st : Store} (h : l.length ≤ 50) : kLst l st = .ok (.loc st.length) (st ++ [.lst l]) := kLst_ok (Nat.le_trans h (by decide))
theorem ints_len (k : Int) : (intsW 0 k.toNat).length = k.toNat := by simp [intsW]
theorem label_draw {p n : Nat} {st : Store} (h : PotA p n st) (hn : n + 30 ≤ 1000000) :
    ∃ (x : Str) (st' : Store), d__law_label [.loc p] st = .ok (.str x) st' ∧ okS x = true ∧ x.length ≤ 20 ∧ PotA p (n + 30) st' ∧ Kp p st st' := by
  have hl := h.lt
  obtain ⟨t1, s1, e1, a1, b1, P1, K1⟩ := take_ok (m := 20) h (by omega) (by decide) (by decide)
  obtain ⟨L1, hL1⟩ : ∃ L, L = [W.int 1, .int 2, .int 3, .int (1 + t1), .int 20] := ⟨_, rfl⟩
  obtain ⟨t2, s2, e2, a2, b2, P2, K2⟩ := take_ok (m := 5) (P1.app [.lst L1]) (by omega) (by decide) (by decide)
  have hp1 : p ≠ s1.length := by have := P1.lt; omega
  have g2 : s2[s1.length]? = some (.lst L1) := by rw [K2.keep _ (Ne.symm hp1)]; simp
  obtain ⟨w, wm, _, e3⟩ := ix_mem (st := s2) (a := .loc s1.length) (ws := L1) (i := t2) (by simp [seqW, g2]) a2 (by rw [hL1]; simpa using b2)
  obtain ⟨k, rfl, k1, k2⟩ : ∃ k : Int, w = .int k ∧ 1 ≤ k ∧ k ≤ 20 := by
    rw [hL1] at wm
    simp only [List.mem_cons, List.not_mem_nil, or_false] at wm
    rcases wm with rfl | rfl | rfl | rfl | rfl
    · exact ⟨1, rfl, by decide, by decide⟩
    · exact ⟨2, rfl, by decide, by decide⟩
    · exact ⟨3, rfl, by decide, by decide⟩
    · exact ⟨1 + t1, rfl, by omega, by omega⟩
    · exact ⟨20, rfl, by decide, by decide⟩
  have hr := kR1_ok (st := s2) (j := k) (Int.le_trans (by decide) k1) (Int.lt_of_le_of_lt k2 (by decide))
  obtain ⟨l, s3, e4, hll, P3, X3, SL3⟩ := kLc_ok (env := [some (.loc p), some (.str AL), some (.int k), none, none]) (i := 4) (e := dOp ixW (dOp addW (dC (.str "-")) (dVar 1)) (dCall 2 d__law_take (dCons (dVar 0) (dCons (dC (.int 37)) dNil)))) (st := s2) (ws := intsW 0 k.toNat)
    (fun i acc S => PotA p (n + 2 + i) S ∧ Ext p s2 S ∧ StL 1 acc) (fun i w acc S hw hJ => by
      obtain ⟨hP, hX, hS⟩ := hJ
      have hi : i < k.toNat := by rw [← ints_len]; exact (List.getElem?_eq_some_iff.mp hw).1
      obtain ⟨t, s', e, a, b, P, Kq⟩ := take_ok (m := 37) hP (by omega) (by decide) (by decide)
      obtain ⟨y, hy, hyl, ey⟩ := sign_of (i := t) ok_al1 a (by rw [al1_len]; exact b)
      refine ⟨.str y, s', ?_, P, hX.trans Kq.ext, hS.app (.one hy hyl)⟩
      simp -implicitDefEqProofs [al1_add, e, ey]) (by rw [ints_len]; exact line8 (by omega)) ⟨P2, .refl, .nil⟩
  rw [ints_len] at hll
  have hlk : l.length = k.toNat := hll
  have P4 := (P3.mono (m := n + 25) (by rw [ints_len]; omega)).app [.lst l]
  obtain ⟨t5, s5, e5, a5, b5, P5, K5⟩ := take_ok (m := 36) P4 (by omega) (by decide) (by decide)
  have hle : st.length ≤ s3.length := by
    have := X3.le; rw [K2.len] at this; simp at this; rw [K1.len] at this; omega
  have hp3 : s3.length ≠ p := by omega
  have g5 : s5[s3.length]? = some (.lst l) := by rw [K5.keep _ hp3]; simp
  obtain ⟨y5, hy5, hyl5, ey5⟩ := sign_of (i := t5) ok_al a5 (by rw [al_len]; exact b5)
  have st5 := setW_of (v := .str y5) (i := 0) (j := 0) g5 (by unfold ixN; rw [if_pos (by decide), if_pos (by omega)]; rfl)
  have k5 := kAsg_sub (env := [some (.loc p), some (.str AL), some (.int k), some (.loc s3.length), none]) (st := s5) (mo := dVar 3) (mi := dC (.int 0)) (v := .str y5) rfl rfl st5
  have P5' := P5.set (k := s3.length) (o := .lst (l.set 0 (.str y5))) (Ne.symm hp3)
  obtain ⟨t6, s6, e6, a6, b6, P6, K6⟩ := take_ok (m := 36) P5' (by omega) (by decide) (by decide)
  have hl5 : s3.length < s5.length := (List.getElem?_eq_some_iff.mp g5).1
  have g6 : s6[s3.length]? = some (.lst (l.set 0 (.str y5))) := by rw [K6.keep _ hp3, List.getElem?_set_self hl5]
  obtain ⟨y6, hy6, hyl6, ey6⟩ := sign_of (i := t6) ok_al a6 (by rw [al_len]; exact b6)
  have st6 := setW_of (v := .str y6) (i := -1) (j := l.length - 1) g6 (by unfold ixN; rw [if_neg (by decide), if_pos (by rw [List.length_set]; omega)]; congr 1; rw [List.length_set]; omega)
  have k6 := kAsg_sub (env := [some (.loc p), some (.str AL), some (.int k), some (.loc s3.length), none]) (st := s6) (mo := dVar 3) (mi := dUn negW (dC (.int 1))) (v := .str y6) rfl rfl st6
  have hl6 : s3.length < s6.length := (List.getElem?_eq_some_iff.mp g6).1
  obtain ⟨LL, hLL⟩ : ∃ LL, LL = (l.set 0 (.str y5)).set (l.length - 1) (.str y6) := ⟨_, rfl⟩
  rw [← hLL] at k6
  have SL : StL 1 LL := by rw [hLL]; exact (SL3.set hy5 hyl5).set hy6 hyl6
  have hlL : LL.length = k.toNat := by rw [hLL]; simp [hlk]
  have P7 := P6.set (k := s3.length) (o := .lst LL) (Ne.symm hp3)
  obtain ⟨x, ex, okx, lx⟩ := join_StL (st := s6.set s3.length (.lst LL)) (k := s3.length) (b := 1) (ws := LL) (by rw [List.getElem?_set_self hl6]) SL (by rw [hlL]; omega)
  have X : Ext p st (s6.set s3.length (.lst LL)) := by
    have x1 : Ext p st s2 := (K1.ext.trans (.app [.lst L1])).trans K2.ext
    have x2 : Ext p st s5 := ((x1.trans X3).trans (.app [.lst l])).trans K5.ext
    exact (((x2.set hle).trans K6.ext).set hle)
  obtain ⟨G1, G2, G3⟩ := gc_pot (v := .str x) X P7 hl rfl
  refine ⟨x, _, ?_, okx, by rw [hlL] at lx; omega, G3.mono (by omega), G2⟩
  unfold d__law_label; rw [fnDen_ap]; unfold b__law_label
  rw [show ("0123456789abcdefghijklmnopqrstuvwxyz" : Str) = AL from rfl]
  have lst1 : kLst [W.int 1, .int 2, .int 3, .int (1 + t1), .int 20] s1 = .ok (.loc s1.length) (s1 ++ [.lst L1]) := by rw [hL1]; exact lst5 (by simp)
  simp -implicitDefEqProofs [e1, lst1, e2, e3, hr, wipeW]
  rw [e4]
  simp -implicitDefEqProofs only [Res.then_ok, kAsg_n, List.set_cons_succ, List.set_cons_zero, RsS.next_nx, sSeq_ap, sAsg_ap, dOp_ap, dVar_ap, List.getElem?_cons_zero, List.getElem?_cons_succ, Res.bind_ok, kOp1_ap, dCall_ap, dCons_ap, kCons1_ap, dC_ap, dNil_ap, kCons2_ap, kCall_2, e5, ey5, k5, e6, ey6, k6, sRet_ap, dBm_ap, kBm_s, ex, kRet_ap, fnR_rt, G1]
end
end K01
namespace K01
open PySem PySem.Spec PyProof.Rows L2 MP
open Classical
noncomputable section
theorem take_in {p n : Nat} {m : Int} {st : Store} (h : PotA p n st) (hn : n + 1 ≤ 1000000) (h0 : 0 < m) (h1 : m < 9000) :
    ∃ (r : Int) (st' : Store), d__law_take [.loc p, .int m] st = .ok (.int r) st' ∧ 0 ≤ r ∧ r < m ∧ PotA p (n + 1) st' ∧ Kp p st st' := take_ok h (by omega) h0 h1
def B10 : Str := "ab0-*._A ~"
def B7 : Str := "-*.Z _a"
theorem ok_b10 : okS B10 = true := by decide +kernel
theorem b10_len : B10.length = 10 := by decide +kernel
theorem ok_b7 : okS B7 = true := by decide +kernel
theorem b7_len : B7.length = 7 := by decide +kernel
theorem star_len : ("*" : Str).length = 1 := by decide +kernel
theorem sl_str {z : Str} {lo hi : Option Int} {st : Store} (h : okS z = true) : slW (.str z) lo hi st = .ok (.str (cutS z lo hi)) st := by
  show (if z.length ≤ sizeLine then _ else _) = _
  rw [if_pos (okS.line h)]
theorem any_draw {p n : Nat} {st : Store} (h : PotA p n st) (hn : n + 60 ≤ 1000000) :
    ∃ (x : Str) (st' : Store), d__law_any_label [.loc p] st = .ok (.str x) st' ∧ okS x = true ∧ x.length ≤ 50 ∧ PotA p (n + 60) st' ∧ Kp p st st' := by
  have hl := h.lt
  obtain ⟨t1, s1, e1, a1, b1, P1, K1⟩ := take_ok (m := 9) h (by omega) (by decide) (by decide)
  obtain ⟨x, s2, e2, okx, lx, P2, K2⟩ := label_draw P1 (by omega)
  have X2 : Ext p st s2 := K1.ext.trans K2.ext
  have ls := len_str (st := s2) (okS.line okx)
  unfold d__law_any_label
  by_cases h6 : t1 = 6
  · subst h6
    obtain ⟨G1, G2, G3⟩ := gc_pot (v := .str "*") X2 P2 hl rfl
    refine ⟨"*", _, ?_, ok_star, by rw [star_len]; decide, G3.mono (by omega), G2⟩
    rw [fnDen_ap]; unfold b__law_any_label
    simp -implicitDefEqProofs [e1, e2, G1]
  have q6 : (t1 == 6) = false := beq_false_of_ne h6
  by_cases h7 : t1 = 7
  · subst h7
    obtain ⟨t3, s3, e3, a3, b3, P3, K3⟩ := take_ok (m := 23) P2 (by omega) (by decide) (by decide)
    have hr := kR1_ok (st := s3) (j := t3) (Int.le_trans (by decide) a3) (Int.lt_of_lt_of_le b3 (by decide))
    obtain ⟨l, s4, e4, hll, P4, X4, SL4⟩ := kLc_ok (env := [some (.loc p), some (.int 7), some (.str x), some (.str B10), none, none]) (i := 5) (e := dOp ixW (dVar 3) (dCall 2 d__law_take (dCons (dVar 0) (dCons (dC (.int 10)) dNil)))) (st := s3) (ws := intsW 0 t3.toNat)
      (fun i acc S => PotA p (n + 1 + 30 + 1 + i) S ∧ Ext p s3 S ∧ StL 1 acc) (fun i w acc S hw hJ => by
        obtain ⟨hP, hX, hS⟩ := hJ
        have hi : i < t3.toNat := by rw [← ints_len]; exact (List.getElem?_eq_some_iff.mp hw).1
        obtain ⟨t, s', e, a, b, P, Kq⟩ := take_ok (m := 10) hP (by omega) (by decide) (by decide)
        obtain ⟨y, hy, hyl, ey⟩ := sign_of (i := t) ok_b10 a (by rw [b10_len]; exact b)
        refine ⟨.str y, s', ?_, P, hX.trans Kq.ext, hS.app (.one hy hyl)⟩
        simp -implicitDefEqProofs [e, ey]) (by rw [ints_len]; exact line8 (by omega)) ⟨P3, .refl, .nil⟩
    rw [ints_len] at hll
    have P5 := (P4.mono (m := n + 60) (by rw [ints_len]; omega)).app [.lst l]
    obtain ⟨z, ez, okz, lz⟩ := join_StL (st := s4 ++ [.lst l]) (k := s4.length) (b := 1) (ws := l) (by simp) SL4 (by rw [hll]; omega)
    obtain ⟨G1, G2, G3⟩ := gc_pot (v := .str z) (((X2.trans K3.ext).trans X4).trans (.app [.lst l])) P5 hl rfl
    refine ⟨z, _, ?_, okz, by rw [hll] at lz; omega, G3, G2⟩
    rw [fnDen_ap]; unfold b__law_any_label
    rw [show ("ab0-*._A ~" : Str) = B10 from rfl]
    simp -implicitDefEqProofs [e1, e2, e3, hr, wipeW]
    rw [e4]
    simp -implicitDefEqProofs [ez, G1]
  have q7 : (t1 == 7) = false := beq_false_of_ne h7
  by_cases h8 : t1 = 8
  · subst h8
    obtain ⟨t3, s3, e3, a3, b3, P3, K3⟩ := take_ok (m := (x.length : Int) + 1) P2 (by omega) (by omega) (by omega)
    obtain ⟨t4, s4, e4, a4, b4, P4, K4⟩ := take_ok (m := 7) P3 (by omega) (by decide) (by decide)
    obtain ⟨t5, s5, e5, a5, b5, P5, K5⟩ := take_ok (m := 2) P4 (by omega) (by decide) (by decide)
    obtain ⟨y, hy, hyl, ey⟩ := sign_of (i := t4) ok_b7 a4 (by rw [b7_len]; exact b4)
    obtain ⟨c1, c2⟩ := cut_good (lo := none) (hi := some t3) okx
    obtain ⟨d1, d2⟩ := cut_good (lo := some (t3 + t5)) (hi := none) okx
    have w1 := ok_app c1 hy (by omega)
    have w1l := len_add (cutS x none (some t3)) y
    have w2 := ok_app w1 d1 (by omega)
    have w2l := len_add (cutS x none (some t3) ++ y) (cutS x (some (t3 + t5)) none)
    have f1 : ∀ st, addW (.str (cutS x none (some t3))) (.str y) st = .ok (.str (cutS x none (some t3) ++ y)) st := fun st => addW_s (line8 (by omega))
    have f2 : ∀ st, addW (.str (cutS x none (some t3) ++ y)) (.str (cutS x (some (t3 + t5)) none)) st = .ok (.str (cutS x none (some t3) ++ y ++ cutS x (some (t3 + t5)) none)) st := fun st => addW_s (line8 (by omega))
    obtain ⟨G1, G2, G3⟩ := gc_pot (v := .str (cutS x none (some t3) ++ y ++ cutS x (some (t3 + t5)) none)) (((X2.trans K3.ext).trans K4.ext).trans K5.ext) P5 hl rfl
    refine ⟨_, _, ?_, w2, by omega, G3.mono (by omega), G2⟩
    rw [fnDen_ap]; unfold b__law_any_label
    rw [show ("-*.Z _a" : Str) = B7 from rfl]
    simp -implicitDefEqProofs [e1, e2, ls, e3, sl_str okx, e4, ey, f1, e5, f2, G1]
  have q8 : (t1 == 8) = false := beq_false_of_ne h8
  obtain ⟨G1, G2, G3⟩ := gc_pot (v := .str x) X2 P2 hl rfl
  refine ⟨x, _, ?_, okx, by omega, G3.mono (by omega), G2⟩
  rw [fnDen_ap]; unfold b__law_any_label
  simp -implicitDefEqProofs [e1, e2, q6, q7, q8, G1]
theorem rep_StL {b : Nat} {l : List W} (h : StL b l) : ∀ k, StL b (List.replicate k l).flatten
  | 0 => fun _ m => by simp at m
  | k + 1 => by
    rw [List.replicate_succ, List.flatten_cons]
    exact h.app (rep_StL h k)
theorem mulW_l {m : Nat} {k : Int} {xs : List W} {st : Store} (h : st[m]? = some (.lst xs)) (h0 : 0 ≤ k) (h1 : k ≤ 10) (hl : xs.length ≤ 100) : mulW (.loc m) (.int k) st = .ok (.loc st.length) (st ++ [.lst (List.replicate k.toNat xs).flatten]) := by
  show (match st[m]? with | some (.lst xs) => _ | _ => _) = _
  rw [h]
  refine if_pos ⟨Int.le_trans (by decide) h0, Int.lt_of_le_of_lt h1 (by decide), ?_⟩
  have h2 : k.toNat ≤ 10 := by omega
  exact line8 (Nat.le_trans (Nat.mul_le_mul hl h2) (by decide))
theorem addW_l {m k : Nat} {xs ys : List W} {st : Store} (h : st[m]? = some (.lst xs)) (h' : st[k]? = some (.lst ys)) (hl : xs.length + ys.length ≤ 8192) : addW (.loc m) (.loc k) st = .ok (.loc st.length) (st ++ [.lst (xs ++ ys)]) := by
  show (match lst2 st m k with | some (xs, ys) => _ | none => _) = _
  unfold lst2; rw [h, h']
  exact if_pos (line8 hl)
theorem rep_len (k : Nat) (l : List W) : (List.replicate k l).flatten.length = k * l.length := by simp
theorem some_draw {p n : Nat} {st : Store} (h : PotA p n st) (hn : n + 900 ≤ 1000000) :
    ∃ (ws : List W) (st' : Store), d__law_some_labels [.loc p] st = .ok (.loc st.length) (st' ++ [.lst ws]) ∧ StL 50 ws ∧ ws.length ≤ 20 ∧ PotA p (n + 900) st' ∧ Kp p st st' := by
  have hl := h.lt
  obtain ⟨t1, s1, e1, a1, b1, P1, K1⟩ := take_ok (m := 4) h (by omega) (by decide) (by decide)
  have lst1 : kLst [.int t1, .int 12] s1 = .ok (.loc s1.length) (s1 ++ [.lst [.int t1, .int 12]]) := lst5 (by simp)
  obtain ⟨t2, s2, e2, a2, b2, P2, K2⟩ := take_ok (m := 8) (P1.app [.lst [.int t1, .int 12]]) (by omega) (by decide) (by decide)
  have hp1 : s1.length ≠ p := by have := P1.lt; omega
  have g2 : s2[s1.length]? = some (.lst [.int t1, .int 12]) := by rw [K2.keep _ hp1]; simp
  obtain ⟨j, hj, j0, j1⟩ : ∃ j : Int, (if (t2 == 7) = true then (1 : Int) else 0) = j ∧ 0 ≤ j ∧ j < 2 := by
    by_cases z : (t2 == 7) = true
    · exact ⟨1, if_pos z, by decide, by decide⟩
    · exact ⟨0, if_neg z, by decide, by decide⟩
  have hio : intOfW [.bl (t2 == 7)] s2 = .ok (.int j) s2 := by rw [intOf_b, hj]
  obtain ⟨w, wm, _, e3⟩ := ix_mem (st := s2) (a := .loc s1.length) (ws := [.int t1, .int 12]) (i := j) (by simp [seqW, g2]) j0 j1
  obtain ⟨k, rfl, k1, k2⟩ : ∃ k : Int, w = .int k ∧ 0 ≤ k ∧ k ≤ 12 := by
    simp only [List.mem_cons, List.not_mem_nil, or_false] at wm
    rcases wm with rfl | rfl
    · exact ⟨t1, rfl, by omega, by omega⟩
    · exact ⟨12, rfl, by decide, by decide⟩
  have X2 : Ext p st s2 := (K1.ext.trans (.app [.lst [.int t1, .int 12]])).trans K2.ext
  obtain ⟨t3, s3, e4, a3, b3, P3, K3⟩ := take_ok (m := 2) P2 (by omega) (by decide) (by decide)
  have X3 : Ext p st s3 := X2.trans K3.ext
  unfold d__law_some_labels
  by_cases h0 : t3 = 0
  · subst h0
    have lst2' : kLst [.str "*"] s3 = .ok (.loc s3.length) (s3 ++ [.lst [.str "*"]]) := lst5 (by simp)
    obtain ⟨t4, s4, e5, a4, b4, P4, K4⟩ := take_ok (m := 2) (P3.app [.lst [.str "*"]]) (by omega) (by decide) (by decide)
    have hp3 : s3.length ≠ p := by have := P3.lt; omega
    have g4 : s4[s3.length]? = some (.lst [.str "*"]) := by rw [K4.keep _ hp3]; simp
    have m4 := mulW_l g4 a4 (by omega : t4 ≤ 10) (by simp)
    obtain ⟨R, hR⟩ : ∃ R, R = (List.replicate t4.toNat [W.str "*"]).flatten := ⟨_, rfl⟩
    rw [← hR] at m4
    have hRl : R.length ≤ 2 := by rw [hR, rep_len]; simp; omega
    have hRs : StL 50 R := by rw [hR]; exact rep_StL (.one ok_star (by rw [star_len]; decide)) _
    obtain ⟨q, hq, q0, q1⟩ : ∃ q : Int, (if (11 : Int) < k then (11 : Int) else k) = q ∧ 0 ≤ q ∧ q ≤ 12 := by
      by_cases z : (11 : Int) < k
      · exact ⟨11, if_pos z, by decide, by decide⟩
      · exact ⟨k, if_neg z, k1, k2⟩
    have hmin : ∀ st, minW [.int k, .int 11] st = .ok (.int q) st := fun st => by rw [minW_i, hq]
    have P4' := P4.app [.lst R]
    have hr := kR1_ok (st := s4 ++ [.lst R]) (j := q) (Int.le_trans (by decide) q0) (Int.lt_of_le_of_lt q1 (by decide))
    obtain ⟨l, s5, e6, hll, P5, X5, SL5⟩ := kLc_ok (env := [some (.loc p), some (.int k), none]) (i := 2) (e := dCall 1 d__law_label (dCons (dVar 0) dNil)) (st := s4 ++ [.lst R]) (ws := intsW 0 q.toNat)
      (fun i acc S => PotA p (n + 5 + 30 * i) S ∧ Ext p (s4 ++ [.lst R]) S ∧ StL 50 acc) (fun i w acc S hw hJ => by
        obtain ⟨hP, hX, hS⟩ := hJ
        have hi : i < q.toNat := by rw [← ints_len]; exact (List.getElem?_eq_some_iff.mp hw).1
        obtain ⟨x, s', e, okx, lx, P, Kq⟩ := label_draw hP (by omega)
        refine ⟨.str x, s', ?_, P.mono (by omega), hX.trans Kq.ext, hS.app (.one okx (by omega))⟩
        simp -implicitDefEqProofs [e]) (by rw [ints_len]; exact line8 (by omega)) ⟨P4'.mono (by omega), .refl, .nil⟩
    rw [ints_len] at hll
    have gR : (s5 ++ [Ob.lst l])[s4.length]? = some (.lst R) := get_app _ (X5.get (by simp) (by have := P4.lt; omega))
    have gL : (s5 ++ [Ob.lst l])[s5.length]? = some (.lst l) := by simp
    have ad := addW_l gR gL (by omega)
    have X6 : Ext p st (s5 ++ [Ob.lst l] ++ [Ob.lst (R ++ l)]) := (((((X3.trans (.app [.lst [.str "*"]])).trans K4.ext).trans (.app [.lst R])).trans X5).trans (.app _)).trans (.app _)
    have P6 := ((P5.mono (m := n + 900) (by rw [ints_len]; omega)).app [.lst l]).app [.lst (R ++ l)]
    have SL6 : StL 50 (R ++ l) := hRs.app SL5
    obtain ⟨G1, G2, G3⟩ := gc_potL (m := (s5 ++ [Ob.lst l]).length) (ws := R ++ l) X6 P6 hl (by
      have h1 := X3.le; have h2 := X5.le; have h3 := K4.len
      simp at h2 h3 ⊢; omega) (by simp) SL6.cl
    refine ⟨R ++ l, _, ?_, SL6, by simp; omega, G3, G2⟩
    rw [fnDen_ap]; unfold b__law_some_labels
    simp -implicitDefEqProofs [e1, lst1, e2, hio, e3, e4, lst2', e5]
    rw [m4]
    simp -implicitDefEqProofs only [Res.bind_ok, kOp1_ap, dLc_ap, dRange1_ap, dCons_ap, dApp_ap, dVar_ap, List.getElem?_cons_zero, List.getElem?_cons_succ, kCons1_ap, dC_ap, dNil_ap, kCons2_ap, hmin, hr, wipeW, List.set_cons_succ, List.set_cons_zero]
    rw [e6]
    simp -implicitDefEqProofs only [Res.bind_ok, ad, Res.then_ok, kRet_ap, RsS.next_rt, fnR_rt, G1]
    simp
  · have q0 : (t3 == 0) = false := beq_false_of_ne h0
    have hr := kR1_ok (st := s3) (j := k) (Int.le_trans (by decide) k1) (Int.lt_of_le_of_lt k2 (by decide))
    obtain ⟨l, s5, e6, hll, P5, X5, SL5⟩ := kLc_ok (env := [some (.loc p), some (.int k), none]) (i := 2) (e := dCall 1 d__law_any_label (dCons (dVar 0) dNil)) (st := s3) (ws := intsW 0 k.toNat)
      (fun i acc S => PotA p (n + 5 + 60 * i) S ∧ Ext p s3 S ∧ StL 50 acc) (fun i w acc S hw hJ => by
        obtain ⟨hP, hX, hS⟩ := hJ
        have hi : i < k.toNat := by rw [← ints_len]; exact (List.getElem?_eq_some_iff.mp hw).1
        obtain ⟨x, s', e, okx, lx, P, Kq⟩ := any_draw hP (by omega)
        refine ⟨.str x, s', ?_, P.mono (by omega), hX.trans Kq.ext, hS.app (.one okx lx)⟩
        simp -implicitDefEqProofs [e]) (by rw [ints_len]; exact line8 (by omega)) ⟨P3.mono (by omega), .refl, .nil⟩
    rw [ints_len] at hll
    obtain ⟨G1, G2, G3⟩ := gc_potL (m := s5.length) (ws := l) ((X3.trans X5).trans (.app [.lst l])) ((P5.mono (m := n + 900) (by rw [ints_len]; omega)).app [.lst l]) hl (by have h1 := X3.le; have h2 := X5.le; omega) (by simp) SL5.cl
    refine ⟨l, _, ?_, SL5, by omega, G3, G2⟩
    rw [fnDen_ap]; unfold b__law_some_labels
    simp -implicitDefEqProofs [e1, lst1, e2, hio, e3, e4, q0, hr, wipeW]
    rw [e6]
    simp -implicitDefEqProofs [G1]
end
end K01
namespace K01
open PySem PySem.Spec PyProof.Rows L2 MP
open Classical
noncomputable section
theorem ten {l : List W} {st : Store} (h : l.length ≤ 8192) : kTup l st = .ok (.tup l) st := kTup_ok (line8 h)
theorem a21 {st : Store} : mulW (.str "a") (.int 21) st = .ok (.str (repS "a" 21)) st := by
  refine if_pos (?_ : CRepS "a" 21)
  exact ⟨by decide, by decide, by decide +kernel, by decide +kernel, by decide +kernel⟩
theorem ok_a21 : okS (repS "a" 21) = true := by decide +kernel
theorem pu_one {a : W} (h : pu a) : ∀ w ∈ [a], pu w := fun w hw => by
  rw [List.mem_singleton.mp hw]; exact h
/-- what is drawn: a value without a store, or a new list -/
structure Odd (p n : Nat) (st : Store) (r : Res W) : Prop where
  ex : ∃ (w u : W) (st' g : Store), r = .ok w (st' ++ g) ∧ Pic (st' ++ g) w u ∧ nameB u = false ∧ PotA p n st' ∧ Kp p st st' ∧ ((g = [] ∧ pu w) ∨ ∃ ws, g = [.lst ws] ∧ w = .loc st.length ∧ u = .fro ws)
theorem odd_draw {p n : Nat} {st : Store} (h : PotA p n st) (hn : n + 1 ≤ 1000000) : Odd p (n + 1) st (d__law_odd [.loc p] st) := by
  have hl := h.lt
  obtain ⟨L14, h14⟩ : ∃ L, L = [W.non, .bl true, .int 7, .int (-1), .str "", .str "a", .loc st.length, .loc (st.length + 1), .tup [.str "a", .int 5], .tup [.str "a", .str "*"], .tup [.tup [.str "a"]], .tup [.str ""], .tup [.str "*", .str "*"], .str "a."] := ⟨_, rfl⟩
  obtain ⟨L9, h9⟩ : ∃ L, L = [W.tup [.str "a-"], .tup [.str "-"], .tup [.str "A"], .tup [.str "a b"], .tup [.str "a", .non], .loc (st.length + 3), .tup [.str (repS "a" 21)], .tup [.str "a", .str "", .str "b"], .tup [.str "**"]] := ⟨_, rfl⟩
  obtain ⟨S, hS⟩ : ∃ S, S = st ++ [.lst [.str "a"], .lst [], .lst L14, .lst [.tup [.str "a"]], .lst L9, .lst (L14 ++ L9)] := ⟨_, rfl⟩
  have hle : st.length + 6 = S.length := by rw [hS]; simp
  have PS : PotA p n S := by rw [hS]; exact h.app _
  obtain ⟨t, s1, e, a, b, P, K⟩ := take_ok (m := 23) PS (by omega) (by decide) (by decide)
  have get : ∀ i : Nat, p ≠ st.length + i → s1[st.length + i]? = S[st.length + i]? := fun i hi => K.keep _ (Ne.symm hi)
  have X : Ext p st s1 := ⟨by rw [K.len, ← hle]; omega, fun i hi hp => by rw [K.keep _ hp, hS, List.getElem?_append_left hi]⟩
  have gF : s1[st.length + 5]? = some (.lst (L14 ++ L9)) := by rw [get 5 (by omega), hS]; simp
  have g0 : s1[st.length]? = some (.lst [.str "a"]) := by have := get 0 (by omega); rw [Nat.add_zero] at this; rw [this, hS]; simp
  have g1 : s1[st.length + 1]? = some (.lst []) := by rw [get 1 (by omega), hS]; simp
  have g3 : s1[st.length + 3]? = some (.lst [.tup [.str "a"]]) := by rw [get 3 (by omega), hS]; simp
  obtain ⟨w, wm, _, e3⟩ := ix_mem (st := s1) (a := .loc (st.length + 5)) (ws := L14 ++ L9) (i := t) (by simp [seqW, gF]) a (by rw [h14, h9]; simpa using b)
  have run : ∀ v st', gc st w s1 = .ok v st' → d__law_odd [.loc p] st = .ok v st' := fun v st' hg => by
    unfold d__law_odd; rw [fnDen_ap]; unfold b__law_odd
    have k1 : ∀ (l : List W) (st : Store), l.length ≤ 50 → kLst l st = .ok (.loc st.length) (st ++ [.lst l]) := fun l st h => lst5 h
    have k2 : ∀ (l : List W) (st : Store), l.length ≤ 50 → kTup l st = .ok (.tup l) st := fun l st h => ten (by omega)
    have c1 := k1 [.str "a"] st (by simp)
    have c2 := k1 [] (st ++ [.lst [.str "a"]]) (by simp)
    have c3 := k1 L14 (st ++ [.lst [.str "a"], .lst []]) (by rw [h14]; simp)
    have c4 := k1 [.tup [.str "a"]] (st ++ [.lst [.str "a"], .lst [], .lst L14]) (by simp)
    have c5 := k1 L9 (st ++ [.lst [.str "a"], .lst [], .lst L14, .lst [.tup [.str "a"]]]) (by rw [h9]; simp)
    have gA : (st ++ [Ob.lst [W.str "a"], .lst [], .lst L14, .lst [.tup [.str "a"]], .lst L9])[st.length + 2]? = some (.lst L14) := by simp
    have gB : (st ++ [Ob.lst [W.str "a"], .lst [], .lst L14, .lst [.tup [.str "a"]], .lst L9])[st.length + 4]? = some (.lst L9) := by simp
    have ad := addW_l gA gB (by rw [h14, h9]; simp)
    have eS : (st ++ [Ob.lst [W.str "a"], .lst [], .lst L14, .lst [.tup [.str "a"]], .lst L9] ++ [.lst (L14 ++ L9)]) = S := by rw [hS]; simp
    have eL : (st ++ [Ob.lst [W.str "a"], .lst [], .lst L14, .lst [.tup [.str "a"]], .lst L9]).length = st.length + 5 := by simp
    rw [eS, eL] at ad
    have gS : S[st.length + 5]? = some (.lst (L14 ++ L9)) := by rw [hS]; simp
    have hlen : lenW [.loc (st.length + 5)] S = .ok (.int 23) S := by
      rw [len_seq (ws := L14 ++ L9) (by simp [seqW, gS]), h14, h9]; rfl
    have c1' := c1
    simp only [List.length_append, List.length_cons, List.length_nil, List.append_assoc, List.cons_append, List.nil_append] at c2 c3 c4 c5
    simp -implicitDefEqProofs only [sSeq_ap, sAsg_ap, dLst_ap, dCons_ap, dC_ap, Res.bind_ok, kCons1_ap, dUn_ap, negW_i, dNil_ap, kCons2_ap, dTup_ap, k2, List.length_cons, List.length_nil, Nat.reduceAdd, Nat.reduceLeDiff, c1, c2]
    rw [← h14, c3]
    simp -implicitDefEqProofs only [Res.then_ok, kAsg_n, List.map_cons, List.map_nil, List.length_cons, List.length_nil, Nat.reduceAdd, Nat.reduceSub, List.replicate_succ, List.replicate_zero, List.cons_append, List.nil_append, List.set_cons_succ, List.set_cons_zero, RsS.next_nx, sSeq_ap, sAsg_ap, dOp_ap, dVar_ap, List.getElem?_cons_zero, List.getElem?_cons_succ, Res.bind_ok, kOp1_ap, dLst_ap, dCons_ap, dTup_ap, dC_ap, kCons1_ap, dNil_ap, kCons2_ap, k2, Nat.reduceLeDiff, c4, a21]
    rw [← h9, c5]
    simp -implicitDefEqProofs only [Res.bind_ok, ad, Res.then_ok, kAsg_n, List.set_cons_succ, List.set_cons_zero, RsS.next_nx, sRet_ap, dOp_ap, dVar_ap, List.getElem?_cons_zero, List.getElem?_cons_succ, kOp1_ap, dCall_ap, dCons_ap, dApp_ap, kCons1_ap, dNil_ap, kCons2_ap, hlen, kCall_2, e, e3, kRet_ap, fnR_rt, hg]
  have pure : pu w → nameB w = false → Odd p (n + 1) st (d__law_odd [.loc p] st) := fun hp hnb => by
    obtain ⟨G1, G2, G3⟩ := gc_pot (v := w) X P hl (cl_pu _ 5 _ hp)
    exact ⟨w, w, _, [], by rw [List.append_nil]; exact run _ _ G1, .pu _ hp, hnb, G3, G2, .inl ⟨rfl, hp⟩⟩
  have list : ∀ (k : Nat) (ws : List W), w = .loc k → st.length ≤ k → s1[k]? = some (.lst ws) → ws.length ≤ 8192 → (∀ w ∈ ws, pu w) → Odd p (n + 1) st (d__law_odd [.loc p] st) := fun k ws hw hk g hl' hp => by
    subst hw
    obtain ⟨G1, G2, G3⟩ := gc_potL X P hl hk g (cls_pu _ 5 _ hp)
    refine ⟨_, .fro ws, _, [.lst ws], run _ _ G1, .ls _ ws ?_ hl' hp, rfl, G3, G2, .inr ⟨ws, rfl, rfl, rfl⟩⟩
    rw [show st.length = (List.take st.length s1).length from G2.len.symm]
    simp
  rw [h14, h9] at wm
  simp only [List.mem_append, List.mem_cons, List.not_mem_nil, or_false] at wm
  rcases wm with (rfl | rfl | rfl | rfl | rfl | rfl | rfl | rfl | rfl | rfl | rfl | rfl | rfl | rfl) | (rfl | rfl | rfl | rfl | rfl | rfl | rfl | rfl | rfl)
  · exact pure (by decide +kernel) (by decide +kernel)
  · exact pure (by decide +kernel) (by decide +kernel)
  · exact pure (by decide +kernel) (by decide +kernel)
  · exact pure (by decide +kernel) (by decide +kernel)
  · exact pure (by decide +kernel) (by decide +kernel)
  · exact pure (by decide +kernel) (by decide +kernel)
  · exact list _ _ rfl (Nat.le_refl _) g0 (by simp) (pu_one (by decide +kernel))
  · exact list _ _ rfl (by omega) g1 (by simp) (fun w hw => nomatch hw)
  · exact pure (by decide +kernel) (by decide +kernel)
  · exact pure (by decide +kernel) (by decide +kernel)
  · exact pure (by decide +kernel) (by decide +kernel)
  · exact pure (by decide +kernel) (by decide +kernel)
  · exact pure (by decide +kernel) (by decide +kernel)
  · exact pure (by decide +kernel) (by decide +kernel)
  · exact pure (by decide +kernel) (by decide +kernel)
  · exact pure (by decide +kernel) (by decide +kernel)
  · exact pure (by decide +kernel) (by decide +kernel)
  · exact pure (by decide +kernel) (by decide +kernel)
  · exact pure (by decide +kernel) (by decide +kernel)
  · exact list _ _ rfl (by omega) g3 (by simp) (pu_one (by decide +kernel))
  · exact pure (by decide +kernel) (by decide +kernel)
  · exact pure (by decide +kernel) (by decide +kernel)
  · exact pure (by decide +kernel) (by decide +kernel)
/-- a pot anew -/
theorem pot_ok {ns : List Int} {i : Int} {st : Store} (hl : ns.length ≤ 63) (h0 : 0 ≤ i) (h1 : i ≤ 63) : ∃ st', d__law_pot [.fro (ns.map W.int), .int i] st = .ok (.loc st.length) st' ∧ PotA st.length 0 st' ∧ st'.length = st.length + 1 := by
  have m0 : mulW (.int 11) (.int i) st = .ok (.int (11 * i)) st := mul_ok (small_mul (by decide) (by decide))
  have hlen : lenW [.fro (ns.map W.int)] st = .ok (.int (ns.length : Int)) st := by rw [len_seq (ws := ns.map W.int) rfl]; simp
  obtain ⟨x, hx⟩ : ∃ x : Int, ∀ (k : EnvW → Store → RsS), (((dBool (dOp ltW (dVar 1) (dApp lenW (dCons (dVar 0) dNil)))) [some (.fro (ns.map W.int)), some (.int i), some (.int (29 + 11 * i)), none, none] st).then [some (.fro (ns.map W.int)), some (.int i), some (.int (29 + 11 * i)), none, none] (kSIf (sAsg (dOp ixW (dVar 0) (dVar 1)) (tName 2)) sNil [some (.fro (ns.map W.int)), some (.int i), some (.int (29 + 11 * i)), none, none])).next k = k [some (.fro (ns.map W.int)), some (.int i), some (.int x), none, none] st := by
    by_cases hi : i < (ns.length : Int)
    · obtain ⟨w, wm, _, e⟩ := ix_mem (st := st) (a := .fro (ns.map W.int)) (ws := ns.map W.int) (i := i) rfl h0 (by simpa using hi)
      obtain ⟨x, _, rfl⟩ := List.mem_map.mp wm
      exact ⟨x, fun k => by simp -implicitDefEqProofs [hlen, hi, e]⟩
    · exact ⟨29 + 11 * i, fun k => by simp -implicitDefEqProofs [hlen, hi]⟩
  have p33 : powW (.int 10) (.int 33) st = .ok (.int (10 ^ (33 : Int).toNat)) st := pow_ok (pow10 33 (by decide) (by decide))
  have p18 : powW (.int 10) (.int 18) st = .ok (.int (10 ^ (18 : Int).toNat)) st := pow_ok (pow10 18 (by decide) (by decide))
  have md : ∀ y, modW (.int y) (.int (10 ^ (33 : Int).toNat + 61)) st = .ok (.int (y % (10 ^ (33 : Int).toNat + 61))) st := fun y => mod_ok (by decide)
  have m1 : ∀ y, mulW (.int y) (.int 131) st = .ok (.int (y * 131)) st := fun y => mul_ok (IntMulOk.of_right (intBits_le_64 (by decide) (by decide)))
  have m2 : ∀ y, mulW (.int y) (.int 977) st = .ok (.int (y * 977)) st := fun y => mul_ok (IntMulOk.of_right (intBits_le_64 (by decide) (by decide)))
  have m3 : mulW (.int 13) (.int i) st = .ok (.int (13 * i)) st := mul_ok (small_mul (by decide) (by decide))
  have hT : (10 : Int) ^ (33 : Int).toNat + 61 ≤ 10 ^ 34 := by decide
  have hT0 : (0 : Int) < 10 ^ (33 : Int).toNat + 61 := by decide
  generalize (10 : Int) ^ (33 : Int).toNat = T at *
  generalize (10 : Int) ^ (18 : Int).toNat = T2 at *
  obtain ⟨env', st', e4, rfl, acc, v, rfl⟩ := forW_ok (chk := (ItW.mk (ns.map W.int) none).Chk) (t := tName 4) (b := sAsg (dOp modW (dApp intOfW (dCons (dOp addW (dOp mulW (dVar 3) (dC (.int 131))) (dVar 4)) dNil)) (dOp addW (dOp powW (dC (.int 10)) (dC (.int 33))) (dC (.int 61)))) (tName 3))
    (fun _ env S => S = st ∧ ∃ (acc : Int) (v : Option W), env = [some (.fro (ns.map W.int)), some (.int i), some (.int x), some (.int acc), v]) (fun _ _ _ _ => by simp) (ns.map W.int) 0 [some (.fro (ns.map W.int)), some (.int i), some (.int x), some (.int 1), none] st
    (fun j w env S hw hI => by
      obtain ⟨rfl, acc, v, rfl⟩ := hI
      obtain ⟨y, _, rfl⟩ := List.mem_map.mp (List.mem_of_getElem? hw)
      refine ⟨_, _, _, _, rfl, ?_, rfl, (acc * 131 + y) % (T + 61), some (.int y), rfl⟩
      simp -implicitDefEqProofs [m1, p33, md]) ⟨rfl, 1, none, rfl⟩
  obtain ⟨mx, hmx⟩ : ∃ q : Int, (if x - T2 > (0 : Int) then x - T2 else 0) = q := ⟨_, rfl⟩
  obtain ⟨ab, hab⟩ : ∃ q : Int, (if x < 0 then -x else x) = q := ⟨_, rfl⟩
  have hmax : maxW [.int 0, .int (x - T2)] st' = .ok (.int mx) st' := by rw [maxW_i, hmx]
  have habs : absW [.int x] st' = .ok (.int ab) st' := by rw [absW_i, hab]
  obtain ⟨c, hc⟩ : ∃ c : Int, c = (acc * 977 + ab + 13 * i) % (T + 61) := ⟨_, rfl⟩
  have c0 : 0 ≤ c := by rw [hc]; exact Int.emod_nonneg _ (by omega)
  have c1 : c < T + 61 := by rw [hc]; exact Int.emod_lt_of_pos _ hT0
  have kl : kLst [.int mx, .int c, .int 0] st' = .ok (.loc st'.length) (st' ++ [.lst [.int mx, .int c, .int 0]]) := lst5 (by simp)
  have hg : gc st' (.loc st'.length) (st' ++ [.lst [.int mx, .int c, .int 0]]) = .ok (.loc st'.length) (st' ++ [.lst [.int mx, .int c, .int 0]]) := gc_newA (Nat.le_refl _) (by simp) rfl
  refine ⟨st' ++ [.lst [.int mx, .int c, .int 0]], ?_, ⟨mx, c, 0, by simp, c0, Int.lt_of_lt_of_le c1 hT, by decide, by decide⟩, by simp⟩
  unfold d__law_pot; rw [fnDen_ap]; unfold b__law_pot
  simp -implicitDefEqProofs only [sSeq_ap, sAsg_ap, dOp_ap, dC_ap, Res.bind_ok, kOp1_ap, dVar_ap, List.map_cons, List.map_nil, List.length_cons, List.length_nil, Nat.reduceAdd, Nat.reduceSub, List.replicate_succ, List.replicate_zero, List.cons_append, List.nil_append, List.getElem?_cons_zero, List.getElem?_cons_succ, m0, addW_i, Res.then_ok, kAsg_n, List.set_cons_succ, List.set_cons_zero, RsS.next_nx, sIf_ap]
  have hx' := hx
  simp -implicitDefEqProofs only [dBool_ap, dOp_ap, dVar_ap, List.getElem?_cons_zero, List.getElem?_cons_succ, Res.bind_ok, kOp1_ap, dApp_ap, dCons_ap, kCons1_ap, dNil_ap, kCons2_ap] at hx' ⊢
  rw [hx']
  simp -implicitDefEqProofs only [sSeq_ap, sAsg_ap, dC_ap, Res.then_ok, kAsg_n, List.set_cons_succ, List.set_cons_zero, RsS.next_nx, sFor_ap, dIt_ap, dVar_ap, List.getElem?_cons_zero, List.getElem?_cons_succ, Res.bind_ok, itOf_fro, kFor]
  rw [e4]
  simp -implicitDefEqProofs only [RsS.next_nx, sRet_ap, dLst_ap, dCons_ap, dApp_ap, dC_ap, Res.bind_ok, kCons1_ap, dOp_ap, dVar_ap, List.getElem?_cons_zero, List.getElem?_cons_succ, kOp1_ap, p18, subW_i, dNil_ap, kCons2_ap, hmax, m2, habs, addW_i, m3, intOf_i, p33, md, ← hc, kl, Res.then_ok, kRet_ap, fnR_rt, hg]
end
end K01
namespace K01
open PySem PySem.Spec PyProof.Rows L2 MP
open Classical
noncomputable section
/-! the loops' suites, a step each -/
def lS1 : DS := (sAsg (dCall 1 d__law_any_label (dCons (dVar 0) dNil)) (tName 2))
def lS2 : DS := (sIf (dBool (dOp eqW (dCall 2 d__law_take (dCons (dVar 0) (dCons (dC (.int 5)) dNil))) (dC (.int 4)))) (sAsg (dCall 1 d__law_odd (dCons (dVar 0) dNil)) (tName 2)) sNil)
def lS3 : DS := (sIf (dNot (dBool (dCall 2 (d__law_same 8) (dCons (dCall 1 d_is_label (dCons (dVar 2) dNil)) (dCons (dCall 1 d__law_is_label (dCons (dVar 2) dNil)) dNil))))) (sRet (dC (.bl false))) sNil)
def lS4 : DS := (sIf (dNot (dBool (dCall 2 (d__law_same 8) (dCons (dCall 1 d_is_label (dCons (dVar 2) dNil)) (dCons (dCall 1 d__law_is_label (dCons (dVar 2) dNil)) dNil))))) (sRet (dC (.bl false))) sNil)
def lB : DS := (sSeq lS1 (sSeq lS2 (sSeq lS3 lS4)))
theorem l_eq : b__law_labels_right = sSeq (sFor (dRange1 (dCons (dC (.int 5)) dNil)) (tName 1) lB) (sRet (dC (.bl true))) := rfl
def mS1 : DS := (sAsg (dCall 1 d__law_some_labels (dCons (dVar 0) dNil)) (tName 2))
def mS2 : DS := (sAsg (dApp tupleW (dCons (dVar 2) dNil)) (tName 3))
def mS3 : DS := (sIf (dBool (dOp eqW (dCall 2 d__law_take (dCons (dVar 0) (dCons (dC (.int 5)) dNil))) (dC (.int 4)))) (sAsg (dOp ixW (dLst (dCons (dApp listW (dCons (dVar 2) dNil)) (dCons (dCall 1 d__law_odd (dCons (dVar 0) dNil)) dNil))) (dCall 2 d__law_take (dCons (dVar 0) (dCons (dC (.int 2)) dNil)))) (tName 3)) sNil)
def mS4 : DS := (sAsg (dCall 1 d__law_is_name (dCons (dVar 3) dNil)) (tName 4))
def mS5 : DS := (sIf (dNot (dBool (dCall 2 (d__law_same 8) (dCons (dCall 1 d_is_name (dCons (dVar 3) dNil)) (dCons (dVar 4) dNil))))) (sRet (dC (.bl false))) sNil)
def mS6 : DS := (sIf (dNot (dBool (dCall 2 (d__law_same 8) (dCons (dCall 1 d_is_asked (dCons (dVar 3) dNil)) (dCons (dAndV (dVar 4) (dOp neW (dSl (dVar 3) dNoPart (dPart (dC (.int 1)))) (dTup (dCons (dC (.str "*")) dNil)))) dNil))))) (sRet (dC (.bl false))) sNil)
def mS7 : DS := (sIf (dBool (dOp neW (dLst (dCons (dCall 1 d_is_name (dCons (dVar 3) dNil)) (dCons (dCall 1 d_is_asked (dCons (dVar 3) dNil)) dNil))) (dLst (dCons (dVar 4) (dCons (dAndV (dVar 4) (dOp neW (dSl (dVar 3) dNoPart (dPart (dC (.int 1)))) (dTup (dCons (dC (.str "*")) dNil)))) dNil))))) (sRet (dC (.bl false))) sNil)
def mS8 : DS := (sAsg (dTup (dCons (dC (.str "refused")) (dCons (dVar 3) dNil))) (tName 5))
def mS9 : DS := (sIf (dBool (dVar 4)) (sSeq (sAsg (dTup (dCons (dC (.str "text")) (dCons (dBm tyS joinW (dC (.str "")) (dCons (dLc (dIt (dVar 2)) [6] (tName 6) dYes (dOp addW (dVar 6) (dC (.str ".")))) dNil)) dNil))) (tName 5)) (sIf (dBool (dOp eqW (dVar 2) (dLst dNil))) (sAsg (dTup (dCons (dC (.str "text")) (dCons (dC (.str ".")) dNil))) (tName 5)) sNil)) sNil)
def mS10 : DS := (sIf (dAnd (dBool (dUn (isi2W "tuple" "list") (dVar 3))) (dNot (dBool (dCall 2 (d__law_same 8) (dCons (dCall 1 d__law_shown (dCons (dVar 3) dNil)) (dCons (dVar 5) dNil)))))) (sRet (dC (.bl false))) sNil)
def mS11 : DS := (sIf (dBool (dOp neW (dCall 1 d__law_shown (dCons (dVar 3) dNil)) (dVar 5))) (sRet (dC (.bl false))) sNil)
def mS12 : DS := (sIf (dAnd (dNot (dBool (dVar 4))) (dAnd (dBool (dApp isiW (dCons (dVar 3) (dCons (dC (.gl (.ty "list"))) dNil)))) (dNot (dBool (dCall 2 d__law_kept_apart (dCons (dVar 3) (dCons (dVar 5) dNil))))))) (sRet (dC (.bl false))) sNil)
def mS13 : DS := (sIf (dAnd (dBool (dVar 4)) (dOr (dNot (dBool (dCall 2 (d__law_same 8) (dCons (dCall 1 d_name_of (dCons (dOp ixW (dVar 5) (dC (.int 1))) dNil)) (dCons (dVar 3) dNil))))) (dBool (dOp neW (dCall 1 d_show_name (dCons (dVar 3) dNil)) (dOp ixW (dVar 5) (dC (.int 1))))))) (sRet (dC (.bl false))) sNil)
def mS14 : DS := (sIf (dAnd (dBool (dVar 4)) (dNot (dBool (dCall 2 (d__law_same 8) (dCons (dCall 1 d_name_of (dCons (dOp ixW (dVar 5) (dC (.int 1))) dNil)) (dCons (dVar 3) dNil)))))) (sRet (dC (.bl false))) sNil)
def mB : DS := (sSeq mS1 (sSeq mS2 (sSeq mS3 (sSeq mS4 (sSeq mS5 (sSeq mS6 (sSeq mS7 (sSeq mS8 (sSeq mS9 (sSeq mS10 (sSeq mS11 (sSeq mS12 (sSeq mS13 mS14)))))))))))))
theorem m_eq : b__law_names_right = sSeq (sFor (dRange1 (dCons (dC (.int 5)) dNil)) (tName 1) mB) (sRet (dC (.bl true))) := rfl
def tS1 : DS := (sAsg (dBm tyS joinW (dC (.str "")) (dCons (dLc (dIt (dSl (dCall 1 d__law_some_labels (dCons (dVar 0) dNil)) dNoPart (dPart (dC (.int 11))))) [7] (tName 7) dYes (dOp addW (dVar 7) (dC (.str ".")))) dNil)) (tName 2))
def tS2 : DS := (sAsg (dCall 2 d__law_take (dCons (dVar 0) (dCons (dC (.int 6)) dNil))) (tName 3))
def tS3 : DS := (sAsg (dCall 2 d__law_take (dCons (dVar 0) (dCons (dOp addW (dApp lenW (dCons (dVar 2) dNil)) (dC (.int 1))) dNil))) (tName 4))
def tS4 : DS := (sIf (dBool (dOp eqW (dVar 3) (dC (.int 3)))) (sAsg (dOp addW (dOp addW (dSl (dVar 2) dNoPart (dPart (dVar 4))) (dC (.str "."))) (dSl (dVar 2) (dPart (dVar 4)) dNoPart)) (tName 2)) sNil)
def tS5 : DS := (sIf (dBool (dOp eqW (dVar 3) (dC (.int 4)))) (sAsg (dOp addW (dSl (dVar 2) dNoPart (dPart (dVar 4))) (dSl (dVar 2) (dPart (dOp addW (dVar 4) (dC (.int 1)))) dNoPart)) (tName 2)) sNil)
def tS6 : DS := (sIf (dBool (dOp eqW (dVar 3) (dC (.int 5)))) (sSeq (sAsg (dLst (dCons (dC (.str "")) (dCons (dC (.str ".")) (dCons (dC (.str "..")) (dCons (dC (.str "*.")) (dCons (dC (.str "*")) (dCons (dC (.str "a")) (dCons (dC (.str ".a.")) (dCons (dC (.str "a..")) (dCons (dC (.str "*.*.")) (dCons (dC (.str "a.*.")) (dCons (dC (.str " .")) (dCons (dC (.str "a.\n")) (dCons (dC (.str "\n")) (dCons (dC (.str "-.")) dNil))))))))))))))) (tName 6)) (sAsg (dOp ixW (dVar 6) (dCall 2 d__law_take (dCons (dVar 0) (dCons (dC (.int 14)) dNil)))) (tName 2))) sNil)
def tS7 : DS := (sAsg (dCall 1 d__law_read (dCons (dVar 2) dNil)) (tName 5))
def tS8 : DS := (sIf (dBool (dOp eqW (dVar 5) (dLst dNil))) (sIf (dOr (dBool (dOp neW (dCall 1 d__law_told (dCons (dVar 2) dNil)) (dTup (dCons (dC (.str "refused")) (dCons (dVar 2) dNil))))) (dNot (dBool (dCall 1 d__law_is_base (dCons (dVar 2) dNil))))) (sRet (dC (.bl false))) sNil) (sIf (dOr (dNot (dBool (dCall 2 (d__law_same 8) (dCons (dCall 1 d__law_told (dCons (dVar 2) dNil)) (dCons (dTup (dCons (dC (.str "name")) (dCons (dOp ixW (dVar 5) (dC (.int 0))) dNil))) dNil))))) (dBool (dOp neW (dCall 1 d_show_name (dCons (dOp ixW (dVar 5) (dC (.int 0))) dNil)) (dVar 2)))) (sRet (dC (.bl false))) sNil))
def tB : DS := (sSeq tS1 (sSeq tS2 (sSeq tS3 (sSeq tS4 (sSeq tS5 (sSeq tS6 (sSeq tS7 tS8)))))))
theorem t_eq : b__law_texts_right = sSeq (sFor (dRange1 (dCons (dC (.int 6)) dNil)) (tName 1) tB) (sRet (dC (.bl true))) := rfl

theorem same8 {b : Bool} {S : Store} : d__law_same 8 [.bl b, .bl b] S = .ok (.bl true) S := by
  have := same_bl (n := 7) (a := b) (b := b) (st := S)
  rw [this]; simp
theorem gc_pot_b {p n : Nat} {st st' : Store} {b : Bool} (h : Ext p st st') (hp : PotA p n st') (hl : p < st.length) : gc st (.bl b) st' = .ok (.bl b) (st'.take st.length) := (gc_pot h hp hl rfl).1
theorem labels_ok {p n : Nat} {st : Store} (h : PotA p n st) (hn : n + 1000 ≤ 1000000) : ∃ st', d__law_labels_right [.loc p] st = .ok (.bl true) st' ∧ PotA p (n + 1000) st' ∧ Kp p st st' := by
  have hl := h.lt
  have hr := kR1_ok (st := st) (j := 5) (by decide) (by decide)
  obtain ⟨env', S', e, ⟨a, b, rfl⟩, P, X⟩ := forW_ok (chk := (ItW.mk (intsW 0 (5 : Int).toNat) none).Chk) (t := tName 1) (b := lB)
    (fun i env S => (∃ a b, env = [some (.loc p), a, b]) ∧ PotA p (n + 100 * i) S ∧ Ext p st S) (fun _ _ _ _ => by simp) (intsW 0 (5 : Int).toNat) 0 [some (.loc p), none, none] st
    (fun j w env S hw hI => by
      obtain ⟨⟨a, b, rfl⟩, P, X⟩ := hI
      have hj : j < 5 := by have := (List.getElem?_eq_some_iff.mp hw).1; rw [ints_len] at this; exact this
      rw [Nat.zero_add] at P ⊢
      obtain ⟨x, s1, e1, okx, lx, P1, K1⟩ := any_draw P (by omega)
      obtain ⟨t, s2, e2, a2, b2, P2, K2⟩ := take_ok (m := 5) P1 (by omega) (by decide) (by decide)
      have c1 : lS1 [some (.loc p), some w, b] S = .go .nx [some (.loc p), some w, some (.str x)] s1 := by
        unfold lS1; simp -implicitDefEqProofs [e1]
      have chk : ∀ (v u : W) (S : Store), Pic S v u → lS3 [some (.loc p), some w, some v] S = .go .nx [some (.loc p), some w, some v] S ∧ lS4 [some (.loc p), some w, some v] S = .go .nx [some (.loc p), some w, some v] S := fun v u S hP => by
        unfold lS3 lS4
        constructor <;> simp -implicitDefEqProofs [label_ok hP, law_label_ok hP, same8]
      by_cases h4 : t = 4
      · subst h4
        obtain ⟨v, u, s3, g, e3, hP, _, P3, K3, _⟩ := (odd_draw P2 (by omega)).ex
        have c2 : lS2 [some (.loc p), some w, some (.str x)] s1 = .go .nx [some (.loc p), some w, some v] (s3 ++ g) := by
          unfold lS2; simp -implicitDefEqProofs [e2, e3]
        obtain ⟨c3, c4⟩ := chk v u _ hP
        refine ⟨_, _, _, _, rfl, ?_, ⟨some w, some v, rfl⟩, (P3.mono (by omega)).app g, (((X.trans K1.ext).trans K2.ext).trans K3.ext).trans (.app g)⟩
        unfold lB
        simp -implicitDefEqProofs only [sSeq_ap, List.set_cons_succ, List.set_cons_zero, c1, RsS.next_nx, c2, c3, c4]
      · have q4 : (t == 4) = false := beq_false_of_ne h4
        have c2 : lS2 [some (.loc p), some w, some (.str x)] s1 = .go .nx [some (.loc p), some w, some (.str x)] s2 := by
          unfold lS2; simp -implicitDefEqProofs [e2, q4]
        obtain ⟨c3, c4⟩ := chk (.str x) (.str x) s2 (.pu _ (pu_str okx))
        refine ⟨_, _, _, _, rfl, ?_, ⟨some w, some (.str x), rfl⟩, P2.mono (by omega), (X.trans K1.ext).trans K2.ext⟩
        unfold lB
        simp -implicitDefEqProofs only [sSeq_ap, List.set_cons_succ, List.set_cons_zero, c1, RsS.next_nx, c2, c3, c4]) ⟨⟨none, none, rfl⟩, by simpa using h, .refl⟩
  have P' : PotA p (n + 1000) S' := P.mono (by rw [ints_len]; show n + 100 * (0 + 5) ≤ _; omega)
  obtain ⟨G1, G2, G3⟩ := gc_pot (v := .bl true) X P' hl rfl
  refine ⟨_, ?_, G3, G2⟩
  unfold d__law_labels_right; rw [fnDen_ap, l_eq]
  simp -implicitDefEqProofs only [sSeq_ap, sFor_ap, dRange1_ap, dCons_ap, dC_ap, dNil_ap, Res.bind_ok, kCons1_ap, kCons2_ap, hr, Res.then_ok, kFor, List.map_cons, List.map_nil, List.length_cons, List.length_nil, Nat.reduceAdd, Nat.reduceSub, List.replicate_succ, List.replicate_zero, List.cons_append, List.nil_append]
  rw [e]
  simp -implicitDefEqProofs only [RsS.next_nx, sRet_ap, dC_ap, Res.then_ok, kRet_ap, fnR_rt, G1]
end
end K01
namespace K01
open PySem PySem.Spec PyProof.Rows L2 MP
open Classical
noncomputable section
theorem hdX_eq (ws : List W) : hdX ("*" : Str) ws = hdS ws := by
  cases ws with
  | nil => rfl
  | cons w r => cases w <;> rfl
theorem ask_name {u : W} (h : nameB u = false) : askB u = false := by
  cases u with
  | tup ws =>
    rw [Bool.eq_false_iff]
    intro ha
    have ha' : ws.all plS = true := ha
    have hh : hdS ws = false := by
      cases ws with
      | nil => rfl
      | cons w r =>
        cases w with
        | str x =>
          rw [List.all_cons, Bool.and_eq_true] at ha'
          rw [Bool.eq_false_iff]
          intro hx
          have : x = "*" := beq_iff_eq.mp hx
          subst this
          have h1 := ha'.1
          rw [show plS (.str ("*" : Str)) = plainB ("*" : Str) from rfl, star_plain] at h1
          cases h1
        | _ => rfl
    have h' : (if hdS ws = true then ws.drop 1 else ws).all plS = false := h
    rw [hh, if_neg (by simp), ha'] at h'
    cases h'
  | _ => rfl
theorem ask_good {ws : List W} (h : nameB (.tup ws) = true) : askB (.tup ws) = !hdX ("*" : Str) ws := by
  have h' : (if hdS ws = true then ws.drop 1 else ws).all plS = true := h
  rw [hdX_eq]
  cases hh : hdS ws with
  | false => rw [hh, if_neg (by simp)] at h'; exact h'
  | true =>
    cases ws with
    | nil => cases hh
    | cons w r =>
      cases w with
      | str x =>
        have : x = "*" := beq_iff_eq.mp hh
        subst this
        show (plainB ("*" : Str) && r.all plS) = false
        rw [star_plain]; rfl
      | _ => cases hh
theorem two_bl {a b : Bool} {S : Store} {k : Nat} (h : S[k]? = some (.lst [.bl a, .bl b])) : Pic S (.loc k) (.fro [.bl a, .bl b]) := .ls k _ h (by simp) (fun w hw => by
  simp only [List.mem_cons, List.not_mem_nil, or_false] at hw
  rcases hw with rfl | rfl <;> rfl)
theorem lists_ne {a b : Bool} {S : Store} : neW (.loc S.length) (.loc (S.length + 1)) (S ++ [.lst [.bl a, .bl b], .lst [.bl a, .bl b]]) = .ok (.bl false) (S ++ [.lst [.bl a, .bl b], .lst [.bl a, .bl b]]) := by
  have h1 : Pic (S ++ [.lst [.bl a, .bl b], .lst [.bl a, .bl b]]) (.loc S.length) (.fro [.bl a, .bl b]) := two_bl (by simp)
  have h2 : Pic (S ++ [.lst [.bl a, .bl b], .lst [.bl a, .bl b]]) (.loc (S.length + 1)) (.fro [.bl a, .bl b]) := two_bl (by simp)
  rw [pic_ne h1 h2, h1.refl]; rfl
section
variable {b0 b1 b2 b4 b5 b6 : Option W} {v u : W} {S : Store}
theorem m4_ok (hP : Pic S v u) : mS4 [b0, b1, b2, some v, b4, b5, b6] S = .go .nx [b0, b1, b2, some v, some (.bl (nameB u)), b5, b6] S := by
  unfold mS4; simp -implicitDefEqProofs [law_name_ok hP]
theorem m5_ok (hP : Pic S v u) : mS5 [b0, b1, b2, some v, some (.bl (nameB u)), b5, b6] S = .go .nx [b0, b1, b2, some v, some (.bl (nameB u)), b5, b6] S := by
  unfold mS5; simp -implicitDefEqProofs [name_ok hP, same8]
/-- right and name[:1] != ("*",) -/
theorem q_ok (hP : Pic S v u) : dAndV (dVar 4) (dOp neW (dSl (dVar 3) dNoPart (dPart (dC (.int 1)))) (dTup (dCons (dC (.str "*")) dNil))) [b0, b1, b2, some v, some (.bl (nameB u)), b5, b6] S = .ok (.bl (askB u)) S := by
  cases h : nameB u with
  | false => rw [ask_name h]; simp -implicitDefEqProofs
  | true =>
    obtain ⟨xs, rfl, _⟩ := name_strs h
    obtain ⟨rfl, hp⟩ := name_pu hP
    have hn := nhead_ok (st := S) hp ok_star
    rw [ask_good h]
    generalize xs.map W.str = ws at *
    simp -implicitDefEqProofs [tup_one, hn]
theorem m6_ok (hP : Pic S v u) : mS6 [b0, b1, b2, some v, some (.bl (nameB u)), b5, b6] S = .go .nx [b0, b1, b2, some v, some (.bl (nameB u)), b5, b6] S := by
  have q := q_ok (b0 := b0) (b1 := b1) (b2 := b2) (b5 := b5) (b6 := b6) hP
  unfold mS6
  generalize dAndV (dVar 4) (dOp neW (dSl (dVar 3) dNoPart (dPart (dC (.int 1)))) (dTup (dCons (dC (.str "*")) dNil))) = Q at q ⊢
  simp -implicitDefEqProofs [asked_ok hP, q, same8]
theorem m7_ok (hP : Pic S v u) : ∃ g, mS7 [b0, b1, b2, some v, some (.bl (nameB u)), b5, b6] S = .go .nx [b0, b1, b2, some v, some (.bl (nameB u)), b5, b6] (S ++ g) := by
  have q := q_ok (b0 := b0) (b1 := b1) (b2 := b2) (b5 := b5) (b6 := b6) (hP.app [.lst [.bl (nameB u), .bl (askB u)]])
  have k1 : kLst [.bl (nameB u), .bl (askB u)] S = .ok (.loc S.length) (S ++ [.lst [.bl (nameB u), .bl (askB u)]]) := lst5 (by simp)
  have k2 : kLst [.bl (nameB u), .bl (askB u)] (S ++ [.lst [.bl (nameB u), .bl (askB u)]]) = .ok (.loc (S.length + 1)) (S ++ [.lst [.bl (nameB u), .bl (askB u)], .lst [.bl (nameB u), .bl (askB u)]]) := by
    rw [lst5 (by simp)]; simp
  refine ⟨[.lst [.bl (nameB u), .bl (askB u)], .lst [.bl (nameB u), .bl (askB u)]], ?_⟩
  unfold mS7
  generalize dAndV (dVar 4) (dOp neW (dSl (dVar 3) dNoPart (dPart (dC (.int 1)))) (dTup (dCons (dC (.str "*")) dNil))) = Q at q ⊢
  simp -implicitDefEqProofs [asked_ok hP, name_ok hP, k1, q, k2, lists_ne]
theorem m8_ok {c4 : Option W} : mS8 [b0, b1, b2, some v, c4, b5, b6] S = .go .nx [b0, b1, b2, some v, c4, some (.tup [.str "refused", v]), b6] S := by
  unfold mS8; simp -implicitDefEqProofs [two]
/-! a name -/
theorem m9_good {k : Nat} {xs : List Str} (hk : S[k]? = some (.lst (xs.map W.str))) (hx : ∀ x ∈ xs, okS x = true ∧ x.length ≤ 50) (hl : xs.length ≤ 20) :
    ∃ g c6, mS9 [b0, b1, some (.loc k), some v, some (.bl true), b5, b6] S = .go .nx [b0, b1, some (.loc k), some v, some (.bl true), some (.tup [.str "text", .str (shownS xs)]), c6] (S ++ g) := by
  obtain ⟨k1, k2⟩ := dots_ok (env := [b0, b1, some (.loc k), some v, some (.bl true), b5, none]) (i := 6) (src := some k) (st := S) (xs := xs) (by simp) (by simpa using hk) (fun x h => Nat.le_trans (hx x h).2 (by decide)) (by omega)
  obtain ⟨L, hL⟩ : ∃ L, L = ((xs.map fun x => x ++ dotS).map W.str) := ⟨_, rfl⟩
  rw [← hL] at k1 k2
  have kn : kLst [] (S ++ [.lst L]) = .ok (.loc (S.length + 1)) (S ++ [.lst L, .lst []]) := by rw [lst5 (by simp)]; simp
  have hq : eqW (.loc k) (.loc (S.length + 1)) (S ++ [.lst L, .lst []]) = .ok (.bl xs.isEmpty) (S ++ [.lst L, .lst []]) := by
    have h1 : Pic (S ++ [.lst L, .lst []]) (.loc k) (.fro (xs.map W.str)) := .ls k _ (get_app _ hk) (by simp; omega) (fun w hw => by
      obtain ⟨x, hx', rfl⟩ := List.mem_map.mp hw
      exact pu_str (hx x hx').1)
    have h2 : Pic (S ++ [.lst L, .lst []]) (.loc (S.length + 1)) (.fro []) := .ls _ _ (by simp) (by simp) (fun w hw => nomatch hw)
    rw [pic_eq h1 h2]
    congr 2
    cases xs <;> rfl
  refine ⟨[.lst L, .lst []], b6, ?_⟩
  unfold mS9
  simp -implicitDefEqProofs [itOf_loc hk, wipeW, k1, k2, two, kn, hq]
  unfold shownS dotS
  cases xs.isEmpty <;> simp -implicitDefEqProofs [two]
theorem shown_len {xs : List Str} (hx : ∀ x ∈ xs, okS x = true ∧ x.length ≤ 20) (hl : xs.length ≤ 20) : okS (shownS xs) = true ∧ (shownS xs).length ≤ 420 := by
  unfold shownS
  cases xs.isEmpty with
  | true => exact ⟨(ok_dot : okS dotS = true), (by decide +kernel : dotS.length ≤ 420)⟩
  | false =>
    have := show_len xs fun x h => (hx x h).2
    exact ⟨show_okS (fun x h => (hx x h).1) (by omega), by show (showT xs).length ≤ 420; omega⟩
theorem name_back {xs : List Str} (hn : nameB (.tup (xs.map W.str)) = true) (hx : ∀ x ∈ xs, okS x = true ∧ x.length ≤ 20 ∧ ¬ 46 ∈ x.cps.toList) (hl : xs.length ≤ 20) : d_name_of [.str (shownS xs)] S = .ok (.tup (xs.map W.str)) S := by
  obtain ⟨o, l⟩ := shown_len (fun x h => ⟨(hx x h).1, (hx x h).2.1⟩) hl
  cases hxs : xs with
  | nil => exact read_dot
  | cons x r =>
    have ne : xs ≠ [] := by rw [hxs]; simp
    have e : shownS xs = showT xs := by unfold shownS; rw [hxs]; rfl
    have pe := parts_show ne fun x h => (hx x h).2.2
    have ld := show_last ne
    rw [← hxs]
    rw [e] at o l ⊢
    have hr : readB (showT xs) = true := by unfold readB; rw [ld, pe, hn]; rfl
    have hd : showT xs ≠ "." := fun z => by
      have h2 : parts (showT xs) = [("" : Str)] := by rw [z]; decide +kernel
      rw [pe] at h2
      rw [h2] at hn
      revert hn; decide +kernel
    rw [read_good o (by omega) hd hr, pe]
theorem tail_good {k : Nat} {ws : List W} (hk : S[k]? = some (.lst ws)) (hP : Pic S (.tup ws) (.tup ws)) (hn : nameB (.tup ws) = true) (hl : ws.length ≤ 20) :
    ∃ c4 c5 c6 g, sSeq mS4 (sSeq mS5 (sSeq mS6 (sSeq mS7 (sSeq mS8 (sSeq mS9 (sSeq mS10 (sSeq mS11 (sSeq mS12 (sSeq mS13 mS14))))))))) [b0, b1, some (.loc k), some (.tup ws), b4, b5, b6] S = .go .nx [b0, b1, some (.loc k), some (.tup ws), c4, c5, c6] (S ++ g) := by
  obtain ⟨xs, exs, hx⟩ := name_strs hn
  injection exs with exs
  subst exs
  obtain ⟨_, hp⟩ := name_pu hP
  rw [List.length_map] at hl
  have hok : ∀ x ∈ xs, okS x = true := fun x h => (pu_items hp).2 (.str x) (List.mem_map_of_mem h)
  have h20 : ∀ x ∈ xs, okS x = true ∧ x.length ≤ 20 := fun x h => ⟨hok x h, (hx x h).1⟩
  obtain ⟨o, _⟩ := shown_len h20 hl
  have s4 := m4_ok (b0 := b0) (b1 := b1) (b2 := some (.loc k)) (b4 := b4) (b5 := b5) (b6 := b6) hP
  have s5 := m5_ok (b0 := b0) (b1 := b1) (b2 := some (.loc k)) (b5 := b5) (b6 := b6) hP
  have s6 := m6_ok (b0 := b0) (b1 := b1) (b2 := some (.loc k)) (b5 := b5) (b6 := b6) hP
  obtain ⟨g7, s7⟩ := m7_ok (b0 := b0) (b1 := b1) (b2 := some (.loc k)) (b5 := b5) (b6 := b6) hP
  rw [hn] at s4 s5 s6 s7
  have s8 := m8_ok (b0 := b0) (b1 := b1) (b2 := some (.loc k)) (c4 := some (.bl true)) (v := .tup (xs.map W.str)) (b5 := b5) (b6 := b6) (S := S ++ g7)
  obtain ⟨g9, c6, s9⟩ := m9_good (b0 := b0) (b1 := b1) (v := .tup (xs.map W.str)) (b5 := some (.tup [.str "refused", .tup (xs.map W.str)])) (b6 := b6) (get_app g7 hk) (fun x h => ⟨hok x h, Nat.le_trans (hx x h).1 (by decide)⟩) hl
  obtain ⟨T, hT⟩ : ∃ T, T = S ++ g7 ++ g9 := ⟨_, rfl⟩
  rw [← hT] at s9
  have PT : Pic T (.tup (xs.map W.str)) (.tup (xs.map W.str)) := .pu _ hp
  have sh := shown_good PT rfl hn fun x h => (hx x h).1
  have sn := show_good PT rfl hn fun x h => (hx x h).1
  have pt : pu (.tup [.str "text", .str (shownS xs)]) := by
    show (decide (2 ≤ 8192) && (okS "text" && (okS (shownS xs) && true))) = true
    rw [o, ok_text]; rfl
  have sa := same_pu 5 _ pt (by decide) 8 T (by decide)
  have sb := same_pu 5 _ hp (by decide) 8 T (by decide)
  have ne : neW (.tup [.str "text", .str (shownS xs)]) (.tup [.str "text", .str (shownS xs)]) T = .ok (.bl false) T := by
    rw [pic_ne (.pu _ pt) (.pu _ pt), (Pic.pu (st := T) _ pt).refl]; rfl
  have ns : neW (.str (shownS xs)) (.str (shownS xs)) T = .ok (.bl false) T := by rw [neW_str o o]; simp
  have ix : ixW (.tup [.str "text", .str (shownS xs)]) (.int 1) T = .ok (.str (shownS xs)) T := rfl
  have nb := name_back (S := T) hn (fun x h => ⟨hok x h, hx x h⟩) hl
  have i2 := pic_is2 PT
  have s10 : mS10 [b0, b1, some (.loc k), some (.tup (xs.map W.str)), some (.bl true), some (.tup [.str "text", .str (shownS xs)]), c6] T = .go .nx [b0, b1, some (.loc k), some (.tup (xs.map W.str)), some (.bl true), some (.tup [.str "text", .str (shownS xs)]), c6] T := by
    unfold mS10; generalize xs.map W.str = ws at *; simp -implicitDefEqProofs [i2, isT, isL, sh, sa]
  have s11 : mS11 [b0, b1, some (.loc k), some (.tup (xs.map W.str)), some (.bl true), some (.tup [.str "text", .str (shownS xs)]), c6] T = .go .nx [b0, b1, some (.loc k), some (.tup (xs.map W.str)), some (.bl true), some (.tup [.str "text", .str (shownS xs)]), c6] T := by
    unfold mS11; generalize xs.map W.str = ws at *; simp -implicitDefEqProofs [sh, ne]
  have s12 : mS12 [b0, b1, some (.loc k), some (.tup (xs.map W.str)), some (.bl true), some (.tup [.str "text", .str (shownS xs)]), c6] T = .go .nx [b0, b1, some (.loc k), some (.tup (xs.map W.str)), some (.bl true), some (.tup [.str "text", .str (shownS xs)]), c6] T := by
    unfold mS12; simp -implicitDefEqProofs
  have s13 : mS13 [b0, b1, some (.loc k), some (.tup (xs.map W.str)), some (.bl true), some (.tup [.str "text", .str (shownS xs)]), c6] T = .go .nx [b0, b1, some (.loc k), some (.tup (xs.map W.str)), some (.bl true), some (.tup [.str "text", .str (shownS xs)]), c6] T := by
    unfold mS13; generalize xs.map W.str = ws at *; simp -implicitDefEqProofs [ix, nb, sb, sn, ns]
  have s14 : mS14 [b0, b1, some (.loc k), some (.tup (xs.map W.str)), some (.bl true), some (.tup [.str "text", .str (shownS xs)]), c6] T = .go .nx [b0, b1, some (.loc k), some (.tup (xs.map W.str)), some (.bl true), some (.tup [.str "text", .str (shownS xs)]), c6] T := by
    unfold mS14; generalize xs.map W.str = ws at *; simp -implicitDefEqProofs [ix, nb, sb]
  refine ⟨some (.bl true), some (.tup [.str "text", .str (shownS xs)]), c6, g7 ++ g9, ?_⟩
  rw [← List.append_assoc, ← hT]
  simp -implicitDefEqProofs only [sSeq_ap, s4, s5, s6, s7, s8, s9, s10, s11, s12, s13, s14, RsS.next_nx]
theorem tail_bad (hP : Pic S v u) (hn : nameB u = false) :
    ∃ c4 c5 c6 g, sSeq mS4 (sSeq mS5 (sSeq mS6 (sSeq mS7 (sSeq mS8 (sSeq mS9 (sSeq mS10 (sSeq mS11 (sSeq mS12 (sSeq mS13 mS14))))))))) [b0, b1, b2, some v, b4, b5, b6] S = .go .nx [b0, b1, b2, some v, c4, c5, c6] (S ++ g) := by
  have s4 := m4_ok (b0 := b0) (b1 := b1) (b2 := b2) (b4 := b4) (b5 := b5) (b6 := b6) hP
  have s5 := m5_ok (b0 := b0) (b1 := b1) (b2 := b2) (b5 := b5) (b6 := b6) hP
  have s6 := m6_ok (b0 := b0) (b1 := b1) (b2 := b2) (b5 := b5) (b6 := b6) hP
  obtain ⟨g7, s7⟩ := m7_ok (b0 := b0) (b1 := b1) (b2 := b2) (b5 := b5) (b6 := b6) hP
  rw [hn] at s4 s5 s6 s7
  have s8 := m8_ok (b0 := b0) (b1 := b1) (b2 := b2) (c4 := some (.bl false)) (v := v) (b5 := b5) (b6 := b6) (S := S ++ g7)
  have P7 := hP.app g7
  obtain ⟨T, hT⟩ : ∃ T, T = S ++ g7 := ⟨_, rfl⟩
  rw [← hT] at P7 s7 s8
  have s9 : mS9 [b0, b1, b2, some v, some (.bl false), some (.tup [.str "refused", v]), b6] T = .go .nx [b0, b1, b2, some v, some (.bl false), some (.tup [.str "refused", v]), b6] T := by
    unfold mS9; simp -implicitDefEqProofs
  have s10 : ∃ g, mS10 [b0, b1, b2, some v, some (.bl false), some (.tup [.str "refused", v]), b6] T = .go .nx [b0, b1, b2, some v, some (.bl false), some (.tup [.str "refused", v]), b6] (T ++ g) := by
    have i2 := pic_is2 P7
    cases hi : (isT u || isL u) with
    | false =>
      rw [hi] at i2
      exact ⟨[], by unfold mS10; simp -implicitDefEqProofs [i2]⟩
    | true =>
      rw [hi] at i2
      obtain ⟨w', g, e, hw, _⟩ := shown_bad P7 hn
      have sp := same_pair (m := 8) ok_refused hw (P7.app g) (by decide)
      exact ⟨g, by unfold mS10; simp -implicitDefEqProofs [i2, e, sp]⟩
  obtain ⟨g10, s10⟩ := s10
  have P10 := P7.app g10
  obtain ⟨T2, hT2⟩ : ∃ T2, T2 = T ++ g10 := ⟨_, rfl⟩
  rw [← hT2] at P10 s10
  obtain ⟨w', g11, e11, hw, _⟩ := shown_bad P10 hn
  have pn := pair_ne hw (P10.app g11) ok_refused
  have s11 : mS11 [b0, b1, b2, some v, some (.bl false), some (.tup [.str "refused", v]), b6] T2 = .go .nx [b0, b1, b2, some v, some (.bl false), some (.tup [.str "refused", v]), b6] (T2 ++ g11) := by
    unfold mS11; simp -implicitDefEqProofs [e11, pn]
  have P11 := P10.app g11
  obtain ⟨T3, hT3⟩ : ∃ T3, T3 = T2 ++ g11 := ⟨_, rfl⟩
  rw [← hT3] at P11 s11
  have s12 : mS12 [b0, b1, b2, some v, some (.bl false), some (.tup [.str "refused", v]), b6] T3 = .go .nx [b0, b1, b2, some v, some (.bl false), some (.tup [.str "refused", v]), b6] T3 := by
    have il := pic_isL P11
    cases hi : isL u with
    | false => rw [hi] at il; unfold mS12; simp -implicitDefEqProofs [il]
    | true =>
      rw [hi] at il
      cases P11 with
      | pu _ hp => cases v <;> first | exact nomatch (show false = true from hp) | (cases hi; done)
      | ls k ws hk hl hws =>
        have kp := kept_ok (.ls k ws hk hl hws) hn
        unfold mS12; simp -implicitDefEqProofs [il, kp]
  have s13 : mS13 [b0, b1, b2, some v, some (.bl false), some (.tup [.str "refused", v]), b6] T3 = .go .nx [b0, b1, b2, some v, some (.bl false), some (.tup [.str "refused", v]), b6] T3 := by
    unfold mS13; simp -implicitDefEqProofs
  have s14 : mS14 [b0, b1, b2, some v, some (.bl false), some (.tup [.str "refused", v]), b6] T3 = .go .nx [b0, b1, b2, some v, some (.bl false), some (.tup [.str "refused", v]), b6] T3 := by
    unfold mS14; simp -implicitDefEqProofs
  refine ⟨some (.bl false), some (.tup [.str "refused", v]), b6, g7 ++ g10 ++ g11, ?_⟩
  rw [show S ++ (g7 ++ g10 ++ g11) = T3 by rw [hT3, hT2, hT]; simp]
  simp -implicitDefEqProofs only [sSeq_ap, s4, s5, s6, s7, s8, s9, s10, s11, s12, s13, s14, RsS.next_nx]
end
end
end K01
namespace K01
open PySem PySem.Spec PyProof.Rows L2 MP
open Classical
noncomputable section
theorem _root_.MP.Pic.kp {p : Nat} {S S' : Store} {w u : W} (h : Pic S w u) (K : Kp p S S') (hw : ∀ k, w = .loc k → k ≠ p) : Pic S' w u := by
  cases h with
  | pu _ h => exact .pu _ h
  | ls k ws h hl hp => exact .ls k ws (by rw [K.keep _ (hw k rfl)]; exact h) hl hp
theorem StL.pu {b : Nat} {ws : List W} (h : StL b ws) (hl : ws.length ≤ 20) : pu (.tup ws) := by
  show (decide (ws.length ≤ 8192) && ws.all (puB 4)) = true
  rw [Bool.and_eq_true, decide_eq_true_iff, List.all_eq_true]
  exact ⟨by omega, fun w m => by obtain ⟨y, rfl, hy, _⟩ := h w m; exact hy⟩
theorem seq_loc {S : Store} {k : Nat} {ws : List W} (h : S[k]? = some (.lst ws)) : seqW S (.loc k) = some ws := by
  unfold seqW; simp only [h]
theorem names_ok {p n : Nat} {st : Store} (h : PotA p n st) (hn : n + 10000 ≤ 1000000) : ∃ st', d__law_names_right [.loc p] st = .ok (.bl true) st' ∧ PotA p (n + 10000) st' ∧ Kp p st st' := by
  have hl := h.lt
  have hr := kR1_ok (st := st) (j := 5) (by decide) (by decide)
  obtain ⟨env', S', e, ⟨b1, b2, b3, b4, b5, b6, rfl⟩, P, X⟩ := forW_ok (chk := (ItW.mk (intsW 0 (5 : Int).toNat) none).Chk) (t := tName 1) (b := mB)
    (fun i env S => (∃ b1 b2 b3 b4 b5 b6, env = [some (.loc p), b1, b2, b3, b4, b5, b6]) ∧ PotA p (n + 1000 * i) S ∧ Ext p st S) (fun _ _ _ _ => by simp) (intsW 0 (5 : Int).toNat) 0 [some (.loc p), none, none, none, none, none, none] st
    (fun j w env S hw hI => by
      obtain ⟨⟨b1, b2, b3, b4, b5, b6, rfl⟩, P, X⟩ := hI
      have hj : j < 5 := by have := (List.getElem?_eq_some_iff.mp hw).1; rw [ints_len] at this; exact this
      rw [Nat.zero_add] at P ⊢
      obtain ⟨ws, s1, e1, SL, wl, P1, K1⟩ := some_draw P (by omega)
      have hpS := P.lt
      have m1 : mS1 [some (.loc p), some w, b2, b3, b4, b5, b6] S = .go .nx [some (.loc p), some w, some (.loc S.length), b3, b4, b5, b6] (s1 ++ [.lst ws]) := by
        unfold mS1; simp -implicitDefEqProofs [e1]
      have tu : tupleW [.loc S.length] (s1 ++ [.lst ws]) = .ok (.tup ws) (s1 ++ [.lst ws]) := by rw [← K1.len]; exact tuple_here
      have m2 : mS2 [some (.loc p), some w, some (.loc S.length), b3, b4, b5, b6] (s1 ++ [.lst ws]) = .go .nx [some (.loc p), some w, some (.loc S.length), some (.tup ws), b4, b5, b6] (s1 ++ [.lst ws]) := by
        unfold mS2; simp -implicitDefEqProofs [tu]
      have gk : (s1 ++ [Ob.lst ws])[S.length]? = some (.lst ws) := by rw [← K1.len]; simp
      obtain ⟨t, s2, e2, a2, b2', P2, K2⟩ := take_ok (m := 5) (P1.app [.lst ws]) (by omega) (by decide) (by decide)
      have gk2 : s2[S.length]? = some (.lst ws) := by rw [K2.keep _ (by omega), gk]
      have X2 : Ext p st s2 := ((X.trans K1.ext).trans (.app [.lst ws])).trans K2.ext
      -- what stands in name
      have third : ∃ v u s3, mS3 [some (.loc p), some w, some (.loc S.length), some (.tup ws), b4, b5, b6] (s1 ++ [.lst ws]) = .go .nx [some (.loc p), some w, some (.loc S.length), some v, b4, b5, b6] s3 ∧
          Pic s3 v u ∧ (nameB u = true → v = .tup ws ∧ u = .tup ws) ∧ PotA p (n + 1000 * (j + 1)) s3 ∧ Ext p st s3 ∧ s3[S.length]? = some (.lst ws) := by
        by_cases h4 : t = 4
        · subst h4
          have gl : listW [.loc S.length] s2 = .ok (.loc s2.length) (s2 ++ [.lst ws]) := by unfold listW seqW; simp [gk2]
          obtain ⟨v, u, s3, g, e3, hP, hnb, P3, K3, hk⟩ := (odd_draw (P2.app [.lst ws]) (by omega)).ex
          have kl : kLst [.loc s2.length, v] (s3 ++ g) = .ok (.loc (s3 ++ g).length) (s3 ++ g ++ [.lst [.loc s2.length, v]]) := lst5 (by simp)
          obtain ⟨t5, s5, e5, a5, b5', P5, K5⟩ := take_ok (m := 2) ((P3.app g).app [.lst [.loc s2.length, v]]) (by omega) (by decide) (by decide)
          have hp2 : p < s2.length := P2.lt
          have hp3 : p < s3.length := P3.lt
          have gq : s5[(s3 ++ g).length]? = some (.lst [.loc s2.length, v]) := by
            rw [K5.keep _ (by simp; omega)]; simp
          obtain ⟨r, rm, _, e6⟩ := ix_mem (st := s5) (a := .loc (s3 ++ g).length) (ws := [.loc s2.length, v]) (i := t5) (seq_loc gq) a5 b5'
          have m3 : mS3 [some (.loc p), some w, some (.loc S.length), some (.tup ws), b4, b5, b6] (s1 ++ [.lst ws]) = .go .nx [some (.loc p), some w, some (.loc S.length), some r, b4, b5, b6] s5 := by
            unfold mS3
            simp -implicitDefEqProofs only [sIf_ap, dBool_ap, dOp_ap, dCall_ap, dCons_ap, dVar_ap, List.getElem?_cons_zero, List.getElem?_cons_succ, Res.bind_ok, kCons1_ap, dC_ap, dNil_ap, kCons2_ap, kCall_2, e2, kOp1_ap, eqW_int, beq_self_eq_true, kBool_ap, Res.then_ok, kSIf_t, sAsg_ap, dLst_ap, dApp_ap, gl, kCall_1, e3, kl, e5, e6, kAsg_n, List.set_cons_succ, List.set_cons_zero]
          have hkeep : ∀ i o, (s2 ++ [Ob.lst ws])[i]? = some o → i ≠ p → s5[i]? = some o := fun i o hi hip => by
            rw [K5.keep _ hip]
            refine get_app _ (get_app _ ?_)
            rw [K3.keep _ hip]; exact hi
          have X5 : Ext p st s5 := ((((X2.trans (.app [.lst ws])).trans K3.ext).trans (.app g)).trans (.app [.lst [.loc s2.length, v]])).trans K5.ext
          have gS : s5[S.length]? = some (.lst ws) := hkeep _ _ (get_app _ gk2) (by omega)
          have P5' : PotA p (n + 1000 * (j + 1)) s5 := P5.mono (by omega)
          simp only [List.mem_cons, List.not_mem_nil, or_false] at rm
          rcases rm with rfl | rfl
          · refine ⟨_, .fro ws, s5, m3, .ls _ ws (hkeep _ _ (by simp) (by omega)) (by omega) (fun w m => ?_), (fun z => nomatch (show false = true from z)), P5', X5, gS⟩
            obtain ⟨y, rfl, hy, _⟩ := SL w m
            exact hy
          · refine ⟨_, u, s5, m3, (hP.app [.lst [.loc s2.length, r]]).kp K5 (fun k hk' => ?_), fun z => ?_, P5', X5, gS⟩
            · rcases hk with ⟨_, hpu⟩ | ⟨ws', _, hw', _⟩
              · subst hk'; exact nomatch (show false = true from hpu)
              · rw [hw'] at hk'; injection hk' with hk'; simp at hk'; omega
            · rw [hnb] at z; cases z
        · have q4 : (t == 4) = false := beq_false_of_ne h4
          refine ⟨.tup ws, .tup ws, s2, ?_, .pu _ (SL.pu wl), fun _ => ⟨rfl, rfl⟩, P2.mono (by omega), X2, gk2⟩
          unfold mS3
          simp -implicitDefEqProofs [e2, q4]
      obtain ⟨v, u, s3, m3, hP, hgood, P3, X3, g3⟩ := third
      have tail : ∃ c4 c5 c6 g, sSeq mS4 (sSeq mS5 (sSeq mS6 (sSeq mS7 (sSeq mS8 (sSeq mS9 (sSeq mS10 (sSeq mS11 (sSeq mS12 (sSeq mS13 mS14))))))))) [some (.loc p), some w, some (.loc S.length), some v, b4, b5, b6] s3 = .go .nx [some (.loc p), some w, some (.loc S.length), some v, c4, c5, c6] (s3 ++ g) := by
        cases hb : nameB u with
        | false => exact tail_bad hP hb
        | true =>
          obtain ⟨rfl, rfl⟩ := hgood hb
          exact tail_good g3 hP hb wl
      obtain ⟨c4, c5, c6, g, m4⟩ := tail
      refine ⟨_, _, _, _, rfl, ?_, ⟨some w, some (.loc S.length), some v, c4, c5, c6, rfl⟩, P3.app g, X3.trans (.app g)⟩
      unfold mB
      rw [sSeq_ap, List.set_cons_succ, List.set_cons_zero, m1, RsS.next_nx, sSeq_ap, m2, RsS.next_nx, sSeq_ap, m3, RsS.next_nx, m4]) ⟨⟨none, none, none, none, none, none, rfl⟩, by simpa using h, .refl⟩
  have P' : PotA p (n + 10000) S' := P.mono (by rw [ints_len]; show n + 1000 * (0 + 5) ≤ _; omega)
  obtain ⟨G1, G2, G3⟩ := gc_pot (v := .bl true) X P' hl rfl
  refine ⟨_, ?_, G3, G2⟩
  unfold d__law_names_right; rw [fnDen_ap, m_eq]
  simp -implicitDefEqProofs only [sSeq_ap, sFor_ap, dRange1_ap, dCons_ap, dC_ap, dNil_ap, Res.bind_ok, kCons1_ap, kCons2_ap, hr, Res.then_ok, kFor, List.map_cons, List.map_nil, List.length_cons, List.length_nil, Nat.reduceAdd, Nat.reduceSub, List.replicate_succ, List.replicate_zero, List.cons_append, List.nil_append]
  rw [e]
  simp -implicitDefEqProofs only [RsS.next_nx, sRet_ap, dC_ap, Res.then_ok, kRet_ap, fnR_rt, G1]
/-! texts -/
theorem showB_len (xs : List Str) (b : Nat) (h : ∀ x ∈ xs, x.length ≤ b) : (showT xs).length ≤ (b + 1) * xs.length := by
  rw [len_cl, show_cl]
  induction xs with
  | nil => simp
  | cons x r ih =>
    have h1 := h x List.mem_cons_self
    have h2 := ih fun y hy => h y (List.mem_cons_of_mem _ hy)
    rw [len_cl] at h1
    simp only [List.map_cons, List.flatten_cons, List.length_append, List.length_cons, List.length_nil] at h2 ⊢
    rw [Nat.mul_add, Nat.mul_one]; omega
def T14 : List W := [.str "", .str ".", .str "..", .str "*.", .str "*", .str "a", .str ".a.", .str "a..", .str "*.*.", .str "a.*.", .str " .", .str "a.\n", .str "\n", .str "-."]
theorem t14_ok : ∀ w ∈ T14, ∃ t : Str, w = .str t ∧ okS t = true ∧ t.length ≤ 10 := by
  intro w hw
  unfold T14 at hw
  simp only [List.mem_cons, List.not_mem_nil, or_false] at hw
  rcases hw with rfl | rfl | rfl | rfl | rfl | rfl | rfl | rfl | rfl | rfl | rfl | rfl | rfl | rfl
  all_goals exact ⟨_, rfl, by decide +kernel, by decide +kernel⟩
section
variable {b0 b1 b3 b4 b5 b6 b7 : Option W} {S : Store} {t : Str}
/-- what is asked of a text, whatever it is -/
theorem ask_text (ht : okS t = true) (hl : t.length ≤ 2000) : ∃ c5 g, sSeq tS7 tS8 [b0, b1, some (.str t), b3, b4, b5, b6, b7] S = .go .nx [b0, b1, some (.str t), b3, b4, c5, b6, b7] (S ++ g) := by
  have e7 : tS7 [b0, b1, some (.str t), b3, b4, b5, b6, b7] S = .go .nx [b0, b1, some (.str t), b3, b4, some (.loc S.length), b6, b7] (S ++ [.lst (lawR t)]) := by
    unfold tS7; simp -implicitDefEqProofs [law_read_ok ht (by omega)]
  obtain ⟨T, hT⟩ : ∃ T, T = S ++ [.lst (lawR t), .lst []] := ⟨_, rfl⟩
  have kn : kLst [] (S ++ [.lst (lawR t)]) = .ok (.loc (S.length + 1)) T := by rw [lst5 (by simp), hT]; simp
  have hpu : ∀ w ∈ lawR t, pu w := fun w hw => by
    unfold lawR at hw
    split at hw
    · rw [List.mem_singleton.mp hw]; decide +kernel
    · split at hw
      · rw [List.mem_singleton.mp hw]; exact parts_ok ht (by omega)
      · nomatch hw
  have hll : (lawR t).length ≤ 1 := by unfold lawR; split <;> (try split) <;> simp
  have hq : eqW (.loc S.length) (.loc (S.length + 1)) T = .ok (.bl (lawR t).isEmpty) T := by
    have h1 : Pic T (.loc S.length) (.fro (lawR t)) := .ls _ _ (by rw [hT]; simp) (by omega) hpu
    have h2 : Pic T (.loc (S.length + 1)) (.fro []) := .ls _ _ (by rw [hT]; simp) (by simp) (fun w hw => nomatch hw)
    rw [pic_eq h1 h2]
    congr 2
    cases lawR t <;> rfl
  have done : ∀ v xs, lawR t = [v] → d_name_of [.str t] T = .ok v T → v = .tup (xs.map W.str) → nameB v = true → (∀ x ∈ xs, x.length ≤ 20) → shownS xs = t → ∃ g, tS8 [b0, b1, some (.str t), b3, b4, some (.loc S.length), b6, b7] (S ++ [.lst (lawR t)]) = .go .nx [b0, b1, some (.str t), b3, b4, some (.loc S.length), b6, b7] (S ++ g) := fun v xs hv hd hx hnb h20 hs => by
    have hpv : pu v := hpu v (by rw [hv]; simp)
    have ix : ixW (.loc S.length) (.int 0) T = .ok v T := by
      unfold ixW seqW
      have : T[S.length]? = some (.lst [v]) := by rw [hT, hv]; simp
      simp only [this]; rfl
    have td := told_good hd hpv
    have sp := same_pair (m := 8) ok_namew (.pu (st := T) v hpv) (.pu v hpv) (by decide)
    have sh := show_good (.pu (st := T) v hpv) hx hnb h20
    rw [hs] at sh
    have ns : neW (.str t) (.str t) T = .ok (.bl false) T := by rw [neW_str ht ht]; simp
    have em : (lawR t).isEmpty = false := by rw [hv]; rfl
    rw [em] at hq
    refine ⟨[.lst (lawR t), .lst []], ?_⟩
    rw [← hT]
    unfold tS8
    simp -implicitDefEqProofs [kn, hq, td, ix, two, sp, sh, ns]
  have step : ∃ g, tS8 [b0, b1, some (.str t), b3, b4, some (.loc S.length), b6, b7] (S ++ [.lst (lawR t)]) = .go .nx [b0, b1, some (.str t), b3, b4, some (.loc S.length), b6, b7] (S ++ g) := by
    by_cases h1 : t = "."
    · have hv : lawR t = [.tup []] := if_pos h1
      refine done (.tup []) [] hv ?_ rfl (by decide +kernel) (fun _ z => nomatch z) ?_
      · rw [h1]; exact read_dot
      · rw [h1]; rfl
    · cases hr : readB t with
      | true =>
        have hv : lawR t = [.tup ((parts t).map W.str)] := by unfold lawR; rw [if_neg h1, if_pos hr]
        have hr' := hr
        unfold readB at hr'
        rw [Bool.and_eq_true] at hr'
        obtain ⟨xs, ex, hx⟩ := name_strs hr'.2
        injection ex with ex
        have exs : parts t = xs := by
          have inj : ∀ (a b : List Str), a.map W.str = b.map W.str → a = b := fun a => by
            induction a with
            | nil => intro b h; cases b with
              | nil => rfl
              | cons => cases h
            | cons x r ih => intro b h; cases b with
              | nil => cases h
              | cons y s => simp only [List.map_cons, List.cons.injEq] at h; injection h.1 with h1; rw [h1, ih s h.2]
          exact inj _ _ ex
        refine done _ (parts t) hv (read_good ht (by omega) h1 hr) rfl hr'.2 (fun x m => (hx x (exs ▸ m)).1) ?_
        unfold shownS
        rw [if_neg (by have := parts_ne t; cases hp : parts t with | nil => exact absurd hp this | cons => simp)]
        exact show_parts hr'.1
      | false =>
        have hv : lawR t = [] := by unfold lawR; rw [if_neg h1, if_neg (by rw [hr]; simp)]
        have hb := read_bad (st := T) ht (by omega) h1 hr
        have td := told_bad hb
        have bb := base_bad hb
        have pn := pair_ne (.pu (st := T) _ (pu_str ht)) (.pu _ (pu_str ht)) ok_refused
        have em : (lawR t).isEmpty = true := by rw [hv]; rfl
        rw [em] at hq
        refine ⟨[.lst (lawR t), .lst []], ?_⟩
        rw [← hT]
        unfold tS8
        simp -implicitDefEqProofs [kn, hq, td, two, pn, bb]
  obtain ⟨g, e8⟩ := step
  exact ⟨_, g, by rw [sSeq_ap, e7, RsS.next_nx, e8]⟩
end
end
end K01
namespace K01
open PySem PySem.Spec PyProof.Rows L2 MP
open Classical
noncomputable section
theorem sl_list {S : Store} {k : Nat} {ws : List W} (h : S[k]? = some (.lst ws)) : slW (.loc k) none (some 11) S = .ok (.loc S.length) (S ++ [.lst (ws.take 11)]) := by
  unfold slW lstW
  simp only [h]
  rw [show (some (11 : Int)) = some ((11 : Nat) : Int) from rfl, cut_to]
theorem ok_dotS : okS dotS = true := ok_dot
theorem dot_add {x y : Str} : x ++ ("." : Str) ++ y = x ++ dotS ++ y := rfl
theorem texts_ok {p n : Nat} {st : Store} (h : PotA p n st) (hn : n + 10000 ≤ 1000000) : ∃ st', d__law_texts_right [.loc p] st = .ok (.bl true) st' ∧ PotA p (n + 10000) st' ∧ Kp p st st' := by
  have hl := h.lt
  have hr := kR1_ok (st := st) (j := 6) (by decide) (by decide)
  obtain ⟨env', S', e, ⟨b1, b2, b3, b4, b5, b6, b7, rfl⟩, P, X⟩ := forW_ok (chk := (ItW.mk (intsW 0 (6 : Int).toNat) none).Chk) (t := tName 1) (b := tB)
    (fun i env S => (∃ b1 b2 b3 b4 b5 b6 b7, env = [some (.loc p), b1, b2, b3, b4, b5, b6, b7]) ∧ PotA p (n + 1000 * i) S ∧ Ext p st S) (fun _ _ _ _ => by simp) (intsW 0 (6 : Int).toNat) 0 [some (.loc p), none, none, none, none, none, none, none] st
    (fun j w env S hw hI => by
      obtain ⟨⟨b1, b2, b3, b4, b5, b6, b7, rfl⟩, P, X⟩ := hI
      have hj : j < 6 := by have := (List.getElem?_eq_some_iff.mp hw).1; rw [ints_len] at this; exact this
      rw [Nat.zero_add] at P ⊢
      obtain ⟨ws, s1, e1, SL, wl, P1, K1⟩ := some_draw P (by omega)
      have gk : (s1 ++ [Ob.lst ws])[S.length]? = some (.lst ws) := by rw [← K1.len]; simp
      have sl := sl_list gk
      obtain ⟨xs, exs, hx⟩ := StL.strs (b := 50) (ws := ws.take 11) fun w m => SL w (List.mem_of_mem_take m)
      have xl : xs.length ≤ 11 := by
        have := congrArg List.length exs
        rw [List.length_take, List.length_map] at this; omega
      rw [exs] at sl
      obtain ⟨A, hA⟩ : ∃ A, A = s1 ++ [Ob.lst ws] := ⟨_, rfl⟩
      rw [← hA] at sl e1
      have gA : (A ++ [Ob.lst (xs.map W.str)])[A.length]? = some (.lst (xs.map W.str)) := by simp
      obtain ⟨k1, k2⟩ := dots_ok (env := [some (.loc p), some w, b2, b3, b4, b5, b6, none]) (i := 7) (src := some A.length) (st := A ++ [Ob.lst (xs.map W.str)]) (xs := xs) (by simp) (by simpa using gA) (fun x h => Nat.le_trans (hx x h).2 (by decide)) (by omega)
      have it := itOf_loc gA
      obtain ⟨A2, hA2⟩ : ∃ A2, A2 = A ++ [Ob.lst (xs.map W.str)] := ⟨_, rfl⟩
      rw [← hA2] at sl k1 k2 it
      obtain ⟨L, hL⟩ : ∃ L, L = ((xs.map fun x => x ++ dotS).map W.str) := ⟨_, rfl⟩
      rw [← hL] at k1 k2
      obtain ⟨A3, hA3⟩ : ∃ A3, A3 = A2 ++ [Ob.lst L] := ⟨_, rfl⟩
      rw [← hA3] at k1 k2
      have c1 : tS1 [some (.loc p), some w, b2, b3, b4, b5, b6, b7] S = .go .nx [some (.loc p), some w, some (.str (showT xs)), b3, b4, b5, b6, b7] A3 := by
        unfold tS1
        simp -implicitDefEqProofs only [sAsg_ap, dBm_ap, dC_ap, Res.bind_ok, kBm_s, dCons_ap, dLc_ap, dIt_ap, dSl_ap, dCall_ap, dVar_ap, List.getElem?_cons_zero, List.getElem?_cons_succ, kCons1_ap, dNil_ap, kCons2_ap, kCall_1, e1, kSl1_ap, dNoPart_ap, kSl2_ap, dPart_ap, kPart_ap, sl, it, wipeW, List.set_cons_succ, List.set_cons_zero, k1, k2, Res.then_ok, kAsg_n]
      have tl := showB_len xs 50 fun x h => (hx x h).2
      have t561 : (showT xs).length ≤ 561 := by omega
      have ot : okS (showT xs) = true := show_okS (fun x h => (hx x h).1) (by omega)
      generalize showT xs = t0 at *
      have PA : PotA p (n + 1000 * j + 900) A3 := by rw [hA3, hA2, hA]; exact ((P1.app _).app _).app _
      have XA : Ext p st A3 := by rw [hA3, hA2, hA]; exact (((X.trans K1.ext).trans (.app _)).trans (.app _)).trans (.app _)
      obtain ⟨q, s2, e2, a2, q6, P2, K2⟩ := take_ok (m := 6) PA (by omega) (by decide) (by decide)
      have c2 : tS2 [some (.loc p), some w, some (.str t0), b3, b4, b5, b6, b7] A3 = .go .nx [some (.loc p), some w, some (.str t0), some (.int q), b4, b5, b6, b7] s2 := by
        unfold tS2; simp -implicitDefEqProofs [e2]
      obtain ⟨z, s3, e3, a3, z1, P3, K3⟩ := take_ok (m := (t0.length : Int) + 1) P2 (by omega) (by omega) (by omega)
      have c3 : tS3 [some (.loc p), some w, some (.str t0), some (.int q), b4, b5, b6, b7] s2 = .go .nx [some (.loc p), some w, some (.str t0), some (.int q), some (.int z), b5, b6, b7] s3 := by
        unfold tS3; simp -implicitDefEqProofs [len_str (okS.line ot), e3]
      have X3 : Ext p st s3 := (XA.trans K2.ext).trans K3.ext
      -- the text, as it is changed
      have c46 : ∃ t s c6, okS t = true ∧ t.length ≤ 2000 ∧ PotA p (n + 1000 * j + 910) s ∧ Ext p st s ∧
          sSeq tS4 (sSeq tS5 (sSeq tS6 (sSeq tS7 tS8))) [some (.loc p), some w, some (.str t0), some (.int q), some (.int z), b5, b6, b7] s3 = sSeq tS7 tS8 [some (.loc p), some w, some (.str t), some (.int q), some (.int z), b5, c6, b7] s := by
        obtain ⟨f1, f2⟩ := cut_good (lo := none) (hi := some z) ot
        by_cases h3 : q = 3
        · subst h3
          obtain ⟨g1, g2⟩ := cut_good (lo := some z) (hi := none) ot
          have d1 : dotS.length = 1 := rfl
          have d2 : ("." : Str).length = 1 := rfl
          have u1 : addW (.str (cutS t0 none (some z))) (.str ".") s3 = .ok (.str (cutS t0 none (some z) ++ dotS)) s3 := addW_s (line8 (by omega))
          have l1 := len_add (cutS t0 none (some z)) dotS
          have o1 : okS (cutS t0 none (some z) ++ dotS) = true := ok_app f1 ok_dotS (by omega)
          have u2 : addW (.str (cutS t0 none (some z) ++ dotS)) (.str (cutS t0 (some z) none)) s3 = .ok (.str (cutS t0 none (some z) ++ dotS ++ cutS t0 (some z) none)) s3 := addW_s (line8 (by omega))
          have l2 := len_add (cutS t0 none (some z) ++ dotS) (cutS t0 (some z) none)
          have o2 : okS (cutS t0 none (some z) ++ dotS ++ cutS t0 (some z) none) = true := ok_app o1 g1 (by omega)
          refine ⟨_, s3, b6, o2, by omega, P3.mono (by omega), X3, ?_⟩
          generalize sSeq tS7 tS8 = R
          unfold tS4 tS5 tS6
          simp -implicitDefEqProofs [sl_str ot, u1, u2]
        · have q3 : (q == 3) = false := beq_false_of_ne h3
          by_cases h4 : q = 4
          · subst h4
            obtain ⟨g1, g2⟩ := cut_good (lo := some (z + 1)) (hi := none) ot
            have u1 : addW (.str (cutS t0 none (some z))) (.str (cutS t0 (some (z + 1)) none)) s3 = .ok (.str (cutS t0 none (some z) ++ cutS t0 (some (z + 1)) none)) s3 := addW_s (line8 (by omega))
            have l1 := len_add (cutS t0 none (some z)) (cutS t0 (some (z + 1)) none)
            refine ⟨_, s3, b6, ok_app f1 g1 (by omega), by omega, P3.mono (by omega), X3, ?_⟩
            generalize sSeq tS7 tS8 = R
            unfold tS4 tS5 tS6
            simp -implicitDefEqProofs [sl_str ot, u1]
          · have q4 : (q == 4) = false := beq_false_of_ne h4
            by_cases h5 : q = 5
            · subst h5
              have kl : kLst T14 s3 = .ok (.loc s3.length) (s3 ++ [.lst T14]) := lst5 (by simp [T14])
              obtain ⟨y, s4, e4, a4, y1, P4, K4⟩ := take_ok (m := 14) (P3.app [.lst T14]) (by omega) (by decide) (by decide)
              have g4 : s4[s3.length]? = some (.lst T14) := by rw [K4.keep _ (by have := P3.lt; omega)]; simp
              obtain ⟨r, rm, _, e5⟩ := ix_mem (st := s4) (a := .loc s3.length) (ws := T14) (i := y) (seq_loc g4) a4 y1
              obtain ⟨t, rfl, ot', tl'⟩ := t14_ok r rm
              refine ⟨t, s4, some (.loc s3.length), ot', by omega, P4.mono (by omega), (X3.trans (.app [.lst T14])).trans K4.ext, ?_⟩
              generalize sSeq tS7 tS8 = R
              unfold tS4 tS5 tS6
              unfold T14 at kl
              simp -implicitDefEqProofs
              rw [kl]
              simp -implicitDefEqProofs only [Res.then_ok, kAsg_n, List.set_cons_succ, List.set_cons_zero, RsS.next_nx, sAsg_ap, dOp_ap, dVar_ap, List.getElem?_cons_zero, List.getElem?_cons_succ, Res.bind_ok, kOp1_ap, dCall_ap, dCons_ap, kCons1_ap, dC_ap, dNil_ap, kCons2_ap, kCall_2]
              unfold T14 at e4
              rw [e4]
              simp -implicitDefEqProofs [e5]
            · have q5 : (q == 5) = false := beq_false_of_ne h5
              refine ⟨t0, s3, b6, ot, by omega, P3.mono (by omega), X3, ?_⟩
              generalize sSeq tS7 tS8 = R
              unfold tS4 tS5 tS6
              simp -implicitDefEqProofs [q3, q4, q5]
      obtain ⟨t, s4, c6, ot', tl', P4, X4, e4⟩ := c46
      obtain ⟨c5, g, e5⟩ := ask_text (b0 := some (.loc p)) (b1 := some w) (b3 := some (.int q)) (b4 := some (.int z)) (b5 := b5) (b6 := c6) (b7 := b7) (S := s4) ot' tl'
      refine ⟨_, _, _, _, rfl, ?_, ⟨some w, some (.str t), some (.int q), some (.int z), c5, c6, b7, rfl⟩, (P4.mono (by omega)).app g, X4.trans (.app g)⟩
      unfold tB
      rw [sSeq_ap, List.set_cons_succ, List.set_cons_zero, c1, RsS.next_nx, sSeq_ap, c2, RsS.next_nx, sSeq_ap, c3, RsS.next_nx, e4, e5]) ⟨⟨none, none, none, none, none, none, none, rfl⟩, by simpa using h, .refl⟩
  have P' : PotA p (n + 10000) S' := P.mono (by rw [ints_len]; show n + 1000 * (0 + 6) ≤ _; omega)
  obtain ⟨G1, G2, G3⟩ := gc_pot (v := .bl true) X P' hl rfl
  refine ⟨_, ?_, G3, G2⟩
  unfold d__law_texts_right; rw [fnDen_ap, t_eq]
  simp -implicitDefEqProofs only [sSeq_ap, sFor_ap, dRange1_ap, dCons_ap, dC_ap, dNil_ap, Res.bind_ok, kCons1_ap, kCons2_ap, hr, Res.then_ok, kFor, List.map_cons, List.map_nil, List.length_cons, List.length_nil, Nat.reduceAdd, Nat.reduceSub, List.replicate_succ, List.replicate_zero, List.cons_append, List.nil_append]
  rw [e]
  simp -implicitDefEqProofs only [RsS.next_nx, sRet_ap, dC_ap, Res.then_ok, kRet_ap, fnR_rt, G1]
/-! the law -/
def wB : DS := (sSeq (sAsg (dCall 2 d__law_pot (dCons (dVar 0) (dCons (dVar 1) dNil))) (tName 2))
    (sIf (dOr (dNot (dBool (dCall 1 d__law_labels_right (dCons (dVar 2) dNil)))) (dOr (dNot (dBool (dCall 1 d__law_names_right (dCons (dVar 2) dNil)))) (dNot (dBool (dCall 1 d__law_texts_right (dCons (dVar 2) dNil))))))
    (sRet (dC (.bl false)))
    sNil))
theorem law_eq : b_law = sSeq (sFor (dRange1 (dCons (dApp maxW (dCons (dC (.int 1)) (dCons (dApp minW (dCons (dC (.int 5)) (dCons (dApp lenW (dCons (dVar 0) dNil)) dNil))) dNil))) dNil)) (tName 1) wB) (sRet (dC (.bl true))) := rfl
theorem law_true (ns : List Int) (hl : ns.length ≤ 63) (hb : ∀ z ∈ ns, Builtin.Int.intBits z ≤ 1048576) : d_law [.fro (ns.map W.int)] [] = .ok (.bl true) [] := by
  have hlen : lenW [.fro (ns.map W.int)] [] = .ok (.int (ns.length : Int)) [] := by rw [len_seq (ws := ns.map W.int) rfl]; simp
  obtain ⟨m, hm, m0, m1⟩ : ∃ m : Int, (if (ns.length : Int) < 5 then (ns.length : Int) else 5) = m ∧ 0 ≤ m ∧ m ≤ 5 := by
    by_cases z : (ns.length : Int) < 5
    · exact ⟨ns.length, if_pos z, by omega, by omega⟩
    · exact ⟨5, if_neg z, by decide, by decide⟩
  obtain ⟨q, hq, q0, q1⟩ : ∃ q : Int, (if m > 1 then m else 1) = q ∧ 0 ≤ q ∧ q ≤ 5 := by
    by_cases z : m > 1
    · exact ⟨m, if_pos z, by omega, by omega⟩
    · exact ⟨1, if_neg z, by decide, by decide⟩
  have hmin : minW [.int 5, .int (ns.length : Int)] [] = .ok (.int m) [] := by rw [minW_i, hm]
  have hmax : maxW [.int 1, .int m] [] = .ok (.int q) [] := by rw [maxW_i, hq]
  have hr := kR1_ok (st := []) (j := q) (Int.le_trans (by decide) q0) (Int.lt_of_le_of_lt q1 (by decide))
  obtain ⟨env', S', e, a, b, rfl⟩ := forW_ok (chk := (ItW.mk (intsW 0 q.toNat) none).Chk) (t := tName 1) (b := wB)
    (fun i env S => ∃ a b, env = [some (.fro (ns.map W.int)), a, b]) (fun _ _ _ _ => by simp) (intsW 0 q.toNat) 0 [some (.fro (ns.map W.int)), none, none] []
    (fun j w env S hw hI => by
      obtain ⟨a, b, rfl⟩ := hI
      have hj : j < q.toNat := by have := (List.getElem?_eq_some_iff.mp hw).1; rw [ints_len] at this; exact this
      have ew : w = .int (0 + (j : Nat)) := by
        unfold intsW at hw
        rw [List.getElem?_map, List.getElem?_range hj] at hw
        simpa using hw.symm
      subst ew
      obtain ⟨s1, e1, P1, _⟩ := pot_ok (st := S) (i := 0 + (j : Nat)) hl (by omega) (by omega)
      obtain ⟨s2, e2, P2, _⟩ := labels_ok P1 (by omega)
      obtain ⟨s3, e3, P3, _⟩ := names_ok P2 (by omega)
      obtain ⟨s4, e4, P4, _⟩ := texts_ok P3 (by omega)
      refine ⟨_, _, [some (.fro (ns.map W.int)), some (.int (0 + (j : Nat))), some (.loc S.length)], s4, rfl, ?_, _, _, rfl⟩
      unfold wB
      simp -implicitDefEqProofs only [sSeq_ap, sAsg_ap, dCall_ap, dCons_ap, dVar_ap, List.set_cons_succ, List.set_cons_zero, List.getElem?_cons_zero, List.getElem?_cons_succ, Res.bind_ok, kCons1_ap, dNil_ap, kCons2_ap, kCall_2, e1, Res.then_ok, kAsg_n, RsS.next_nx, sIf_ap, dOr_ap, dNot_ap, dBool_ap, kCall_1, e2, kBool_ap, kNot_ap, Bool.not_true, kOr_f, e3, e4, kSIf_f, sNil_ap]) ⟨none, none, rfl⟩
  have hg : gc [] (.bl true) S' = .ok (.bl true) [] := by
    have := gcx_ok (p := 0) (st := []) (st' := S') (v := .bl true) ⟨Nat.zero_le _, fun i hi _ => absurd hi (Nat.not_lt_zero _)⟩ (fun o hp _ => absurd hp (Nat.not_lt_zero _)) rfl
    exact this
  unfold d_law; rw [fnDen_ap, law_eq]
  simp -implicitDefEqProofs only [sSeq_ap, sFor_ap, dRange1_ap, dCons_ap, dApp_ap, dC_ap, dVar_ap, List.map_cons, List.map_nil, List.length_cons, List.length_nil, Nat.reduceAdd, Nat.reduceSub, List.replicate_succ, List.replicate_zero, List.cons_append, List.nil_append, List.getElem?_cons_zero, dNil_ap, Res.bind_ok, kCons1_ap, kCons2_ap, hlen, hmin, hmax, hr, Res.then_ok, kFor]
  rw [e]
  simp -implicitDefEqProofs only [RsS.next_nx, sRet_ap, dC_ap, Res.then_ok, kRet_ap, fnR_rt, hg]
end
end K01
namespace K01
open PySem PySem.Spec PyProof.Rows L2 MP
noncomputable section
theorem all_mk {P : Program} {w : World} {K : PySem.W.Frag} {h : Heap} {mg : Str → Option Value} {fa : Addr} (X : K.In h) (G : h.Ns mainGlobals mg) (hfa : mg "law" = some (.ref fa))
    {fd0 : Addr} {odd0 and0 : Option Addr} {sld0 : Array (Option Value)} {ocd0 kVd0 dcd0 pmd0 cdd0 ctd0 : Value}
    {fd1 : Addr} {odd1 and1 : Option Addr} {sld1 : Array (Option Value)} {ocd1 kVd1 dcd1 pmd1 cdd1 ctd1 : Value}
    {fd2 : Addr} {odd2 and2 : Option Addr} {sld2 : Array (Option Value)} {ocd2 kVd2 dcd2 pmd2 cdd2 ctd2 : Value}
    {fd3 : Addr} {odd3 and3 : Option Addr} {sld3 : Array (Option Value)} {ocd3 kVd3 dcd3 pmd3 cdd3 ctd3 : Value}
    {fd4 : Addr} {odd4 and4 : Option Addr} {sld4 : Array (Option Value)} {ocd4 kVd4 dcd4 pmd4 cdd4 ctd4 : Value}
    {fd5 : Addr} {odd5 and5 : Option Addr} {sld5 : Array (Option Value)} {ocd5 kVd5 dcd5 pmd5 cdd5 ctd5 : Value}
    {fd6 : Addr} {odd6 and6 : Option Addr} {sld6 : Array (Option Value)} {ocd6 kVd6 dcd6 pmd6 cdd6 ctd6 : Value}
    {fd7 : Addr} {odd7 and7 : Option Addr} {sld7 : Array (Option Value)} {ocd7 kVd7 dcd7 pmd7 cdd7 ctd7 : Value}
    {fd8 : Addr} {odd8 and8 : Option Addr} {sld8 : Array (Option Value)} {ocd8 kVd8 dcd8 pmd8 cdd8 ctd8 : Value}
    {fd9 : Addr} {odd9 and9 : Option Addr} {sld9 : Array (Option Value)} {ocd9 kVd9 dcd9 pmd9 cdd9 ctd9 : Value}
    {fd10 : Addr} {odd10 and10 : Option Addr} {sld10 : Array (Option Value)} {ocd10 kVd10 dcd10 pmd10 cdd10 ctd10 : Value}
    {fd11 : Addr} {odd11 and11 : Option Addr} {sld11 : Array (Option Value)} {ocd11 kVd11 dcd11 pmd11 cdd11 ctd11 : Value}
    {fd12 : Addr} {odd12 and12 : Option Addr} {sld12 : Array (Option Value)} {ocd12 kVd12 dcd12 pmd12 cdd12 ctd12 : Value}
    {fd13 : Addr} {odd13 and13 : Option Addr} {sld13 : Array (Option Value)} {ocd13 kVd13 dcd13 pmd13 cdd13 ctd13 : Value}
    {fd14 : Addr} {odd14 and14 : Option Addr} {sld14 : Array (Option Value)} {ocd14 kVd14 dcd14 pmd14 cdd14 ctd14 : Value}
    {fd15 : Addr} {odd15 and15 : Option Addr} {sld15 : Array (Option Value)} {ocd15 kVd15 dcd15 pmd15 cdd15 ctd15 : Value}
    {fd16 : Addr} {odd16 and16 : Option Addr} {sld16 : Array (Option Value)} {ocd16 kVd16 dcd16 pmd16 cdd16 ctd16 : Value}
    {fd17 : Addr} {odd17 and17 : Option Addr} {sld17 : Array (Option Value)} {ocd17 kVd17 dcd17 pmd17 cdd17 ctd17 : Value}
    {fd18 : Addr} {odd18 and18 : Option Addr} {sld18 : Array (Option Value)} {ocd18 kVd18 dcd18 pmd18 cdd18 ctd18 : Value}
    {fd19 : Addr} {odd19 and19 : Option Addr} {sld19 : Array (Option Value)} {ocd19 kVd19 dcd19 pmd19 cdd19 ctd19 : Value}
    {fd20 : Addr} {odd20 and20 : Option Addr} {sld20 : Array (Option Value)} {ocd20 kVd20 dcd20 pmd20 cdd20 ctd20 : Value}
    {fd21 : Addr} {odd21 and21 : Option Addr} {sld21 : Array (Option Value)} {ocd21 kVd21 dcd21 pmd21 cdd21 ctd21 : Value}
    {fd22 : Addr} {odd22 and22 : Option Addr} {sld22 : Array (Option Value)} {ocd22 kVd22 dcd22 pmd22 cdd22 ctd22 : Value}
    {fd23 : Addr} {odd23 and23 : Option Addr} {sld23 : Array (Option Value)} {ocd23 kVd23 dcd23 pmd23 cdd23 ctd23 : Value}
    {fd24 : Addr} {odd24 and24 : Option Addr} {sld24 : Array (Option Value)} {ocd24 kVd24 dcd24 pmd24 cdd24 ctd24 : Value}
    {fd25 : Addr} {odd25 and25 : Option Addr} {sld25 : Array (Option Value)} {ocd25 kVd25 dcd25 pmd25 cdd25 ctd25 : Value}
    {fI : Addr}
    {C0 : Addr}
    {C1 : Addr}
    {C2 : Addr}
    {odI anI : Option Addr} {slI : Array (Option Value)} {ocI kVI dcI pmI cdI ctI : Value}
    {nmC0 : _} {qC0 : _} {NC0 : _} {bsC0 : _} {bmC0 : _} {snC0 : _} {subC0 : _} {abC0 : _} {colC0 : _} {ddC0 : _} {k0C0 : _} {k1C0 : _} {k2C0 : _} {k3C0 : _} {k5C0 : _}
    {nmC1 : _} {qC1 : _} {NC1 : _} {bsC1 : _} {bmC1 : _} {snC1 : _} {subC1 : _} {abC1 : _} {colC1 : _} {ddC1 : _} {k0C1 : _} {k1C1 : _} {k2C1 : _} {k3C1 : _} {k5C1 : _}
    {nmC2 : _} {qC2 : _} {NC2 : _} {bsC2 : _} {bmC2 : _} {snC2 : _} {subC2 : _} {abC2 : _} {colC2 : _} {ddC2 : _} {k0C2 : _} {k1C2 : _} {k2C2 : _} {k3C2 : _} {k5C2 : _}
    {tK_WILD : Tok}
    {tK_LONGEST : Tok}
    {tK_ENDS : Tok}
    {tK_INNER : Tok}
    (ad0 : PySem.W.nsIn K mainGlobals "rebuilt" = some (some (.ref fd0)))
    (ld0 : K.lookup fd0 = some ⟨ocd0, odd0, .func (PySem.W.fnOf "rebuilt" "rebuilt" (defArgs (top 5)) (defBody (top 5)) (defScope (top 5)) .none kVd0 dcd0 pmd0 and0 cdd0 ctd0), sld0⟩)
    (cd0 : PySem.W.codeIn K cdd0 "rebuilt" = true)
    (kd0 : PySem.W.keepIn K (.ref fd0) = true)
    (ad1 : PySem.W.nsIn K mainGlobals "is_label" = some (some (.ref fd1)))
    (ld1 : K.lookup fd1 = some ⟨ocd1, odd1, .func (PySem.W.fnOf "is_label" "is_label" (defArgs (top 11)) (defBody (top 11)) (defScope (top 11)) .none kVd1 dcd1 pmd1 and1 cdd1 ctd1), sld1⟩)
    (cd1 : PySem.W.codeIn K cdd1 "is_label" = true)
    (kd1 : PySem.W.keepIn K (.ref fd1) = true)
    (ad2 : PySem.W.nsIn K mainGlobals "_is_plain" = some (some (.ref fd2)))
    (ld2 : K.lookup fd2 = some ⟨ocd2, odd2, .func (PySem.W.fnOf "_is_plain" "_is_plain" (defArgs (top 12)) (defBody (top 12)) (defScope (top 12)) .none kVd2 dcd2 pmd2 and2 cdd2 ctd2), sld2⟩)
    (cd2 : PySem.W.codeIn K cdd2 "_is_plain" = true)
    (kd2 : PySem.W.keepIn K (.ref fd2) = true)
    (ad3 : PySem.W.nsIn K mainGlobals "is_name" = some (some (.ref fd3)))
    (ld3 : K.lookup fd3 = some ⟨ocd3, odd3, .func (PySem.W.fnOf "is_name" "is_name" (defArgs (top 13)) (defBody (top 13)) (defScope (top 13)) .none kVd3 dcd3 pmd3 and3 cdd3 ctd3), sld3⟩)
    (cd3 : PySem.W.codeIn K cdd3 "is_name" = true)
    (kd3 : PySem.W.keepIn K (.ref fd3) = true)
    (ad4 : PySem.W.nsIn K mainGlobals "is_asked" = some (some (.ref fd4)))
    (ld4 : K.lookup fd4 = some ⟨ocd4, odd4, .func (PySem.W.fnOf "is_asked" "is_asked" (defArgs (top 14)) (defBody (top 14)) (defScope (top 14)) .none kVd4 dcd4 pmd4 and4 cdd4 ctd4), sld4⟩)
    (cd4 : PySem.W.codeIn K cdd4 "is_asked" = true)
    (kd4 : PySem.W.keepIn K (.ref fd4) = true)
    (ad5 : PySem.W.nsIn K mainGlobals "check_name" = some (some (.ref fd5)))
    (ld5 : K.lookup fd5 = some ⟨ocd5, odd5, .func (PySem.W.fnOf "check_name" "check_name" (defArgs (top 15)) (defBody (top 15)) (defScope (top 15)) .none kVd5 dcd5 pmd5 and5 cdd5 ctd5), sld5⟩)
    (cd5 : PySem.W.codeIn K cdd5 "check_name" = true)
    (kd5 : PySem.W.keepIn K (.ref fd5) = true)
    (ad6 : PySem.W.nsIn K mainGlobals "name_of" = some (some (.ref fd6)))
    (ld6 : K.lookup fd6 = some ⟨ocd6, odd6, .func (PySem.W.fnOf "name_of" "name_of" (defArgs (top 16)) (defBody (top 16)) (defScope (top 16)) .none kVd6 dcd6 pmd6 and6 cdd6 ctd6), sld6⟩)
    (cd6 : PySem.W.codeIn K cdd6 "name_of" = true)
    (kd6 : PySem.W.keepIn K (.ref fd6) = true)
    (ad7 : PySem.W.nsIn K mainGlobals "show_name" = some (some (.ref fd7)))
    (ld7 : K.lookup fd7 = some ⟨ocd7, odd7, .func (PySem.W.fnOf "show_name" "show_name" (defArgs (top 17)) (defBody (top 17)) (defScope (top 17)) .none kVd7 dcd7 pmd7 and7 cdd7 ctd7), sld7⟩)
    (cd7 : PySem.W.codeIn K cdd7 "show_name" = true)
    (kd7 : PySem.W.keepIn K (.ref fd7) = true)
    (ad8 : PySem.W.nsIn K mainGlobals "_law_pot" = some (some (.ref fd8)))
    (ld8 : K.lookup fd8 = some ⟨ocd8, odd8, .func (PySem.W.fnOf "_law_pot" "_law_pot" (defArgs (top 19)) (defBody (top 19)) (defScope (top 19)) .none kVd8 dcd8 pmd8 and8 cdd8 ctd8), sld8⟩)
    (cd8 : PySem.W.codeIn K cdd8 "_law_pot" = true)
    (kd8 : PySem.W.keepIn K (.ref fd8) = true)
    (ad9 : PySem.W.nsIn K mainGlobals "_law_take" = some (some (.ref fd9)))
    (ld9 : K.lookup fd9 = some ⟨ocd9, odd9, .func (PySem.W.fnOf "_law_take" "_law_take" (defArgs (top 20)) (defBody (top 20)) (defScope (top 20)) .none kVd9 dcd9 pmd9 and9 cdd9 ctd9), sld9⟩)
    (cd9 : PySem.W.codeIn K cdd9 "_law_take" = true)
    (kd9 : PySem.W.keepIn K (.ref fd9) = true)
    (ad10 : PySem.W.nsIn K mainGlobals "_law_same" = some (some (.ref fd10)))
    (ld10 : K.lookup fd10 = some ⟨ocd10, odd10, .func (PySem.W.fnOf "_law_same" "_law_same" (defArgs (top 21)) (defBody (top 21)) (defScope (top 21)) .none kVd10 dcd10 pmd10 and10 cdd10 ctd10), sld10⟩)
    (cd10 : PySem.W.codeIn K cdd10 "_law_same" = true)
    (kd10 : PySem.W.keepIn K (.ref fd10) = true)
    (ad11 : PySem.W.nsIn K mainGlobals "_law_label" = some (some (.ref fd11)))
    (ld11 : K.lookup fd11 = some ⟨ocd11, odd11, .func (PySem.W.fnOf "_law_label" "_law_label" (defArgs (top 22)) (defBody (top 22)) (defScope (top 22)) .none kVd11 dcd11 pmd11 and11 cdd11 ctd11), sld11⟩)
    (cd11 : PySem.W.codeIn K cdd11 "_law_label" = true)
    (kd11 : PySem.W.keepIn K (.ref fd11) = true)
    (ad12 : PySem.W.nsIn K mainGlobals "_law_odd" = some (some (.ref fd12)))
    (ld12 : K.lookup fd12 = some ⟨ocd12, odd12, .func (PySem.W.fnOf "_law_odd" "_law_odd" (defArgs (top 23)) (defBody (top 23)) (defScope (top 23)) .none kVd12 dcd12 pmd12 and12 cdd12 ctd12), sld12⟩)
    (cd12 : PySem.W.codeIn K cdd12 "_law_odd" = true)
    (kd12 : PySem.W.keepIn K (.ref fd12) = true)
    (ad13 : PySem.W.nsIn K mainGlobals "_law_is_label" = some (some (.ref fd13)))
    (ld13 : K.lookup fd13 = some ⟨ocd13, odd13, .func (PySem.W.fnOf "_law_is_label" "_law_is_label" (defArgs (top 24)) (defBody (top 24)) (defScope (top 24)) .none kVd13 dcd13 pmd13 and13 cdd13 ctd13), sld13⟩)
    (cd13 : PySem.W.codeIn K cdd13 "_law_is_label" = true)
    (kd13 : PySem.W.keepIn K (.ref fd13) = true)
    (ad14 : PySem.W.nsIn K mainGlobals "_law_is_name" = some (some (.ref fd14)))
    (ld14 : K.lookup fd14 = some ⟨ocd14, odd14, .func (PySem.W.fnOf "_law_is_name" "_law_is_name" (defArgs (top 25)) (defBody (top 25)) (defScope (top 25)) .none kVd14 dcd14 pmd14 and14 cdd14 ctd14), sld14⟩)
    (cd14 : PySem.W.codeIn K cdd14 "_law_is_name" = true)
    (kd14 : PySem.W.keepIn K (.ref fd14) = true)
    (ad15 : PySem.W.nsIn K mainGlobals "_law_any_label" = some (some (.ref fd15)))
    (ld15 : K.lookup fd15 = some ⟨ocd15, odd15, .func (PySem.W.fnOf "_law_any_label" "_law_any_label" (defArgs (top 26)) (defBody (top 26)) (defScope (top 26)) .none kVd15 dcd15 pmd15 and15 cdd15 ctd15), sld15⟩)
    (cd15 : PySem.W.codeIn K cdd15 "_law_any_label" = true)
    (kd15 : PySem.W.keepIn K (.ref fd15) = true)
    (ad16 : PySem.W.nsIn K mainGlobals "_law_some_labels" = some (some (.ref fd16)))
    (ld16 : K.lookup fd16 = some ⟨ocd16, odd16, .func (PySem.W.fnOf "_law_some_labels" "_law_some_labels" (defArgs (top 27)) (defBody (top 27)) (defScope (top 27)) .none kVd16 dcd16 pmd16 and16 cdd16 ctd16), sld16⟩)
    (cd16 : PySem.W.codeIn K cdd16 "_law_some_labels" = true)
    (kd16 : PySem.W.keepIn K (.ref fd16) = true)
    (ad17 : PySem.W.nsIn K mainGlobals "_law_labels_right" = some (some (.ref fd17)))
    (ld17 : K.lookup fd17 = some ⟨ocd17, odd17, .func (PySem.W.fnOf "_law_labels_right" "_law_labels_right" (defArgs (top 28)) (defBody (top 28)) (defScope (top 28)) .none kVd17 dcd17 pmd17 and17 cdd17 ctd17), sld17⟩)
    (cd17 : PySem.W.codeIn K cdd17 "_law_labels_right" = true)
    (kd17 : PySem.W.keepIn K (.ref fd17) = true)
    (ad18 : PySem.W.nsIn K mainGlobals "_law_shown" = some (some (.ref fd18)))
    (ld18 : K.lookup fd18 = some ⟨ocd18, odd18, .func (PySem.W.fnOf "_law_shown" "_law_shown" (defArgs (top 29)) (defBody (top 29)) (defScope (top 29)) .none kVd18 dcd18 pmd18 and18 cdd18 ctd18), sld18⟩)
    (cd18 : PySem.W.codeIn K cdd18 "_law_shown" = true)
    (kd18 : PySem.W.keepIn K (.ref fd18) = true)
    (ad19 : PySem.W.nsIn K mainGlobals "_law_kept_apart" = some (some (.ref fd19)))
    (ld19 : K.lookup fd19 = some ⟨ocd19, odd19, .func (PySem.W.fnOf "_law_kept_apart" "_law_kept_apart" (defArgs (top 30)) (defBody (top 30)) (defScope (top 30)) .none kVd19 dcd19 pmd19 and19 cdd19 ctd19), sld19⟩)
    (cd19 : PySem.W.codeIn K cdd19 "_law_kept_apart" = true)
    (kd19 : PySem.W.keepIn K (.ref fd19) = true)
    (ad20 : PySem.W.nsIn K mainGlobals "_law_names_right" = some (some (.ref fd20)))
    (ld20 : K.lookup fd20 = some ⟨ocd20, odd20, .func (PySem.W.fnOf "_law_names_right" "_law_names_right" (defArgs (top 31)) (defBody (top 31)) (defScope (top 31)) .none kVd20 dcd20 pmd20 and20 cdd20 ctd20), sld20⟩)
    (cd20 : PySem.W.codeIn K cdd20 "_law_names_right" = true)
    (kd20 : PySem.W.keepIn K (.ref fd20) = true)
    (ad21 : PySem.W.nsIn K mainGlobals "_law_read" = some (some (.ref fd21)))
    (ld21 : K.lookup fd21 = some ⟨ocd21, odd21, .func (PySem.W.fnOf "_law_read" "_law_read" (defArgs (top 32)) (defBody (top 32)) (defScope (top 32)) .none kVd21 dcd21 pmd21 and21 cdd21 ctd21), sld21⟩)
    (cd21 : PySem.W.codeIn K cdd21 "_law_read" = true)
    (kd21 : PySem.W.keepIn K (.ref fd21) = true)
    (ad22 : PySem.W.nsIn K mainGlobals "_law_told" = some (some (.ref fd22)))
    (ld22 : K.lookup fd22 = some ⟨ocd22, odd22, .func (PySem.W.fnOf "_law_told" "_law_told" (defArgs (top 33)) (defBody (top 33)) (defScope (top 33)) .none kVd22 dcd22 pmd22 and22 cdd22 ctd22), sld22⟩)
    (cd22 : PySem.W.codeIn K cdd22 "_law_told" = true)
    (kd22 : PySem.W.keepIn K (.ref fd22) = true)
    (ad23 : PySem.W.nsIn K mainGlobals "_law_is_base" = some (some (.ref fd23)))
    (ld23 : K.lookup fd23 = some ⟨ocd23, odd23, .func (PySem.W.fnOf "_law_is_base" "_law_is_base" (defArgs (top 34)) (defBody (top 34)) (defScope (top 34)) .none kVd23 dcd23 pmd23 and23 cdd23 ctd23), sld23⟩)
    (cd23 : PySem.W.codeIn K cdd23 "_law_is_base" = true)
    (kd23 : PySem.W.keepIn K (.ref fd23) = true)
    (ad24 : PySem.W.nsIn K mainGlobals "_law_texts_right" = some (some (.ref fd24)))
    (ld24 : K.lookup fd24 = some ⟨ocd24, odd24, .func (PySem.W.fnOf "_law_texts_right" "_law_texts_right" (defArgs (top 35)) (defBody (top 35)) (defScope (top 35)) .none kVd24 dcd24 pmd24 and24 cdd24 ctd24), sld24⟩)
    (cd24 : PySem.W.codeIn K cdd24 "_law_texts_right" = true)
    (kd24 : PySem.W.keepIn K (.ref fd24) = true)
    (ad25 : PySem.W.nsIn K mainGlobals "law" = some (some (.ref fd25)))
    (ld25 : K.lookup fd25 = some ⟨ocd25, odd25, .func (PySem.W.fnOf "law" "law" (defArgs (top 36)) (defBody (top 36)) (defScope (top 36)) .none kVd25 dcd25 pmd25 and25 cdd25 ctd25), sld25⟩)
    (cd25 : PySem.W.codeIn K cdd25 "law" = true)
    (kd25 : PySem.W.keepIn K (.ref fd25) = true)
    (aC0 : PySem.W.nsIn K mainGlobals "TreeError" = some (some (.ref C0)))
    (iC0 : PySem.W.findIn K (.ref C0) "__init__" = some (some (.ref fI)))
    (aC1 : PySem.W.nsIn K mainGlobals "InvalidName" = some (some (.ref C1)))
    (iC1 : PySem.W.findIn K (.ref C1) "__init__" = some (some (.ref fI)))
    (aC2 : PySem.W.nsIn K mainGlobals "Unreadable" = some (some (.ref C2)))
    (iC2 : PySem.W.findIn K (.ref C2) "__init__" = some (some (.ref fI)))
    (lI : K.lookup fI = some ⟨ocI, odI, .func (PySem.W.fnOf "__init__" "TreeError.__init__" (defArgs (inClass (top 1) 0)) (defBody (inClass (top 1) 0)) (defScope (inClass (top 1) 0)) .none kVI dcI pmI anI cdI ctI), slI⟩)
    (cI : PySem.W.codeIn K cdI "TreeError.__init__" = true)
    (kI : PySem.W.keepIn K (.ref fI) = true)
    (yI : PySem.W.typeIn K (.ref fI) = some (.type "function"))
    (eC0 : K.lookup C0 = some (excClassObj nmC0 qC0 C0 NC0 bsC0 bmC0 true snC0 subC0 abC0 colC0 ddC0 k0C0 k1C0 k2C0 k3C0 k5C0 "ValueError.__new__"))
    (rC0 : PySem.HandSPX.refsVE bmC0 = true)
    (sC0 : PySem.W.findIn K (.ref C0) "__setattr__" = some (some (.builtin "object.__setattr__")))
    (xC0 : PySem.W.subIn K (.ref C0) (.type "BaseException") = some true)
    (yC0 : PySem.W.typeIn K (.ref C0) = some (.type "type"))
    (kC0 : PySem.W.keepIn K (.ref C0) = true)
    (vC0 : PySem.W.findIn K (.ref C0) "value" = some none)
    (gC0 : PySem.W.findIn K (.ref C0) "__getattribute__" = some (some (.builtin "BaseException.__getattribute__")))
    (hC0 : PySem.W.findIn K (.ref C0) "__getattr__" = some none)
    (dC0 : PySem.W.hasDictIn K C0 = true)
    (eC1 : K.lookup C1 = some (excClassObj nmC1 qC1 C1 NC1 bsC1 bmC1 true snC1 subC1 abC1 colC1 ddC1 k0C1 k1C1 k2C1 k3C1 k5C1 "ValueError.__new__"))
    (rC1 : PySem.HandSPX.refsVE bmC1 = true)
    (sC1 : PySem.W.findIn K (.ref C1) "__setattr__" = some (some (.builtin "object.__setattr__")))
    (xC1 : PySem.W.subIn K (.ref C1) (.type "BaseException") = some true)
    (yC1 : PySem.W.typeIn K (.ref C1) = some (.type "type"))
    (kC1 : PySem.W.keepIn K (.ref C1) = true)
    (vC1 : PySem.W.findIn K (.ref C1) "value" = some none)
    (gC1 : PySem.W.findIn K (.ref C1) "__getattribute__" = some (some (.builtin "BaseException.__getattribute__")))
    (hC1 : PySem.W.findIn K (.ref C1) "__getattr__" = some none)
    (dC1 : PySem.W.hasDictIn K C1 = true)
    (eC2 : K.lookup C2 = some (excClassObj nmC2 qC2 C2 NC2 bsC2 bmC2 true snC2 subC2 abC2 colC2 ddC2 k0C2 k1C2 k2C2 k3C2 k5C2 "ValueError.__new__"))
    (rC2 : PySem.HandSPX.refsVE bmC2 = true)
    (sC2 : PySem.W.findIn K (.ref C2) "__setattr__" = some (some (.builtin "object.__setattr__")))
    (xC2 : PySem.W.subIn K (.ref C2) (.type "BaseException") = some true)
    (yC2 : PySem.W.typeIn K (.ref C2) = some (.type "type"))
    (kC2 : PySem.W.keepIn K (.ref C2) = true)
    (vC2 : PySem.W.findIn K (.ref C2) "value" = some none)
    (gC2 : PySem.W.findIn K (.ref C2) "__getattribute__" = some (some (.builtin "BaseException.__getattribute__")))
    (hC2 : PySem.W.findIn K (.ref C2) "__getattr__" = some none)
    (dC2 : PySem.W.hasDictIn K C2 = true)
    (aK_WILD : PySem.W.nsIn K mainGlobals "WILD" = some (some (.str c_WILD tK_WILD)))
    (aK_LONGEST : PySem.W.nsIn K mainGlobals "LONGEST" = some (some (.int 20 tK_LONGEST)))
    (aK_ENDS : PySem.W.nsIn K mainGlobals "ENDS" = some (some (.str c_ENDS tK_ENDS)))
    (aK_INNER : PySem.W.nsIn K mainGlobals "INNER" = some (some (.str c_INNER tK_INNER)))
    (n_ValueError : PySem.W.nsIn K mainGlobals "ValueError" = some none)
    (n_abs : PySem.W.nsIn K mainGlobals "abs" = some none)
    (n_all : PySem.W.nsIn K mainGlobals "all" = some none)
    (n_bool : PySem.W.nsIn K mainGlobals "bool" = some none)
    (n_int : PySem.W.nsIn K mainGlobals "int" = some none)
    (n_isinstance : PySem.W.nsIn K mainGlobals "isinstance" = some none)
    (n_len : PySem.W.nsIn K mainGlobals "len" = some none)
    (n_list : PySem.W.nsIn K mainGlobals "list" = some none)
    (n_max : PySem.W.nsIn K mainGlobals "max" = some none)
    (n_min : PySem.W.nsIn K mainGlobals "min" = some none)
    (n_range : PySem.W.nsIn K mainGlobals "range" = some none)
    (n_str : PySem.W.nsIn K mainGlobals "str" = some none)
    (n_tuple : PySem.W.nsIn K mainGlobals "tuple" = some none)
    (u_TreeError_InvalidName : PySem.W.subIn K (.ref C0) (.ref C1) = some false)
    (u_InvalidName_InvalidName : PySem.W.subIn K (.ref C1) (.ref C1) = some true)
    (u_Unreadable_InvalidName : PySem.W.subIn K (.ref C2) (.ref C1) = some false)
    (u_TreeError_TreeError : PySem.W.subIn K (.ref C0) (.ref C0) = some true)
    (u_InvalidName_TreeError : PySem.W.subIn K (.ref C1) (.ref C0) = some true)
    (u_Unreadable_TreeError : PySem.W.subIn K (.ref C2) (.ref C0) = some true)
    (u_TreeError_Unreadable : PySem.W.subIn K (.ref C0) (.ref C2) = some false)
    (u_InvalidName_Unreadable : PySem.W.subIn K (.ref C1) (.ref C2) = some false)
    (u_Unreadable_Unreadable : PySem.W.subIn K (.ref C2) (.ref C2) = some true)
    (kaC0 : PySem.W.findIn K (.ref C0) "__class__" = some (some (.builtin "object.__class__")))
    (kmC0 : PySem.W.mroIn K C0 (.type "object") = some true)
    (kaC1 : PySem.W.findIn K (.ref C1) "__class__" = some (some (.builtin "object.__class__")))
    (kmC1 : PySem.W.mroIn K C1 (.type "object") = some true)
    (kaC2 : PySem.W.findIn K (.ref C2) "__class__" = some (some (.builtin "object.__class__")))
    (kmC2 : PySem.W.mroIn K C2 (.type "object") = some true)
    (kn : PySem.W.specialIn K (.builtin "object.__class__") "__get__" = some (some (.builtin "getset_descriptor.__get__")))
    (kt : PySem.W.takesIn K (.builtin "object.__class__") = some true)
    (ut_TreeError_ValueError : PySem.W.subIn K (.ref C0) (.type "ValueError") = some true)
    (ut_InvalidName_ValueError : PySem.W.subIn K (.ref C1) (.type "ValueError") = some true)
    (ut_Unreadable_ValueError : PySem.W.subIn K (.ref C2) (.type "ValueError") = some true) :
    ∃ fd : FuncData, (∀ (s : Shared) (v : Value), BindsTo s fd ⟨[v], []⟩ [("_law_script", v)]) ∧ ∀ base : Heap, K.In base → base.Ns mainGlobals mg → FnOk P w K mg base (L2.CX P w) 14 fa fd ["_law_script"] (spLaw K) := by
  have e := hfa.symm.trans (PySem.W.mg_of X G ad25)
  cases e
  refine ⟨PySem.W.fnOf "law" "law" (defArgs (top 36)) (defBody (top 36)) (defScope (top 36)) .none kVd25 dcd25 pmd25 and25 cdd25 ctd25, fun s v => .of_eq rfl, fun base _ _ => ?_⟩
  have FI := fun_mk (st := inClass (top 1) 0) lI cI kI
  have OI : FnOk P w K mg base (L2.CX P w) 1 fI _ ["self", "value"] (spExc K) := exc_init_ok FI ⟨rfl, rfl, rfl, by decide +kernel, rfl, by decide +kernel, by decide +kernel⟩ rfl rfl rfl
  have BI := FI.binds (ps := ["self", "value"]) fun _ _ _ _ _ _ us hl => match us, hl with | [_, _], _ => rfl
  have XC0 : XfC K C0 := ⟨gC0, hC0, xC0, dC0⟩
  have EC0 : ErrC K mg "TreeError" C0 fI := ⟨⟨⟨_, _, _, _, _, _, _, _, _, _, _, _, _, _, _, eC0, rC0⟩, sC0, xC0, yC0, kC0⟩, PySem.W.mg_of X G aC0, iC0, yI, vC0, XC0⟩
  have XC1 : XfC K C1 := ⟨gC1, hC1, xC1, dC1⟩
  have EC1 : ErrC K mg "InvalidName" C1 fI := ⟨⟨⟨_, _, _, _, _, _, _, _, _, _, _, _, _, _, _, eC1, rC1⟩, sC1, xC1, yC1, kC1⟩, PySem.W.mg_of X G aC1, iC1, yI, vC1, XC1⟩
  have XC2 : XfC K C2 := ⟨gC2, hC2, xC2, dC2⟩
  have EC2 : ErrC K mg "Unreadable" C2 fI := ⟨⟨⟨_, _, _, _, _, _, _, _, _, _, _, _, _, _, _, eC2, rC2⟩, sC2, xC2, yC2, kC2⟩, PySem.W.mg_of X G aC2, iC2, yI, vC2, XC2⟩
  let T : Txt P w K mg base := {
    D_rebuilt := ⟨fd0, _, fun_mk (st := top 5) ld0 cd0 kd0, PySem.W.mg_of X G ad0, (fun_mk (st := top 5) ld0 cd0 kd0).binds (ps := ["value"]) fun _ _ _ _ _ _ us hl => match us, hl with | [_], _ => rfl⟩,
    D_is_label := ⟨fd1, _, fun_mk (st := top 11) ld1 cd1 kd1, PySem.W.mg_of X G ad1, (fun_mk (st := top 11) ld1 cd1 kd1).binds (ps := ["value"]) fun _ _ _ _ _ _ us hl => match us, hl with | [_], _ => rfl⟩,
    k_is_label := fun s ws _ hl => match ws, hl with | [_], _ => .of_eq rfl,
    D__is_plain := ⟨fd2, _, fun_mk (st := top 12) ld2 cd2 kd2, PySem.W.mg_of X G ad2, (fun_mk (st := top 12) ld2 cd2 kd2).binds (ps := ["text"]) fun _ _ _ _ _ _ us hl => match us, hl with | [_], _ => rfl⟩,
    D_is_name := ⟨fd3, _, fun_mk (st := top 13) ld3 cd3 kd3, PySem.W.mg_of X G ad3, (fun_mk (st := top 13) ld3 cd3 kd3).binds (ps := ["value"]) fun _ _ _ _ _ _ us hl => match us, hl with | [_], _ => rfl⟩,
    k_is_name := fun s ws _ hl => match ws, hl with | [_], _ => .of_eq rfl,
    D_is_asked := ⟨fd4, _, fun_mk (st := top 14) ld4 cd4 kd4, PySem.W.mg_of X G ad4, (fun_mk (st := top 14) ld4 cd4 kd4).binds (ps := ["value"]) fun _ _ _ _ _ _ us hl => match us, hl with | [_], _ => rfl⟩,
    k_is_asked := fun s ws _ hl => match ws, hl with | [_], _ => .of_eq rfl,
    D_check_name := ⟨fd5, _, fun_mk (st := top 15) ld5 cd5 kd5, PySem.W.mg_of X G ad5, (fun_mk (st := top 15) ld5 cd5 kd5).binds (ps := ["name"]) fun _ _ _ _ _ _ us hl => match us, hl with | [_], _ => rfl⟩,
    D_name_of := ⟨fd6, _, fun_mk (st := top 16) ld6 cd6 kd6, PySem.W.mg_of X G ad6, (fun_mk (st := top 16) ld6 cd6 kd6).binds (ps := ["text"]) fun _ _ _ _ _ _ us hl => match us, hl with | [_], _ => rfl⟩,
    k_name_of := fun s ws _ hl => match ws, hl with | [_], _ => .of_eq rfl,
    D_show_name := ⟨fd7, _, fun_mk (st := top 17) ld7 cd7 kd7, PySem.W.mg_of X G ad7, (fun_mk (st := top 17) ld7 cd7 kd7).binds (ps := ["name"]) fun _ _ _ _ _ _ us hl => match us, hl with | [_], _ => rfl⟩,
    k_show_name := fun s ws _ hl => match ws, hl with | [_], _ => .of_eq rfl,
    D__law_pot := ⟨fd8, _, fun_mk (st := top 19) ld8 cd8 kd8, PySem.W.mg_of X G ad8, (fun_mk (st := top 19) ld8 cd8 kd8).binds (ps := ["_law_script", "_law_k"]) fun _ _ _ _ _ _ us hl => match us, hl with | [_, _], _ => rfl⟩,
    D__law_take := ⟨fd9, _, fun_mk (st := top 20) ld9 cd9 kd9, PySem.W.mg_of X G ad9, (fun_mk (st := top 20) ld9 cd9 kd9).binds (ps := ["_law_pot_here", "_law_many"]) fun _ _ _ _ _ _ us hl => match us, hl with | [_, _], _ => rfl⟩,
    D__law_same := ⟨fd10, _, fun_mk (st := top 21) ld10 cd10 kd10, PySem.W.mg_of X G ad10, (fun_mk (st := top 21) ld10 cd10 kd10).binds (ps := ["_law_told_here", "_law_due"]) fun _ _ _ _ _ _ us hl => match us, hl with | [_, _], _ => rfl⟩,
    D__law_label := ⟨fd11, _, fun_mk (st := top 22) ld11 cd11 kd11, PySem.W.mg_of X G ad11, (fun_mk (st := top 22) ld11 cd11 kd11).binds (ps := ["_law_pot_here"]) fun _ _ _ _ _ _ us hl => match us, hl with | [_], _ => rfl⟩,
    D__law_odd := ⟨fd12, _, fun_mk (st := top 23) ld12 cd12 kd12, PySem.W.mg_of X G ad12, (fun_mk (st := top 23) ld12 cd12 kd12).binds (ps := ["_law_pot_here"]) fun _ _ _ _ _ _ us hl => match us, hl with | [_], _ => rfl⟩,
    D__law_is_label := ⟨fd13, _, fun_mk (st := top 24) ld13 cd13 kd13, PySem.W.mg_of X G ad13, (fun_mk (st := top 24) ld13 cd13 kd13).binds (ps := ["_law_value"]) fun _ _ _ _ _ _ us hl => match us, hl with | [_], _ => rfl⟩,
    D__law_is_name := ⟨fd14, _, fun_mk (st := top 25) ld14 cd14 kd14, PySem.W.mg_of X G ad14, (fun_mk (st := top 25) ld14 cd14 kd14).binds (ps := ["_law_value"]) fun _ _ _ _ _ _ us hl => match us, hl with | [_], _ => rfl⟩,
    D__law_any_label := ⟨fd15, _, fun_mk (st := top 26) ld15 cd15 kd15, PySem.W.mg_of X G ad15, (fun_mk (st := top 26) ld15 cd15 kd15).binds (ps := ["_law_pot_here"]) fun _ _ _ _ _ _ us hl => match us, hl with | [_], _ => rfl⟩,
    D__law_some_labels := ⟨fd16, _, fun_mk (st := top 27) ld16 cd16 kd16, PySem.W.mg_of X G ad16, (fun_mk (st := top 27) ld16 cd16 kd16).binds (ps := ["_law_pot_here"]) fun _ _ _ _ _ _ us hl => match us, hl with | [_], _ => rfl⟩,
    D__law_labels_right := ⟨fd17, _, fun_mk (st := top 28) ld17 cd17 kd17, PySem.W.mg_of X G ad17, (fun_mk (st := top 28) ld17 cd17 kd17).binds (ps := ["_law_pot_here"]) fun _ _ _ _ _ _ us hl => match us, hl with | [_], _ => rfl⟩,
    D__law_shown := ⟨fd18, _, fun_mk (st := top 29) ld18 cd18 kd18, PySem.W.mg_of X G ad18, (fun_mk (st := top 29) ld18 cd18 kd18).binds (ps := ["_law_value"]) fun _ _ _ _ _ _ us hl => match us, hl with | [_], _ => rfl⟩,
    D__law_kept_apart := ⟨fd19, _, fun_mk (st := top 30) ld19 cd19 kd19, PySem.W.mg_of X G ad19, (fun_mk (st := top 30) ld19 cd19 kd19).binds (ps := ["_law_value", "_law_due"]) fun _ _ _ _ _ _ us hl => match us, hl with | [_, _], _ => rfl⟩,
    D__law_names_right := ⟨fd20, _, fun_mk (st := top 31) ld20 cd20 kd20, PySem.W.mg_of X G ad20, (fun_mk (st := top 31) ld20 cd20 kd20).binds (ps := ["_law_pot_here"]) fun _ _ _ _ _ _ us hl => match us, hl with | [_], _ => rfl⟩,
    D__law_read := ⟨fd21, _, fun_mk (st := top 32) ld21 cd21 kd21, PySem.W.mg_of X G ad21, (fun_mk (st := top 32) ld21 cd21 kd21).binds (ps := ["_law_text"]) fun _ _ _ _ _ _ us hl => match us, hl with | [_], _ => rfl⟩,
    D__law_told := ⟨fd22, _, fun_mk (st := top 33) ld22 cd22 kd22, PySem.W.mg_of X G ad22, (fun_mk (st := top 33) ld22 cd22 kd22).binds (ps := ["_law_text"]) fun _ _ _ _ _ _ us hl => match us, hl with | [_], _ => rfl⟩,
    D__law_is_base := ⟨fd23, _, fun_mk (st := top 34) ld23 cd23 kd23, PySem.W.mg_of X G ad23, (fun_mk (st := top 34) ld23 cd23 kd23).binds (ps := ["_law_text"]) fun _ _ _ _ _ _ us hl => match us, hl with | [_], _ => rfl⟩,
    D__law_texts_right := ⟨fd24, _, fun_mk (st := top 35) ld24 cd24 kd24, PySem.W.mg_of X G ad24, (fun_mk (st := top 35) ld24 cd24 kd24).binds (ps := ["_law_pot_here"]) fun _ _ _ _ _ _ us hl => match us, hl with | [_], _ => rfl⟩,
    D_law := ⟨fa, _, fun_mk (st := top 36) ld25 cd25 kd25, PySem.W.mg_of X G ad25, (fun_mk (st := top 36) ld25 cd25 kd25).binds (ps := ["_law_script"]) fun _ _ _ _ _ _ us hl => match us, hl with | [_], _ => rfl⟩,
    E_TreeError := ⟨C0, fI, _, EC0, OI, BI⟩,
    E_InvalidName := ⟨C1, fI, _, EC1, OI, BI⟩,
    E_Unreadable := ⟨C2, fI, _, EC2, OI, BI⟩,
    c_WILD := ⟨_, PySem.W.mg_of X G aK_WILD⟩,
    c_LONGEST := ⟨_, PySem.W.mg_of X G aK_LONGEST⟩,
    c_ENDS := ⟨_, PySem.W.mg_of X G aK_ENDS⟩,
    c_INNER := ⟨_, PySem.W.mg_of X G aK_INNER⟩,
    n_ValueError := PySem.W.mg_none_of X G n_ValueError,
    n_abs := PySem.W.mg_none_of X G n_abs,
    n_all := PySem.W.mg_none_of X G n_all,
    n_bool := PySem.W.mg_none_of X G n_bool,
    n_int := PySem.W.mg_none_of X G n_int,
    n_isinstance := PySem.W.mg_none_of X G n_isinstance,
    n_len := PySem.W.mg_none_of X G n_len,
    n_list := PySem.W.mg_none_of X G n_list,
    n_max := PySem.W.mg_none_of X G n_max,
    n_min := PySem.W.mg_none_of X G n_min,
    n_range := PySem.W.mg_none_of X G n_range,
    n_str := PySem.W.mg_none_of X G n_str,
    n_tuple := PySem.W.mg_none_of X G n_tuple,
    sub_InvalidName := mem_all (⟨⟨C0, EC0.mgC, PySem.W.exm_ref xC1 dC1 yC1 u_TreeError_InvalidName, XC0, vC0⟩, ⟨⟨C1, EC1.mgC, PySem.W.exm_ref xC1 dC1 yC1 u_InvalidName_InvalidName, XC1, vC1⟩, ⟨⟨C2, EC2.mgC, PySem.W.exm_ref xC1 dC1 yC1 u_Unreadable_InvalidName, XC2, vC2⟩, trivial⟩⟩⟩),
    sub_TreeError := mem_all (⟨⟨C0, EC0.mgC, PySem.W.exm_ref xC0 dC0 yC0 u_TreeError_TreeError, XC0, vC0⟩, ⟨⟨C1, EC1.mgC, PySem.W.exm_ref xC0 dC0 yC0 u_InvalidName_TreeError, XC1, vC1⟩, ⟨⟨C2, EC2.mgC, PySem.W.exm_ref xC0 dC0 yC0 u_Unreadable_TreeError, XC2, vC2⟩, trivial⟩⟩⟩),
    sub_Unreadable := mem_all (⟨⟨C0, EC0.mgC, PySem.W.exm_ref xC2 dC2 yC2 u_TreeError_Unreadable, XC0, vC0⟩, ⟨⟨C1, EC1.mgC, PySem.W.exm_ref xC2 dC2 yC2 u_InvalidName_Unreadable, XC1, vC1⟩, ⟨⟨C2, EC2.mgC, PySem.W.exm_ref xC2 dC2 yC2 u_Unreadable_Unreadable, XC2, vC2⟩, trivial⟩⟩⟩),
    xc_ValueError := mem_all (⟨⟨C0, EC0.mgC, ⟨cls_some dC0, kaC0, kn, kt, kmC0⟩, (kit_type (by decide +kernel) ut_TreeError_ValueError)⟩, ⟨⟨C1, EC1.mgC, ⟨cls_some dC1, kaC1, kn, kt, kmC1⟩, (kit_type (by decide +kernel) ut_InvalidName_ValueError)⟩, ⟨⟨C2, EC2.mgC, ⟨cls_some dC2, kaC2, kn, kt, kmC2⟩, (kit_type (by decide +kernel) ut_Unreadable_ValueError)⟩, trivial⟩⟩⟩),
    xc_Unreadable := mem_all (⟨⟨C0, EC0.mgC, ⟨cls_some dC0, kaC0, kn, kt, kmC0⟩, (kit_ref dC2 yC2 u_Unreadable_Unreadable u_TreeError_Unreadable)⟩, ⟨⟨C1, EC1.mgC, ⟨cls_some dC1, kaC1, kn, kt, kmC1⟩, (kit_ref dC2 yC2 u_Unreadable_Unreadable u_InvalidName_Unreadable)⟩, ⟨⟨C2, EC2.mgC, ⟨cls_some dC2, kaC2, kn, kt, kmC2⟩, (kit_ref dC2 yC2 u_Unreadable_Unreadable u_Unreadable_Unreadable)⟩, trivial⟩⟩⟩),
    xc_InvalidName := mem_all (⟨⟨C0, EC0.mgC, ⟨cls_some dC0, kaC0, kn, kt, kmC0⟩, (kit_ref dC1 yC1 u_InvalidName_InvalidName u_TreeError_InvalidName)⟩, ⟨⟨C1, EC1.mgC, ⟨cls_some dC1, kaC1, kn, kt, kmC1⟩, (kit_ref dC1 yC1 u_InvalidName_InvalidName u_InvalidName_InvalidName)⟩, ⟨⟨C2, EC2.mgC, ⟨cls_some dC2, kaC2, kn, kt, kmC2⟩, (kit_ref dC1 yC1 u_InvalidName_InvalidName u_Unreadable_InvalidName)⟩, trivial⟩⟩⟩) }
  exact law_end (fn_law T) law_true
theorem walk {l : PySem.W.OpenLaw} {q : Program} {loose : List Str} {XP : (Str → Option Value) → Heap → Prop} {YP : World → Heap → Prop} {d : DefRec} {K : Params → PySem.W.Frag} (hn : l.most = some 63) (hdf : d.params.defaults = [])
    (hY : ∀ (w : World) (h : Heap), YP w h → (K w.params).In h)
    (F : ∀ (w : World) (mg : Str → Option Value) (fa : Addr) (h : Heap), (K w.params).In h → h.Ns mainGlobals mg → mg d.name = some (.ref fa) →
      ∃ fd : FuncData, (∀ (s : Shared) (u : Value), BindsTo s fd ⟨[u], []⟩ [("_law_script", u)]) ∧ ∀ base : Heap, (K w.params).In base → base.Ns mainGlobals mg → FnOk l.prog w (K w.params) mg base (L2.CX l.prog w) 14 fa fd ["_law_script"] (spLaw (K w.params))) :
    PySem.W.WalkO q loose XP YP l.row.toRowW d [] (fun f vs => PySem.call f vs) :=
  L2.walk_ofB (n := 63) (k := 14) (x := "_law_script") (CX := fun w => L2.CX l.prog w) (sp := fun w => spLaw (K w.params)) hn (by decide) hdf ⟨rfl, by decide, by decide⟩ hY F (fun _ _ a ns hl hb hO hS => ⟨a, ns, rfl, hO, hS, hl, hb, fun _ => rfl⟩) (fun _ _ _ _ _ z => by obtain ⟨_, _, _, _, _, _, _, _, _, _, _, _, z⟩ := z; exact z.elim)
end
end K01
open PySem PySem.W PyProof.Rows
theorem PySem.Challenge.cw_rootward_k01_labels_and_names_holds : PySem.Challenge.rw_rootward_k01_labels_and_names.Holds := by
  w_on; o_law; k_head; (case hw => w_witness2)
  k_fill
  refine K01.walk (l := PySem.Challenge.rw_rootward_k01_labels_and_names) rfl rfl (fun w h Y => PySem.W.kIn_of Y) ?F
  case F =>
    intro w mg fa h KX G hmg
    refine' K01.all_mk KX G hmg ?ad0 ?ld0 ?cd0 ?kd0 ?ad1 ?ld1 ?cd1 ?kd1 ?ad2 ?ld2 ?cd2 ?kd2 ?ad3 ?ld3 ?cd3 ?kd3 ?ad4 ?ld4 ?cd4 ?kd4 ?ad5 ?ld5 ?cd5 ?kd5 ?ad6 ?ld6 ?cd6 ?kd6 ?ad7 ?ld7 ?cd7 ?kd7 ?ad8 ?ld8 ?cd8 ?kd8 ?ad9 ?ld9 ?cd9 ?kd9 ?ad10 ?ld10 ?cd10 ?kd10 ?ad11 ?ld11 ?cd11 ?kd11 ?ad12 ?ld12 ?cd12 ?kd12 ?ad13 ?ld13 ?cd13 ?kd13 ?ad14 ?ld14 ?cd14 ?kd14 ?ad15 ?ld15 ?cd15 ?kd15 ?ad16 ?ld16 ?cd16 ?kd16 ?ad17 ?ld17 ?cd17 ?kd17 ?ad18 ?ld18 ?cd18 ?kd18 ?ad19 ?ld19 ?cd19 ?kd19 ?ad20 ?ld20 ?cd20 ?kd20 ?ad21 ?ld21 ?cd21 ?kd21 ?ad22 ?ld22 ?cd22 ?kd22 ?ad23 ?ld23 ?cd23 ?kd23 ?ad24 ?ld24 ?cd24 ?kd24 ?ad25 ?ld25 ?cd25 ?kd25 ?aC0 ?iC0 ?aC1 ?iC1 ?aC2 ?iC2 ?lI ?cI ?kI ?yI ?eC0 ?rC0 ?sC0 ?xC0 ?yC0 ?kC0 ?vC0 ?gC0 ?hC0 ?dC0 ?eC1 ?rC1 ?sC1 ?xC1 ?yC1 ?kC1 ?vC1 ?gC1 ?hC1 ?dC1 ?eC2 ?rC2 ?sC2 ?xC2 ?yC2 ?kC2 ?vC2 ?gC2 ?hC2 ?dC2 ?aK_WILD ?aK_LONGEST ?aK_ENDS ?aK_INNER ?n_ValueError ?n_abs ?n_all ?n_bool ?n_int ?n_isinstance ?n_len ?n_list ?n_max ?n_min ?n_range ?n_str ?n_tuple ?u_TreeError_InvalidName ?u_InvalidName_InvalidName ?u_Unreadable_InvalidName ?u_TreeError_TreeError ?u_InvalidName_TreeError ?u_Unreadable_TreeError ?u_TreeError_Unreadable ?u_InvalidName_Unreadable ?u_Unreadable_Unreadable ?kaC0 ?kmC0 ?kaC1 ?kmC1 ?kaC2 ?kmC2 ?kn ?kt ?ut_TreeError_ValueError ?ut_InvalidName_ValueError ?ut_Unreadable_ValueError
    (case ad0 => k_is)
    (case ld0 => k_is)
    (case cd0 => k_is)
    (case kd0 => k_is)
    (case ad1 => k_is)
    (case ld1 => k_is)
    (case cd1 => k_is)
    (case kd1 => k_is)
    (case ad2 => k_is)
    (case ld2 => k_is)
    (case cd2 => k_is)
    (case kd2 => k_is)
    (case ad3 => k_is)
    (case ld3 => k_is)
    (case cd3 => k_is)
    (case kd3 => k_is)
    (case ad4 => k_is)
    (case ld4 => k_is)
    (case cd4 => k_is)
    (case kd4 => k_is)
    (case ad5 => k_is)
    (case ld5 => k_is)
    (case cd5 => k_is)
    (case kd5 => k_is)
    (case ad6 => k_is)
    (case ld6 => k_is)
    (case cd6 => k_is)
    (case kd6 => k_is)
    (case ad7 => k_is)
    (case ld7 => k_is)
    (case cd7 => k_is)
    (case kd7 => k_is)
    (case ad8 => k_is)
    (case ld8 => k_is)
    (case cd8 => k_is)
    (case kd8 => k_is)
    (case ad9 => k_is)
    (case ld9 => k_is)
    (case cd9 => k_is)
    (case kd9 => k_is)
    (case ad10 => k_is)
    (case ld10 => k_is)
    (case cd10 => k_is)
    (case kd10 => k_is)
    (case ad11 => k_is)
    (case ld11 => k_is)
    (case cd11 => k_is)
    (case kd11 => k_is)
    (case ad12 => k_is)
    (case ld12 => k_is)
    (case cd12 => k_is)
    (case kd12 => k_is)
    (case ad13 => k_is)
    (case ld13 => k_is)
    (case cd13 => k_is)
    (case kd13 => k_is)
    (case ad14 => k_is)
    (case ld14 => k_is)
    (case cd14 => k_is)
    (case kd14 => k_is)
    (case ad15 => k_is)
    (case ld15 => k_is)
    (case cd15 => k_is)
    (case kd15 => k_is)
    (case ad16 => k_is)
    (case ld16 => k_is)
    (case cd16 => k_is)
    (case kd16 => k_is)
    (case ad17 => k_is)
    (case ld17 => k_is)
    (case cd17 => k_is)
    (case kd17 => k_is)
    (case ad18 => k_is)
    (case ld18 => k_is)
    (case cd18 => k_is)
    (case kd18 => k_is)
    (case ad19 => k_is)
    (case ld19 => k_is)
    (case cd19 => k_is)
    (case kd19 => k_is)
    (case ad20 => k_is)
    (case ld20 => k_is)
    (case cd20 => k_is)
    (case kd20 => k_is)
    (case ad21 => k_is)
    (case ld21 => k_is)
    (case cd21 => k_is)
    (case kd21 => k_is)
    (case ad22 => k_is)
    (case ld22 => k_is)
    (case cd22 => k_is)
    (case kd22 => k_is)
    (case ad23 => k_is)
    (case ld23 => k_is)
    (case cd23 => k_is)
    (case kd23 => k_is)
    (case ad24 => k_is)
    (case ld24 => k_is)
    (case cd24 => k_is)
    (case kd24 => k_is)
    (case ad25 => k_is)
    (case ld25 => k_is)
    (case cd25 => k_is)
    (case kd25 => k_is)
    (case aC0 => k_is)
    (case iC0 => k_is)
    (case aC1 => k_is)
    (case iC1 => k_is)
    (case aC2 => k_is)
    (case iC2 => k_is)
    (case lI => k_is)
    (case cI => k_is)
    (case kI => k_is)
    (case yI => k_is)
    (case eC0 => k_is)
    (case rC0 => first | k_is | decide +kernel)
    (case sC0 => k_is)
    (case xC0 => k_is)
    (case yC0 => k_is)
    (case kC0 => k_is)
    (case vC0 => k_is)
    (case gC0 => k_is)
    (case hC0 => k_is)
    (case dC0 => k_is)
    (case eC1 => k_is)
    (case rC1 => first | k_is | decide +kernel)
    (case sC1 => k_is)
    (case xC1 => k_is)
    (case yC1 => k_is)
    (case kC1 => k_is)
    (case vC1 => k_is)
    (case gC1 => k_is)
    (case hC1 => k_is)
    (case dC1 => k_is)
    (case eC2 => k_is)
    (case rC2 => first | k_is | decide +kernel)
    (case sC2 => k_is)
    (case xC2 => k_is)
    (case yC2 => k_is)
    (case kC2 => k_is)
    (case vC2 => k_is)
    (case gC2 => k_is)
    (case hC2 => k_is)
    (case dC2 => k_is)
    (case aK_WILD => k_is)
    (case aK_LONGEST => k_is)
    (case aK_ENDS => k_is)
    (case aK_INNER => k_is)
    (case n_ValueError => k_is)
    (case n_abs => k_is)
    (case n_all => k_is)
    (case n_bool => k_is)
    (case n_int => k_is)
    (case n_isinstance => k_is)
    (case n_len => k_is)
    (case n_list => k_is)
    (case n_max => k_is)
    (case n_min => k_is)
    (case n_range => k_is)
    (case n_str => k_is)
    (case n_tuple => k_is)
    (case u_TreeError_InvalidName => k_is)
    (case u_InvalidName_InvalidName => k_is)
    (case u_Unreadable_InvalidName => k_is)
    (case u_TreeError_TreeError => k_is)
    (case u_InvalidName_TreeError => k_is)
    (case u_Unreadable_TreeError => k_is)
    (case u_TreeError_Unreadable => k_is)
    (case u_InvalidName_Unreadable => k_is)
    (case u_Unreadable_Unreadable => k_is)
    (case kaC0 => k_is)
    (case kmC0 => k_is)
    (case kaC1 => k_is)
    (case kmC1 => k_is)
    (case kaC2 => k_is)
    (case kmC2 => k_is)
    (case kn => k_is)
    (case kt => k_is)
    (case ut_TreeError_ValueError => k_is)
    (case ut_InvalidName_ValueError => k_is)
    (case ut_Unreadable_ValueError => k_is)
