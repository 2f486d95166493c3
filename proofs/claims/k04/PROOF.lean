import PyProof.Rows.All
import Wide.All
import OpenK.AllK
import Wide.FinOn
import HandS.ForMost
import HandS.ForExc
import HandS.ExcInit
import HandS.ExcField
import HandS.TryMany
import HandS.WideBits
import HandS.Flow
import HandS.IsInst
import HandS.EndBits
import HandS.ExcOwn
import HandS.TupAny
import HandS.StrMore
import HandS.Text
import HandS.Style
import HandS.ExcIs
import KE.KExcIs
import HandS.Sort
import HandS.Replace
import HandS.TupLe
import HandS.More
import PyProof.ListStr
import HandS.RaiseMore
import PyProof.P3Eq
import HandS.Deep
import HandS.TupMul
import PySem.Challenge.RW_rootward_k04_kinds_data_and_records
set_option Elab.async false
set_option linter.all false
set_option maxRecDepth 100000
set_option maxHeartbeats 4000000
namespace MP
open PySem PySem.Spec PyProof.Rows L2

/-! ### values, objects, results -/
inductive W where
  | non | bl (b : Bool) | int (i : Int) | str (x : Str) | tup (xs : List W) | fro (xs : List W) | loc (n : Nat) | gl (v : V) | rng (i j : Int)
inductive Ob where
  | lst (xs : List W)
abbrev Store := List Ob
abbrev EnvW := List (Option W)
inductive Res (α : Type) where
  | ok (a : α) (st : Store)
  | err (c : Str) (fs : W) (st : Store)
  | stuck
def Res.bind {α β : Type} (r : Res α) (k : α → Store → Res β) : Res β := match r with
  | .ok a st => k a st
  | .err c fs st => .err c fs st
  | .stuck => .stuck
@[simp] theorem Res.bind_ok {α β : Type} (a : α) (st : Store) (k : α → Store → Res β) : (Res.ok a st).bind k = k a st := rfl
@[simp] theorem Res.bind_err {α β : Type} (c : Str) (fs : W) (st : Store) (k : α → Store → Res β) : (Res.err c fs st : Res α).bind k = .err c fs st := rfl
@[simp] theorem Res.bind_stuck {α β : Type} (k : α → Store → Res β) : (Res.stuck : Res α).bind k = .stuck := rfl
abbrev D (α : Type) := EnvW → Store → Res α

/-! ### how values and stores lie in the heap -/
/-- a list that is never written: the script, or the module's own -/
def SqF (K : PySem.W.Frag) (H : Hp) (a : Addr) (xs : List V) : Prop :=
  (∃ o, H a = some (.frz o (.lst xs))) ∨
    ∃ (o : Obj) (its : Array Value) (n : Nat), K.lookup a = some o ∧ o.cls = .type "list" ∧ o.dict = none ∧ o.data = .seq its n ∧ its.size ≤ sizeLine ∧ Vals xs its.toList
/-- a tuple: tracked, or the module's own -/
def TpF (K : PySem.W.Frag) (H : Hp) (a : Addr) (xs : List V) : Prop :=
  H a = some (.tup xs) ∨
    ∃ (o : Obj) (its : Array Value) (n : Nat), K.lookup a = some o ∧ o.cls = .type "tuple" ∧ o.data = .seq its n ∧ its.size ≤ sizeLine ∧ Vals xs its.toList
theorem SqF.sq {K : PySem.W.Frag} {H : Hp} {a : Addr} {xs : List V} (h : SqF K H a xs) : SqL K H a xs := by
  rcases h with ⟨o, h⟩ | h
  · exact .inl (.inr ⟨o, h⟩)
  · exact .inr h
theorem TpF.sq {K : PySem.W.Frag} {H : Hp} {a : Addr} {xs : List V} (h : TpF K H a xs) : SqT K H a xs := by
  rcases h with h | h
  · exact .inl (.inl h)
  · exact .inr h
mutual
def VR (K : PySem.W.Frag) (ρ : List Addr) (H : Hp) : W → V → Prop
  | .non, v => v = .non
  | .bl b, v => v = .bl b
  | .int i, v => v = .int i
  | .str x, v => v = .str x
  | .tup ws, v => ∃ a us, v = .ref a ∧ TpF K H a us ∧ VRs K ρ H ws us
  | .fro ws, v => ∃ a us, v = .ref a ∧ SqF K H a us ∧ VRs K ρ H ws us
  | .loc n, v => ∃ a, ρ[n]? = some a ∧ v = .ref a
  | .gl u, v => v = u
  | .rng i j, v => ∃ a, v = .ref a ∧ H a = some (.rng i j)
def VRs (K : PySem.W.Frag) (ρ : List Addr) (H : Hp) : List W → List V → Prop
  | [], vs => vs = []
  | w :: ws, vs => ∃ u us, vs = u :: us ∧ VR K ρ H w u ∧ VRs K ρ H ws us
end
/-- what may be written lies at the addresses of ρ -/
def ObR (K : PySem.W.Frag) (ρ : List Addr) (H : Hp) (a : Addr) : Ob → Prop
  | .lst ws => ∃ us, H a = some (.lst us) ∧ VRs K ρ H ws us
structure StR (K : PySem.W.Frag) (ρ : List Addr) (H : Hp) (st : Store) : Prop where
  len : ρ.length = st.length
  nd : ρ.Nodup
  ob : ∀ (n : Nat) (o : Ob), st[n]? = some o → ∃ a, ρ[n]? = some a ∧ ObR K ρ H a o
/-- in an except suite: the exception's slot, its address, its dict, its value -/
structure Exn where
  i : Nat
  a : Addr
  dd : Addr
  y : V
  w : W
structure EnvR (K : PySem.W.Frag) (ex : Option Exn) (ρ : List Addr) (H : Hp) (env : EnvW) (σ : L2.St) : Prop where
  len : σ.length = env.length
  at_ : ∀ (i : Nat) (w : W), env[i]? = some (some w) → ∃ v, σ[i]? = some (some v) ∧ VR K ρ H w v
  exc : ∀ x, ex = some x → σ[x.i]? = some (some (.ref x.a)) ∧ H x.dd = some (.xd [(("value" : Str), x.y)]) ∧ x.dd ∉ ρ ∧ VR K ρ H x.w x.y
def ExOk (ex : Option Exn) (i : Nat) : Prop := ∀ x, ex = some x → x.i ≠ i
theorem ExOk.none {i : Nat} : ExOk none i := fun _ h => nomatch h
/-- later: the store's part may be longer, nothing else that is tracked is changed -/
structure Grow (ρ : List Addr) (H : Hp) (ρ' : List Addr) (H' : Hp) : Prop where
  pre : ∃ m, ρ' = ρ ++ m ∧ ∀ a ∈ m, H a = none
  keep : ∀ a o, H a = some o → a ∉ ρ → H' a = some o
  live : ∀ a, a ∈ ρ → H a ≠ none → H' a ≠ none
/-- immutable things are never among the written ones -/
def Apart (ρ : List Addr) (H : Hp) : Prop := ∀ a ∈ ρ, ∃ o, H a = some o ∧ (∀ xs, o ≠ .tup xs) ∧ (∀ b u, o ≠ .frz b u) ∧ ∀ i j, o ≠ .rng i j

section
variable {K : PySem.W.Frag} {ρ ρ' ρ'' : List Addr} {H H' H'' : Hp} {st st' : Store}
theorem Grow.refl : Grow ρ H ρ H := ⟨⟨[], by simp, fun _ h => nomatch h⟩, fun _ _ h _ => h, fun _ _ h => h⟩
theorem Grow.fresh (g : Grow ρ H ρ' H') {a : Addr} (h : H' a = none) : H a = none := by
  cases e : H a with
  | none => rfl
  | some o =>
    by_cases m : a ∈ ρ
    · exact absurd h (g.live a m (by rw [e]; simp))
    · have := g.keep a o e m
      rw [this] at h; cases h
theorem Grow.trans (g : Grow ρ H ρ' H') (g' : Grow ρ' H' ρ'' H'') : Grow ρ H ρ'' H'' := by
  obtain ⟨m, e, f⟩ := g.pre
  obtain ⟨m', e', f'⟩ := g'.pre
  subst e; subst e'
  refine ⟨⟨m ++ m', by simp, fun a h => ?_⟩, fun a o h n => ?_, fun a h h' => ?_⟩
  · rcases List.mem_append.mp h with h | h
    · exact f a h
    · exact g.fresh (f' a h)
  · refine g'.keep a o (g.keep a o h n) fun z => ?_
    rcases List.mem_append.mp z with z | z
    · exact n z
    · have := f a z; rw [h] at this; cases this
  · exact g'.live a (List.mem_append_left _ h) (g.live a h h')
theorem StR.apart (s : StR K ρ H st) : Apart ρ H := fun a h => by
  obtain ⟨n, hn, e⟩ := List.getElem_of_mem h
  have hn' : n < st.length := by rw [← s.len]; exact hn
  obtain ⟨b, hb, hob⟩ := s.ob n st[n] (by rw [List.getElem?_eq_getElem hn'])
  rw [List.getElem?_eq_getElem hn, e] at hb
  cases hb
  cases ho : st[n] with
  | lst ws =>
    rw [ho] at hob
    obtain ⟨us, hu, _⟩ := hob
    exact ⟨_, hu, fun _ z => (nomatch z), fun _ _ z => (nomatch z), fun _ _ z => (nomatch z)⟩
theorem TpF.grow {a : Addr} {xs : List V} (h : TpF K H a xs) (ap : Apart ρ H) (g : Grow ρ H ρ' H') : TpF K H' a xs := by
  rcases h with h | h
  · refine .inl (g.keep a _ h fun m => ?_)
    obtain ⟨o, e, n, _⟩ := ap a m
    rw [h] at e; cases e
    exact n _ rfl
  · exact .inr h
theorem SqF.grow {a : Addr} {xs : List V} (h : SqF K H a xs) (ap : Apart ρ H) (g : Grow ρ H ρ' H') : SqF K H' a xs := by
  rcases h with ⟨o, h⟩ | h
  · refine .inl ⟨o, g.keep a _ h fun m => ?_⟩
    obtain ⟨o', e, _, n, _⟩ := ap a m
    rw [h] at e; cases e
    exact n _ _ rfl
  · exact .inr h
mutual
theorem VR.grow (ap : Apart ρ H) (g : Grow ρ H ρ' H') : ∀ (w : W) (v : V), VR K ρ H w v → VR K ρ' H' w v
  | .non, _, h => by simpa only [VR] using h
  | .bl _, _, h => by simpa only [VR] using h
  | .int _, _, h => by simpa only [VR] using h
  | .str _, _, h => by simpa only [VR] using h
  | .gl _, _, h => by simpa only [VR] using h
  | .rng i j, v, h => by
    simp only [VR] at h ⊢
    obtain ⟨a, e, r⟩ := h
    refine ⟨a, e, g.keep a _ r fun m => ?_⟩
    obtain ⟨o, e', _, _, n⟩ := ap a m
    rw [r] at e'; cases e'
    exact n _ _ rfl
  | .tup ws, v, h => by
    simp only [VR] at h ⊢
    obtain ⟨a, us, e, t, r⟩ := h
    exact ⟨a, us, e, t.grow ap g, VRs.grow ap g ws us r⟩
  | .fro ws, v, h => by
    simp only [VR] at h ⊢
    obtain ⟨a, us, e, t, r⟩ := h
    exact ⟨a, us, e, t.grow ap g, VRs.grow ap g ws us r⟩
  | .loc n, v, h => by
    simp only [VR] at h ⊢
    obtain ⟨a, e, r⟩ := h
    obtain ⟨m, e', _⟩ := g.pre
    subst e'
    refine ⟨a, ?_, r⟩
    have hl := (List.getElem?_eq_some_iff.mp e).1
    rw [List.getElem?_append_left hl]; exact e
theorem VRs.grow (ap : Apart ρ H) (g : Grow ρ H ρ' H') : ∀ (ws : List W) (vs : List V), VRs K ρ H ws vs → VRs K ρ' H' ws vs
  | [], _, h => by simpa only [VRs] using h
  | w :: ws, vs, h => by
    simp only [VRs] at h ⊢
    obtain ⟨u, us, e, r, rs⟩ := h
    exact ⟨u, us, e, VR.grow ap g w u r, VRs.grow ap g ws us rs⟩
end
theorem EnvR.grow {ex : Option Exn} {env : EnvW} {σ : L2.St} (e : EnvR K ex ρ H env σ) (ap : Apart ρ H) (g : Grow ρ H ρ' H') : EnvR K ex ρ' H' env σ :=
  ⟨e.len, fun i w h => let ⟨v, h1, h2⟩ := e.at_ i w h; ⟨v, h1, VR.grow ap g w v h2⟩, fun x h => by
    obtain ⟨h1, h2, h3, h4⟩ := e.exc x h
    refine ⟨h1, g.keep _ _ h2 h3, fun z => ?_, VR.grow ap g _ _ h4⟩
    obtain ⟨m, em, fm⟩ := g.pre
    subst em
    rcases List.mem_append.mp z with z | z
    · exact h3 z
    · have := fm _ z; rw [h2] at this; cases this⟩
theorem EnvR.put {ex : Option Exn} {env : EnvW} {σ : L2.St} (e : EnvR K ex ρ H env σ) {i : Nat} {w : Option W} {v : Option V} (hx : ExOk ex i) (r : ∀ w', w = some w' → ∃ v', v = some v' ∧ VR K ρ H w' v') : EnvR K ex ρ H (env.set i w) (σ.set i v) := by
  refine ⟨by simp [e.len], fun j w' h => ?_, fun x h => ?_⟩
  · by_cases hj : i = j
    · subst hj
      rw [List.getElem?_set] at h
      split at h
      · split at h
        · rename_i hl
          obtain ⟨v', e1, rv⟩ := r w' (Option.some.inj h)
          subst e1
          refine ⟨v', ?_, rv⟩
          rw [List.getElem?_set]; simp [e.len, *]
        · cases h
      · rename_i z; exact absurd rfl z
    · rw [List.getElem?_set_ne hj] at h
      obtain ⟨u, h1, h2⟩ := e.at_ j w' h
      exact ⟨u, by rw [List.getElem?_set_ne hj]; exact h1, h2⟩
  · obtain ⟨h1, h2⟩ := e.exc x h
    exact ⟨by rw [List.getElem?_set_ne (Ne.symm (hx x h))]; exact h1, h2⟩
theorem EnvR.set {ex : Option Exn} {env : EnvW} {σ : L2.St} (e : EnvR K ex ρ H env σ) {i : Nat} {w : W} {v : V} (hx : ExOk ex i) (r : VR K ρ H w v) : EnvR K ex ρ H (env.set i (some w)) (σ.set i (some v)) :=
  e.put hx fun w' h => by cases h; exact ⟨v, rfl, r⟩
theorem EnvR.unset {ex : Option Exn} {env : EnvW} {σ : L2.St} (e : EnvR K ex ρ H env σ) {i : Nat} (hx : ExOk ex i) : EnvR K ex ρ H (env.set i none) (σ.set i none) :=
  e.put hx fun w' h => by cases h
theorem VRs.length : ∀ {ws : List W} {vs : List V}, VRs K ρ H ws vs → ws.length = vs.length
  | [], vs, h => by simp only [VRs] at h; simp [h]
  | w :: ws, vs, h => by
    simp only [VRs] at h
    obtain ⟨u, us, rfl, _, r⟩ := h
    simp [VRs.length r]
theorem VRs.get : ∀ {ws : List W} {vs : List V} {i : Nat} {w : W}, VRs K ρ H ws vs → ws[i]? = some w → ∃ v, vs[i]? = some v ∧ VR K ρ H w v
  | [], _, _, _, _, e => by simp at e
  | w :: ws, vs, 0, w', h, e => by
    simp only [VRs] at h
    obtain ⟨u, us, rfl, r, _⟩ := h
    simp at e; subst e
    exact ⟨u, rfl, r⟩
  | w :: ws, vs, i + 1, w', h, e => by
    simp only [VRs] at h
    obtain ⟨u, us, rfl, _, r⟩ := h
    obtain ⟨v, h1, h2⟩ := VRs.get (i := i) r (by simpa using e)
    exact ⟨v, by simpa using h1, h2⟩
theorem VRs.append : ∀ {ws ws' : List W} {vs vs' : List V}, VRs K ρ H ws vs → VRs K ρ H ws' vs' → VRs K ρ H (ws ++ ws') (vs ++ vs')
  | [], _, vs, _, h, h' => by simp only [VRs] at h; subst h; simpa using h'
  | w :: ws, _, vs, _, h, h' => by
    simp only [VRs, List.cons_append] at h ⊢
    obtain ⟨u, us, rfl, r, rs⟩ := h
    exact ⟨u, us ++ _, rfl, r, VRs.append rs h'⟩
theorem VRs.take : ∀ {ws : List W} {vs : List V} (n : Nat), VRs K ρ H ws vs → VRs K ρ H (ws.take n) (vs.take n)
  | _, _, 0, _ => by simp [VRs]
  | [], vs, n + 1, h => by simp only [VRs] at h; subst h; simp [VRs]
  | w :: ws, vs, n + 1, h => by
    simp only [VRs] at h
    obtain ⟨u, us, rfl, r, rs⟩ := h
    simp only [List.take_succ_cons, VRs]
    exact ⟨u, _, rfl, r, rs.take n⟩
theorem VRs.drop : ∀ {ws : List W} {vs : List V} (n : Nat), VRs K ρ H ws vs → VRs K ρ H (ws.drop n) (vs.drop n)
  | _, _, 0, h => by simpa using h
  | [], vs, n + 1, h => by simp only [VRs] at h; subst h; simp [VRs]
  | w :: ws, vs, n + 1, h => by
    simp only [VRs] at h
    obtain ⟨u, us, rfl, r, rs⟩ := h
    simpa using rs.drop n
theorem VRs.one {w : W} {v : V} (r : VR K ρ H w v) : VRs K ρ H [w] [v] := by
  simp only [VRs]; exact ⟨v, [], rfl, r, rfl⟩
theorem VRs.cons' {w : W} {v : V} {ws : List W} {vs : List V} (r : VR K ρ H w v) (rs : VRs K ρ H ws vs) : VRs K ρ H (w :: ws) (v :: vs) := by
  simp only [VRs]; exact ⟨v, vs, rfl, r, rs⟩
theorem VRs.reverse : ∀ {ws : List W} {vs : List V}, VRs K ρ H ws vs → VRs K ρ H ws.reverse vs.reverse
  | [], vs, h => by simp only [VRs] at h; subst h; simp [VRs]
  | w :: ws, vs, h => by
    simp only [VRs] at h
    obtain ⟨u, us, rfl, r, rs⟩ := h
    rw [List.reverse_cons, List.reverse_cons]
    exact rs.reverse.append (.one r)
theorem VRs.set {w : W} {v : V} (r : VR K ρ H w v) : ∀ {ws : List W} {vs : List V} (i : Nat), VRs K ρ H ws vs → VRs K ρ H (ws.set i w) (vs.set i v)
  | [], vs, _, h => by simp only [VRs] at h; subst h; simp [VRs]
  | w' :: ws, vs, 0, h => by
    simp only [VRs] at h
    obtain ⟨u, us, rfl, _, rs⟩ := h
    exact .cons' r rs
  | w' :: ws, vs, i + 1, h => by
    simp only [VRs] at h
    obtain ⟨u, us, rfl, r', rs⟩ := h
    exact .cons' r' (rs.set r i)
theorem ObR.stay {a : Addr} {o : Ob} (h : ObR K ρ H a o) (e : H' a = H a) (ap : Apart ρ H) (g : Grow ρ H ρ' H') : ObR K ρ' H' a o := by
  cases o with
  | lst ws =>
    obtain ⟨us, hu, hr⟩ := h
    exact ⟨us, by rw [e]; exact hu, VRs.grow ap g ws us hr⟩
theorem StR.none_of (s : StR K ρ H st) {p : Addr} (hp : H p = none) : p ∉ ρ := fun m => by
  obtain ⟨o, e, _⟩ := s.apart p m; rw [hp] at e; cases e
/-- an object more -/
theorem StR.new (s : StR K ρ H st) {p : Addr} {o : Ob} {u : HO} (hp : H p = none) (g : Grow ρ H (ρ ++ [p]) (upd H p u)) (ho : ObR K (ρ ++ [p]) (upd H p u) p o) : StR K (ρ ++ [p]) (upd H p u) (st ++ [o]) := by
  have ap := s.apart
  have np : p ∉ ρ := fun m => by obtain ⟨o, e, _⟩ := ap p m; rw [hp] at e; cases e
  refine ⟨by simp [s.len], ?_, fun n o' e => ?_⟩
  · rw [List.nodup_append]
    exact ⟨s.nd, List.nodup_cons.mpr ⟨by simp, List.nodup_nil⟩, fun a ha b hb e => by
      have : b = p := by simpa using hb
      subst this; subst e; exact np ha⟩
  · by_cases hn : n < st.length
    · rw [List.getElem?_append_left hn] at e
      obtain ⟨a, ha, hob⟩ := s.ob n o' e
      have hl := (List.getElem?_eq_some_iff.mp ha).1
      have hap : a ≠ p := fun z => np (z ▸ List.mem_of_getElem? ha)
      exact ⟨a, by rw [List.getElem?_append_left hl]; exact ha, hob.stay (upd_ne hap) ap g⟩
    · have hl : n < (st ++ [o]).length := (List.getElem?_eq_some_iff.mp e).1
      have : n = st.length := by simp at hl; omega
      subst this
      rw [List.getElem?_append_right (Nat.le_refl _)] at e
      simp at e; subst e
      exact ⟨p, by rw [← s.len, List.getElem?_append_right (Nat.le_refl _)]; simp, ho⟩
theorem grow_new {p : Addr} {u : HO} (hp : H p = none) : Grow ρ H (ρ ++ [p]) (upd H p u) :=
  ⟨⟨[p], rfl, fun a h => by have : a = p := by simpa using h
                            subst this; exact hp⟩, fun a o h _ => by rw [upd_ne (ne_of_none h hp)]; exact h, fun a _ h z => by
    by_cases e : a = p
    · subst e; rw [upd_same] at z; cases z
    · rw [upd_ne e] at z; exact h z⟩
/-- an immutable thing more -/
theorem grow_imm {p : Addr} {u : HO} (hp : H p = none) : Grow ρ H ρ (upd H p u) :=
  ⟨⟨[], by simp, fun _ h => nomatch h⟩, fun a o h _ => by rw [upd_ne (ne_of_none h hp)]; exact h, fun a _ h z => by
    by_cases e : a = p
    · subst e; rw [upd_same] at z; cases z
    · rw [upd_ne e] at z; exact h z⟩
theorem StR.grow_imm (s : StR K ρ H st) {p : Addr} {u : HO} (hp : H p = none) : StR K ρ (upd H p u) st := by
  have ap := s.apart
  have np : p ∉ ρ := fun m => by obtain ⟨o, e, _⟩ := ap p m; rw [hp] at e; cases e
  refine ⟨s.len, s.nd, fun n o e => ?_⟩
  obtain ⟨a, ha, hob⟩ := s.ob n o e
  have hap : a ≠ p := fun z => np (z ▸ List.mem_of_getElem? ha)
  exact ⟨a, ha, hob.stay (upd_ne hap) ap (MP.grow_imm hp)⟩
/-- an object of the store changed -/
theorem grow_write {a : Addr} {u : HO} (ha : a ∈ ρ) : Grow ρ H ρ (upd H a u) :=
  ⟨⟨[], by simp, fun _ h => nomatch h⟩, fun b o h n => by rw [upd_ne (fun z : b = a => n (by rw [z]; exact ha))]; exact h, fun b _ h z => by
    by_cases e : b = a
    · subst e; rw [upd_same] at z; cases z
    · rw [upd_ne e] at z; exact h z⟩
theorem StR.write (s : StR K ρ H st) {n : Nat} {a : Addr} {o : Ob} {u : HO} (hn : ρ[n]? = some a) (ho : ObR K ρ (upd H a u) a o) : StR K ρ (upd H a u) (st.set n o) := by
  have ap := s.apart
  have hm : a ∈ ρ := List.mem_of_getElem? hn
  have hnl := (List.getElem?_eq_some_iff.mp hn).1
  refine ⟨by simp [s.len], s.nd, fun k o' e => ?_⟩
  by_cases hk : n = k
  · subst hk
    rw [List.getElem?_set] at e
    rw [if_pos rfl, if_pos (by rw [← s.len]; exact hnl)] at e
    cases e
    exact ⟨a, hn, ho⟩
  · rw [List.getElem?_set_ne hk] at e
    obtain ⟨b, hb, hob⟩ := s.ob k o' e
    refine ⟨b, hb, ?_⟩
    have hab : b ≠ a := fun z => by
      subst z
      have h1 := (List.getElem?_eq_some_iff.mp hn)
      have h2 := (List.getElem?_eq_some_iff.mp hb)
      exact hk ((List.getElem_inj s.nd).mp (h1.2.trans h2.2.symm))
    exact hob.stay (upd_ne hab) ap (grow_write hm)
end
end MP
namespace MP
open PySem PySem.Spec PyProof.Rows L2

/-! ### what is wanted of a result; judgements -/
/-- an exception: an own class, its dict -/
def ErR (K : PySem.W.Frag) (mg : Str → Option Value) (ρ : List Addr) (H : Hp) (c : Str) (w : W) (cls : Value) (d : Option Addr) : Prop :=
  ∃ (C dd : Addr) (y : V), mg c = some (.ref C) ∧ cls = .ref C ∧ d = some dd ∧ H dd = some (.xd [(("value" : Str), y)]) ∧ dd ∉ ρ ∧ VR K ρ H w y
def Post {α β : Type} (K : PySem.W.Frag) (mg : Str → Option Value) (Wx : WX) (rel : List Addr → Hp → α → β → Prop) (ρ : List Addr) (H : Hp) (σ : L2.St) (r : Res α) (Q : β → Hp → Prop) : Prop :=
  match r with
  | .ok a st' => ∀ ρ' H' x, Grow ρ H ρ' H' → StR K ρ' H' st' → rel ρ' H' a x → Q x H'
  | .err c fs st' => ∀ ρ' H' cls d, Grow ρ H ρ' H' → StR K ρ' H' st' → ErR K mg ρ' H' c fs cls d → Wx cls d σ H'
  | .stuck => False
abbrev relV (K : PySem.W.Frag) : List Addr → Hp → W → V → Prop := VR K
abbrev relVs (K : PySem.W.Frag) : List Addr → Hp → List W → List V → Prop := VRs K
abbrev relE {α : Type} : List Addr → Hp → α → α → Prop := fun _ _ a b => a = b
section
variable {K : PySem.W.Frag} {mg : Str → Option Value} {Wx : WX} {ρ ρ1 : List Addr} {H H1 : Hp} {σ : L2.St} {α β γ δ : Type}
theorem Post.mono {rel : List Addr → Hp → α → β → Prop} {r : Res α} {Q : β → Hp → Prop} (h : Post K mg Wx rel ρ H σ r Q) (g : Grow ρ H ρ1 H1) : Post K mg Wx rel ρ1 H1 σ r Q := by
  cases r with
  | ok a st => exact fun ρ' H' x g' => h ρ' H' x (g.trans g')
  | err c fs st => exact fun ρ' H' cls d g' => h ρ' H' cls d (g.trans g')
  | stuck => exact h
theorem Post.bind {relA : List Addr → Hp → α → β → Prop} {relC : List Addr → Hp → γ → δ → Prop} {r : Res α} {k : α → Store → Res γ} {Q : δ → Hp → Prop} (h : Post K mg Wx relC ρ H σ (r.bind k) Q) :
    Post K mg Wx relA ρ H σ r (fun x H1 => ∃ ρ1 st1 a, Grow ρ H ρ1 H1 ∧ StR K ρ1 H1 st1 ∧ relA ρ1 H1 a x ∧ Post K mg Wx relC ρ1 H1 σ (k a st1) Q) := by
  cases r with
  | ok a st => exact fun ρ' H' x g s r => ⟨ρ', st, a, g, s, r, Post.mono h g⟩
  | err c fs st => exact h
  | stuck => exact h
theorem Post.ok_ {rel : List Addr → Hp → α → β → Prop} {a : α} {st : Store} {x : β} {Q : β → Hp → Prop} (h : Post K mg Wx rel ρ H σ (.ok a st) Q) (s : StR K ρ H st) (r : rel ρ H a x) : Q x H := h ρ H x .refl s r
end
/-- the reading of a denotation -/
def RG {α β : Type} (X : Cx) (ex : Option Exn) (Wx : WX) (rel : List Addr → Hp → α → β → Prop) (m : D α) : L2.St → Hp → (β → Hp → Prop) → Prop := fun σ H Q =>
  ∃ ρ env st, StR X.K ρ H st ∧ EnvR X.K ex ρ H env σ ∧ Post X.K X.mg Wx rel ρ H σ (m env st) Q
abbrev IE (X : Cx) (ex : Option Exn) (Wx : WX) (e : Expr) (m : D W) : Prop := PE X e (RG X ex Wx (relV X.K) m)
abbrev IA (X : Cx) (ex : Option Exn) (Wx : WX) (es : List Expr) (m : D (List W)) : Prop := PA X es (RG X ex Wx (relVs X.K) m)
abbrev IT (X : Cx) (ex : Option Exn) (Wx : WX) (e : Expr) (m : D Bool) : Prop := PT X e (RG X ex Wx relE m)
abbrev IW (X : Cx) (ex : Option Exn) (Wx : WX) (e : Expr) (m : D Bool) : Prop := PW X e (RG X ex Wx relE m)
section
variable {X : Cx} {ex : Option Exn} {Wx : WX} {α β γ δ : Type}
theorem PE.of {e : Expr} {t t' : TE} (h : PE X e t) (w : ∀ σ H Q, t' σ H Q → t σ H Q) : PE X e t' := ⟨fun pins s σ H Q I q => h.run pins s σ H Q I (w _ _ _ q)⟩
theorem PT.of {e : Expr} {t t' : TT} (h : PT X e t) (w : ∀ σ H Q, t' σ H Q → t σ H Q) : PT X e t' := ⟨fun pins s σ H Q I q => h.run pins s σ H Q I (w _ _ _ q)⟩
theorem PW.of {e : Expr} {t t' : TT} (h : PW X e t) (w : ∀ σ H Q, t' σ H Q → t σ H Q) : PW X e t' := ⟨fun whole pins s σ H Q I q => h.run whole pins s σ H Q I (w _ _ _ q)⟩
theorem PA.of {es : List Expr} {t t' : TA} (h : PA X es t) (w : ∀ σ H Q, t' σ H Q → t σ H Q) : PA X es t' := ⟨fun pos pins s σ H Q I q => h.run pos pins s σ H Q I (w _ _ _ q)⟩
theorem PS.of {e : Stmt} {t t' : TS} (h : PS X e t) (w : ∀ D σ H, t' D σ H → t D σ H) : PS X e t' := ⟨fun pins s σ H D I q => h.run pins s σ H D I (w _ _ _ q)⟩
theorem PSs.of {e : List Stmt} {t t' : TS} (h : PSs X e t) (w : ∀ D σ H, t' D σ H → t D σ H) : PSs X e t' := ⟨fun pins s σ H D I q => h.run pins s σ H D I (w _ _ _ q)⟩
/-- one step of a reading: m's, then what k asks -/
theorem RG.bind {relA : List Addr → Hp → α → β → Prop} {relC : List Addr → Hp → γ → δ → Prop} {ρ : List Addr} {H : Hp} {σ : L2.St} {env : EnvW} {st : Store} {m : D α} {k : α → Store → Res γ} {Q : δ → Hp → Prop} {R : β → Hp → Prop}
    (s : StR X.K ρ H st) (e : EnvR X.K ex ρ H env σ) (h : Post X.K X.mg Wx relC ρ H σ ((m env st).bind k) Q)
    (hk : ∀ ρ1 H1 st1 a x, Grow ρ H ρ1 H1 → StR X.K ρ1 H1 st1 → EnvR X.K ex ρ1 H1 env σ → relA ρ1 H1 a x → Post X.K X.mg Wx relC ρ1 H1 σ (k a st1) Q → R x H1) : RG X ex Wx relA m σ H R := by
  refine ⟨ρ, env, st, s, e, ?_⟩
  generalize hm : m env st = r at h
  cases r with
  | ok a st' => exact fun ρ' H' x g s' r => hk ρ' H' st' a x g s' (e.grow s.apart g) r (Post.mono h g)
  | err c fs st' => exact h
  | stuck => exact h
end

/-! ### denotations -/
def dVar (i : Nat) : D W := fun env st => match env[i]? with
  | some (some w) => .ok w st
  | _ => .stuck
def dC (w : W) : D W := fun _ st => .ok w st
def dOp (f : W → W → Store → Res W) (ma mb : D W) : D W := fun env st => (ma env st).bind fun a st1 => (mb env st1).bind fun b st2 => f a b st2
def dUn (f : W → Store → Res W) (ma : D W) : D W := fun env st => (ma env st).bind fun a st1 => f a st1
def dIf (c : D Bool) (ma mb : D W) : D W := fun env st => (c env st).bind fun b st1 => if b = true then ma env st1 else mb env st1
def dNil : D (List W) := fun _ st => .ok [] st
def dCons (m : D W) (r : D (List W)) : D (List W) := fun env st => (m env st).bind fun a st1 => (r env st1).bind fun l st2 => .ok (a :: l) st2
def dTup (m : D (List W)) : D W := fun env st => (m env st).bind fun l st1 => if l.length ≤ sizeLine then .ok (.tup l) st1 else .stuck
def dLst (m : D (List W)) : D W := fun env st => (m env st).bind fun l st1 => if l.length ≤ sizeLine then .ok (.loc st1.length) (st1 ++ [.lst l]) else .stuck
def dApp (f : List W → Store → Res W) (m : D (List W)) : D W := fun env st => (m env st).bind fun l st1 => f l st1
/-- tests -/
def dBool (m : D W) : D Bool := fun env st => (m env st).bind fun a st1 => match a with
  | .bl b => .ok b st1
  | _ => .stuck
def dAnd (a b : D Bool) : D Bool := fun env st => (a env st).bind fun c st1 => if c = true then b env st1 else .ok false st1
def dOr (a b : D Bool) : D Bool := fun env st => (a env st).bind fun c st1 => if c = true then .ok true st1 else b env st1
def dNot (a : D Bool) : D Bool := fun env st => (a env st).bind fun c st1 => .ok (!c) st1
def dAndV (a b : D W) : D W := fun env st => (a env st).bind fun x st1 => match x with
  | .bl c => if c = true then b env st1 else .ok (.bl false) st1
  | _ => .stuck
def dOrV (a b : D W) : D W := fun env st => (a env st).bind fun x st1 => match x with
  | .bl c => if c = true then .ok (.bl true) st1 else b env st1
  | _ => .stuck
def dNotV (a : D W) : D W := fun env st => (a env st).bind fun x st1 => match x with
  | .bl c => .ok (.bl (!c)) st1
  | _ => .stuck
def dChain (f g : W → W → Store → Res W) (ma mb mc : D W) : D W := fun env st => (ma env st).bind fun a st1 => (mb env st1).bind fun b st2 => (f a b st2).bind fun x st3 => match x with
  | .bl true => (mc env st3).bind fun c st4 => g b c st4
  | .bl false => .ok (.bl false) st3
  | _ => .stuck

section
variable {X : Cx} {ex : Option Exn} {Wx : WX} {pos : Pos}
/-- a two-place operation by values -/
def OpOk (X : Cx) (r : R2) (f : W → W → Store → Res W) : Prop :=
  ∀ (Wx : WX) (ρ : List Addr) (H : Hp) (st : Store) (σ : L2.St) (a b : W) (x y : V) (Q : VK), StR X.K ρ H st → VR X.K ρ H a x → VR X.K ρ H b y → Post X.K X.mg Wx (relV X.K) ρ H σ (f a b st) Q → r x y H Q
def UnOk (X : Cx) (r : V → Hp → VK → Prop) (f : W → Store → Res W) : Prop :=
  ∀ (Wx : WX) (ρ : List Addr) (H : Hp) (st : Store) (σ : L2.St) (a : W) (x : V) (Q : VK), StR X.K ρ H st → VR X.K ρ H a x → Post X.K X.mg Wx (relV X.K) ρ H σ (f a st) Q → r x H Q
def CallOk (X : Cx) (r : List V → Hp → VK → Prop) (f : List W → Store → Res W) : Prop :=
  ∀ (Wx : WX) (ρ : List Addr) (H : Hp) (st : Store) (σ : L2.St) (l : List W) (vs : List V) (Q : VK), StR X.K ρ H st → VRs X.K ρ H l vs → Post X.K X.mg Wx (relV X.K) ρ H σ (f l st) Q → r vs H Q
theorem OpR.or {f : Value → Value → Sem Value} {r r' : R2} (h : OpR X f r) (h' : OpR X f r') : OpR X f (fun x y H Q => r x y H Q ∨ r' x y H Q) := fun pins s σ H x y v u Q I a b q => by
  rcases q with q | q
  · exact h pins s σ H x y v u Q I a b q
  · exact h' pins s σ H x y v u Q I a b q
theorem ie_var (i : Nat) {x : Str} (hN : X.N[i]? = some x := by rfl) (hv : Vis X.env.scope x := by first | exact Or.inl rfl | exact Or.inr (Or.inl rfl) | exact Or.inr (Or.inr rfl)) (hd : (x == ("__debug__" : Str)) = false := by decide)
    (hcd : (x == ("__classdict__" : Str)) = false := by decide) : IE X ex Wx (.Name x pos) (dVar i) := by
  refine PE.of (pe_var hN hv hd hcd) fun σ H Q ⟨ρ, env, st, s, e, p⟩ => ?_
  unfold dVar at p
  generalize hq : env[i]? = o at p
  match o, hq, p with
  | some (some w), hq, p =>
    obtain ⟨v, h1, h2⟩ := e.at_ i w hq
    exact ⟨v, h1, p.ok_ s h2⟩
  | some none, _, p => exact p.elim
  | none, _, p => exact p.elim
theorem ie_c {e : Expr} {v : V} {w : W} (h : PE X e (tC v)) (r : ∀ ρ H, VR X.K ρ H w v) : IE X ex Wx e (dC w) :=
  PE.of h fun σ H Q ⟨ρ, env, st, s, e, p⟩ => p.ok_ s (r ρ H)
theorem ie_op {a b : Expr} {op : Operator} {r : R2} {f : W → W → Store → Res W} {ma mb : D W} (ho : OpR X (binaryOp op) r) (hf : OpOk X r f) (ha : IE X ex Wx a ma) (hb : IE X ex Wx b mb) : IE X ex Wx (.BinOp a op b pos) (dOp f ma mb) :=
  PE.of (pe_op ho ha hb) fun σ H Q ⟨ρ, env, st, s, e, p⟩ => RG.bind s e p fun ρ1 H1 st1 a x g1 s1 e1 ra p1 => RG.bind s1 e1 p1 fun ρ2 H2 st2 b y g2 s2 e2 rb p2 =>
    hf Wx ρ2 H2 st2 σ a b x y Q s2 (VR.grow s1.apart g2 a x ra) rb p2
theorem ie_cmp {a b : Expr} {op : CmpOp} {r : R2} {f : W → W → Store → Res W} {ma mb : D W} (ho : OpR X (compareOp op) r) (hf : OpOk X r f) (ha : IE X ex Wx a ma) (hb : IE X ex Wx b mb) (hm : behindInMarks op b = false) : IE X ex Wx (.Compare a [op] [b] pos) (dOp f ma mb) :=
  PE.of (pe_cmpR ho ha hb hm) fun σ H Q ⟨ρ, env, st, s, e, p⟩ => RG.bind s e p fun ρ1 H1 st1 a x g1 s1 e1 ra p1 => RG.bind s1 e1 p1 fun ρ2 H2 st2 b y g2 s2 e2 rb p2 =>
    hf Wx ρ2 H2 st2 σ a b x y Q s2 (VR.grow s1.apart g2 a x ra) rb p2
/-- a value that is a bool, as a test -/
theorem dBool_step {m : D W} {σ : L2.St} {H : Hp} {Q : Bool → Hp → Prop} (h : RG X ex Wx relE (dBool m) σ H Q) : RG X ex Wx (relV X.K) m σ H fun x H' => ∃ k, x = .bl k ∧ Q k H' := by
  obtain ⟨ρ, env, st, s, e, p⟩ := h
  refine RG.bind s e p fun ρ1 H1 st1 a x g1 s1 e1 ra p1 => ?_
  cases a with
  | bl b =>
    simp only [VR] at ra
    exact ⟨b, ra, p1.ok_ s1 rfl⟩
  | _ => exact p1.elim
theorem it_cmp {a b : Expr} {op : CmpOp} {r : R2} {f : W → W → Store → Res W} {ma mb : D W} (ho : OpR X (compareOp op) r) (hf : OpOk X r f) (ha : IE X ex Wx a ma) (hb : IE X ex Wx b mb) (hm : behindInMarks op b = false) : IT X ex Wx (.Compare a [op] [b] pos) (dBool (dOp f ma mb)) :=
  PT.of (pt_cmpR ho ha hb hm) fun σ H Q h => by
    obtain ⟨ρ, env, st, s, e, p⟩ := dBool_step h
    exact RG.bind s e p fun ρ1 H1 st1 a x g1 s1 e1 ra p1 => RG.bind s1 e1 p1 fun ρ2 H2 st2 b y g2 s2 e2 rb p2 =>
      hf Wx ρ2 H2 st2 σ a b x y _ s2 (VR.grow s1.apart g2 a x ra) rb p2
theorem ie_un {a : Expr} {op : UnaryOp} {r : V → Hp → VK → Prop} {f : W → Store → Res W} {ma : D W} (ho : UnR X (unaryOp op) r) (hf : UnOk X r f) (ha : IE X ex Wx a ma) : IE X ex Wx (.UnaryOp op a pos) (dUn f ma) :=
  PE.of (pe_un ho ha) fun σ H Q ⟨ρ, env, st, s, e, p⟩ => RG.bind s e p fun ρ1 H1 st1 a x g1 s1 e1 ra p1 => hf Wx ρ1 H1 st1 σ a x Q s1 ra p1
theorem ie_if {c a b : Expr} {mc : D Bool} {ma mb : D W} (hc : IT X ex Wx c mc) (ha : IE X ex Wx a ma) (hb : IE X ex Wx b mb) : IE X ex Wx (.IfExp c a b pos) (dIf mc ma mb) :=
  PE.of (pe_ifExp hc ha hb) fun σ H Q ⟨ρ, env, st, s, e, p⟩ => RG.bind s e p fun ρ1 H1 st1 a x g1 s1 e1 ra p1 => by
    have ra' : a = x := ra
    subst ra'
    by_cases h : a = true
    · rw [if_pos h] at p1 ⊢; exact ⟨ρ1, env, st1, s1, e1, p1⟩
    · rw [if_neg h] at p1 ⊢; exact ⟨ρ1, env, st1, s1, e1, p1⟩
theorem ia_nil : IA X ex Wx [] dNil := PA.of pa_nil fun σ H Q ⟨ρ, env, st, s, e, p⟩ => p.ok_ s (by simp [VRs])
theorem ia_cons {e : Expr} {es : List Expr} {m : D W} {r : D (List W)} (he : IE X ex Wx e m) (hr : IA X ex Wx es r) (hs : starEach (e :: es) X.env = (false, eval e X.env) :: starEach es X.env := by rfl) : IA X ex Wx (e :: es) (dCons m r) :=
  PA.of (pa_cons he hr hs) fun σ H Q ⟨ρ, env, st, s, e, p⟩ => RG.bind s e p fun ρ1 H1 st1 a x g1 s1 e1 ra p1 => RG.bind s1 e1 p1 fun ρ2 H2 st2 l xs g2 s2 e2 rb p2 =>
    p2.ok_ s2 (VRs.cons' (VR.grow s1.apart g2 a x ra) rb)
theorem tup_new {ρ : List Addr} {H : Hp} {st : Store} {l : List W} {xs : List V} {p : Addr} (s : StR X.K ρ H st) (r : VRs X.K ρ H l xs) (hp : H p = none) : VR X.K ρ (upd H p (.tup xs)) (.tup l) (.ref p) := by
  simp only [VR]
  exact ⟨p, xs, rfl, .inl upd_same, VRs.grow s.apart (grow_imm hp) l xs r⟩
theorem lst_new {ρ : List Addr} {H : Hp} {st : Store} {l : List W} {xs : List V} {p : Addr} (s : StR X.K ρ H st) (r : VRs X.K ρ H l xs) (hp : H p = none) : StR X.K (ρ ++ [p]) (upd H p (.lst xs)) (st ++ [.lst l]) ∧ VR X.K (ρ ++ [p]) (upd H p (.lst xs)) (.loc st.length) (.ref p) := by
  have g : Grow ρ H (ρ ++ [p]) (upd H p (.lst xs)) := grow_new hp
  refine ⟨s.new hp g ⟨xs, upd_same, VRs.grow s.apart g l xs r⟩, ?_⟩
  simp only [VR]
  exact ⟨p, by rw [← s.len]; simp, rfl⟩
theorem ie_tup {es : List Expr} {m : D (List W)} {x1} (h : IA X ex Wx es m) : IE X ex Wx (.Tuple es x1 pos) (dTup m) :=
  PE.of (pe_tup h) fun σ H Q ⟨ρ, env, st, s, e, p⟩ => RG.bind s e p fun ρ1 H1 st1 l xs g1 s1 e1 r p1 => by
    by_cases hz : l.length ≤ sizeLine
    · rw [if_pos hz] at p1
      refine ⟨by rw [← VRs.length r]; exact hz, fun q hq => ?_⟩
      exact p1 ρ1 _ _ (grow_imm hq) (s1.grow_imm hq) (tup_new s1 r hq)
    · rw [if_neg hz] at p1; exact p1.elim
theorem ie_lst {es : List Expr} {m : D (List W)} (h : IA X ex Wx es m) : IE X ex Wx (.List es pos) (dLst m) :=
  PE.of (pe_lst h) fun σ H Q ⟨ρ, env, st, s, e, p⟩ => RG.bind s e p fun ρ1 H1 st1 l xs g1 s1 e1 r p1 => by
    by_cases hz : l.length ≤ sizeLine
    · rw [if_pos hz] at p1
      refine ⟨by rw [← VRs.length r]; exact hz, fun q hq => ?_⟩
      obtain ⟨a, b⟩ := lst_new s1 r hq
      exact p1 (ρ1 ++ [q]) _ _ (grow_new hq) a b
    · rw [if_neg hz] at p1; exact p1.elim
/-! tests -/
theorem iw_and1 {a : Expr} {m : D Bool} (ha : IT X ex Wx a m) : IW X ex Wx (.BoolOp .And [a] pos) m := pw_and1 ha
theorem iw_or1 {a : Expr} {m : D Bool} (ha : IT X ex Wx a m) : IW X ex Wx (.BoolOp .Or [a] pos) m := pw_or1 ha
theorem iw_and {a b : Expr} {rest : List Expr} {ma mb : D Bool} (ha : IT X ex Wx a ma) (hb : IW X ex Wx (.BoolOp .And (b :: rest) pos) mb) : IW X ex Wx (.BoolOp .And (a :: b :: rest) pos) (dAnd ma mb) :=
  PW.of (pw_and ha hb) fun σ H Q ⟨ρ, env, st, s, e, p⟩ => RG.bind s e p fun ρ1 H1 st1 a x g1 s1 e1 ra p1 => by
    have ra' : a = x := ra
    subst ra'
    by_cases h : a = true
    · rw [if_pos h] at p1 ⊢; exact ⟨ρ1, env, st1, s1, e1, p1⟩
    · rw [if_neg h] at p1 ⊢; exact p1.ok_ s1 rfl
theorem iw_or {a b : Expr} {rest : List Expr} {ma mb : D Bool} (ha : IT X ex Wx a ma) (hb : IW X ex Wx (.BoolOp .Or (b :: rest) pos) mb) : IW X ex Wx (.BoolOp .Or (a :: b :: rest) pos) (dOr ma mb) :=
  PW.of (pw_or ha hb) fun σ H Q ⟨ρ, env, st, s, e, p⟩ => RG.bind s e p fun ρ1 H1 st1 a x g1 s1 e1 ra p1 => by
    have ra' : a = x := ra
    subst ra'
    by_cases h : a = true
    · rw [if_pos h] at p1 ⊢; exact p1.ok_ s1 rfl
    · rw [if_neg h] at p1 ⊢; exact ⟨ρ1, env, st1, s1, e1, p1⟩
theorem it_w {e : Expr} {m : D Bool} (h : IW X ex Wx e m) : IT X ex Wx e m := PW.pt h
theorem it_not {a : Expr} {m : D Bool} (ha : IT X ex Wx a m) : IT X ex Wx (.UnaryOp .Not a pos) (dNot m) :=
  PT.of (pt_not ha) fun σ H Q ⟨ρ, env, st, s, e, p⟩ => RG.bind s e p fun ρ1 H1 st1 a x g1 s1 e1 ra p1 => by
    have ra' : a = x := ra
    subst ra'
    exact p1.ok_ s1 rfl
/-! as values -/
theorem ie_one {a : Expr} {op} {m : D W} (ha : IE X ex Wx a m) : IE X ex Wx (.BoolOp op [a] pos) m := pe_one ha
theorem ie_and {a b : Expr} {rest : List Expr} {ma mb : D W} (ha : IE X ex Wx a ma) (hb : IE X ex Wx (.BoolOp .And (b :: rest) pos) mb) : IE X ex Wx (.BoolOp .And (a :: b :: rest) pos) (dAndV ma mb) :=
  PE.of (pe_and ha hb) fun σ H Q ⟨ρ, env, st, s, e, p⟩ => RG.bind s e p fun ρ1 H1 st1 a x g1 s1 e1 ra p1 => by
    cases a with
    | bl c =>
      simp only [VR] at ra
      refine ⟨c, ra, ?_⟩
      simp only at p1
      by_cases h : c = true
      · rw [if_pos h] at p1 ⊢; exact ⟨ρ1, env, st1, s1, e1, p1⟩
      · rw [if_neg h] at p1 ⊢; exact p1.ok_ s1 (by simp [VR])
    | _ => exact p1.elim
theorem ie_or {a b : Expr} {rest : List Expr} {ma mb : D W} (ha : IE X ex Wx a ma) (hb : IE X ex Wx (.BoolOp .Or (b :: rest) pos) mb) : IE X ex Wx (.BoolOp .Or (a :: b :: rest) pos) (dOrV ma mb) :=
  PE.of (pe_or ha hb) fun σ H Q ⟨ρ, env, st, s, e, p⟩ => RG.bind s e p fun ρ1 H1 st1 a x g1 s1 e1 ra p1 => by
    cases a with
    | bl c =>
      simp only [VR] at ra
      refine ⟨c, ra, ?_⟩
      simp only at p1
      by_cases h : c = true
      · rw [if_pos h] at p1 ⊢; exact p1.ok_ s1 (by simp [VR])
      · rw [if_neg h] at p1 ⊢; exact ⟨ρ1, env, st1, s1, e1, p1⟩
    | _ => exact p1.elim
theorem ie_notV {a : Expr} {ma : D W} (ha : IE X ex Wx a ma) : IE X ex Wx (.UnaryOp .Not a pos) (dNotV ma) :=
  PE.of (pe_not ha) fun σ H Q ⟨ρ, env, st, s, e, p⟩ => RG.bind s e p fun ρ1 H1 st1 a x g1 s1 e1 ra p1 => by
    cases a with
    | bl c =>
      simp only [VR] at ra
      exact ⟨c, ra, p1.ok_ s1 (by simp [VR])⟩
    | _ => exact p1.elim
theorem ie_chain {a b c : Expr} {op op' : CmpOp} {r r' : R2} {f g : W → W → Store → Res W} {ma mb mc : D W} (ho : OpR X (compareOp op) r) (hf : OpOk X r f) (ho' : OpR X (compareOp op') r') (hg : OpOk X r' g) (ha : IE X ex Wx a ma) (hb : IE X ex Wx b mb) (hc : IE X ex Wx c mc)
    (hm : lastMarks [op, op'] [b, c] = false := by with_unfolding_all rfl) : IE X ex Wx (.Compare a [op, op'] [b, c] pos) (dChain f g ma mb mc) := by
  refine PE.of (pe_chain ho ho' ha hb hc hm) fun σ H Q ⟨ρ, env, st, s, e, p⟩ => RG.bind s e p fun ρ1 H1 st1 a x g1 s1 e1 ra p1 => RG.bind s1 e1 p1 fun ρ2 H2 st2 b y g2 s2 e2 rb p2 => ?_
  refine hf Wx ρ2 H2 st2 σ a b x y _ s2 (VR.grow s1.apart g2 a x ra) rb ?_
  generalize f a b st2 = q at p2
  cases q with
  | stuck => exact p2
  | err c fs st' => exact p2
  | ok z st3 =>
    intro ρ3 H3 zv g3 s3 rz
    simp only [Res.bind_ok] at p2
    cases z with
    | bl k =>
      simp only [relV, VR] at rz
      refine ⟨k, rz, ?_⟩
      cases k with
      | true =>
        rw [if_pos rfl]
        simp only at p2
        exact RG.bind s3 (e2.grow s2.apart g3) (Post.mono p2 g3) fun ρ4 H4 st4 c z g4 s4 e4 rc p4 => hg Wx ρ4 H4 st4 σ b c y z Q s4 (VR.grow s3.apart g4 b y (VR.grow s2.apart g3 b y rb)) rc p4
      | false =>
        rw [if_neg (by decide)]
        simp only at p2
        exact (Post.mono p2 g3).ok_ s3 (by simp [VR])
    | _ => exact p2.elim
end
end MP
namespace MP
open PySem PySem.Spec PyProof.Rows L2

/-! ### statements -/
inductive Fl where
  | nx | rt (v : W) | bk | ct
inductive RsS where
  | go (f : Fl) (env : EnvW) (st : Store)
  | err (c : Str) (fs : W) (env : EnvW) (st : Store)
  | stuck
abbrev DS := EnvW → Store → RsS
abbrev DT := W → EnvW → Store → Option (EnvW × Store)
/-- an expression's result, then a statement's -/
def Res.then {α : Type} (r : Res α) (env : EnvW) (k : α → Store → RsS) : RsS := match r with
  | .ok a st => k a st
  | .err c fs st => .err c fs env st
  | .stuck => .stuck
@[simp] theorem Res.then_ok {α : Type} (a : α) (st : Store) (env : EnvW) (k : α → Store → RsS) : (Res.ok a st).then env k = k a st := rfl
@[simp] theorem Res.then_err {α : Type} (c : Str) (fs : W) (st : Store) (env : EnvW) (k : α → Store → RsS) : (Res.err c fs st : Res α).then env k = .err c fs env st := rfl
@[simp] theorem Res.then_stuck {α : Type} (env : EnvW) (k : α → Store → RsS) : (Res.stuck : Res α).then env k = .stuck := rfl
def RsS.next (r : RsS) (k : EnvW → Store → RsS) : RsS := match r with
  | .go .nx env st => k env st
  | r => r
@[simp] theorem RsS.next_nx (env : EnvW) (st : Store) (k) : (RsS.go .nx env st).next k = k env st := rfl
@[simp] theorem RsS.next_rt (v : W) (env : EnvW) (st : Store) (k) : (RsS.go (.rt v) env st).next k = .go (.rt v) env st := rfl
@[simp] theorem RsS.next_bk (env : EnvW) (st : Store) (k) : (RsS.go .bk env st).next k = .go .bk env st := rfl
@[simp] theorem RsS.next_ct (env : EnvW) (st : Store) (k) : (RsS.go .ct env st).next k = .go .ct env st := rfl
@[simp] theorem RsS.next_err (c : Str) (fs : W) (env : EnvW) (st : Store) (k) : (RsS.err c fs env st).next k = .err c fs env st := rfl
@[simp] theorem RsS.next_stuck (k) : (RsS.stuck).next k = .stuck := rfl
def PostF (K : PySem.W.Frag) (D : Ends) (ρ : List Addr) (H : Hp) (σ : L2.St) : Fl → Prop
  | .nx => D.nx σ H
  | .bk => D.bk σ H
  | .ct => D.ct σ H
  | .rt v => ∀ x, VR K ρ H v x → D.rt x H
def PostS (K : PySem.W.Frag) (ex : Option Exn) (mg : Str → Option Value) (Wx : WX) (D : Ends) (ρ : List Addr) (H : Hp) (r : RsS) : Prop := match r with
  | .go f env' st' => ∀ ρ' H' σ', Grow ρ H ρ' H' → StR K ρ' H' st' → EnvR K ex ρ' H' env' σ' → PostF K D ρ' H' σ' f
  | .err c fs env' st' => ∀ ρ' H' σ' cls d, Grow ρ H ρ' H' → StR K ρ' H' st' → EnvR K ex ρ' H' env' σ' → ErR K mg ρ' H' c fs cls d → Wx cls d σ' H'
  | .stuck => False
section
variable {K : PySem.W.Frag} {ex : Option Exn} {mg : Str → Option Value} {Wx : WX} {ρ ρ1 : List Addr} {H H1 : Hp} {De : Ends}
theorem PostS.mono {r : RsS} (h : PostS K ex mg Wx De ρ H r) (g : Grow ρ H ρ1 H1) : PostS K ex mg Wx De ρ1 H1 r := by
  cases r with
  | go f env st => exact fun ρ' H' σ' g' => h ρ' H' σ' (g.trans g')
  | err c fs env st => exact fun ρ' H' σ' cls d g' => h ρ' H' σ' cls d (g.trans g')
  | stuck => exact h
theorem PostS.go_ {f : Fl} {env : EnvW} {st : Store} {σ : L2.St} (h : PostS K ex mg Wx De ρ H (.go f env st)) (s : StR K ρ H st) (e : EnvR K ex ρ H env σ) : PostF K De ρ H σ f := h ρ H σ .refl s e
end
def RS (X : Cx) (ex : Option Exn) (Wx : WX) (m : DS) : TS := fun D σ H => ∃ ρ env st, StR X.K ρ H st ∧ EnvR X.K ex ρ H env σ ∧ PostS X.K ex X.mg Wx D ρ H (m env st)
abbrev IS (X : Cx) (ex : Option Exn) (Wx : WX) (s : Stmt) (m : DS) : Prop := PS X s (RS X ex Wx m)
abbrev ISs (X : Cx) (ex : Option Exn) (Wx : WX) (s : List Stmt) (m : DS) : Prop := PSs X s (RS X ex Wx m)
theorem wipe_set {σ : L2.St} {i : Nat} {v : Option V} : ∀ {vs : List Nat}, i ∈ vs → wipe (σ.set i v) vs = wipe σ vs
  | [], h => nomatch h
  | j :: vs, h => by
    show (wipe (σ.set i v) vs).set j none = (wipe σ vs).set j none
    by_cases hj : i ∈ vs
    · rw [wipe_set hj]
    · have hij : i = j := by
        rcases List.mem_cons.mp h with h | h
        · exact h
        · exact absurd h hj
      subst hij
      have : ∀ (l : List Nat), i ∉ l → wipe (σ.set i v) l = (wipe σ l).set i v := by
        intro l
        induction l with
        | nil => intro _; rfl
        | cons k l ih =>
          intro hn
          have hk : i ≠ k := fun z => hn (z ▸ List.mem_cons_self)
          show (wipe (σ.set i v) l).set k none = ((wipe σ l).set k none).set i v
          rw [ih (fun z => hn (List.mem_cons_of_mem _ z)), List.set_comm _ _ hk]
      rw [this vs hj, List.set_set]
theorem wipe_wipe {σ : L2.St} {vs : List Nat} : wipe (wipe σ vs) vs = wipe σ vs := by
  have : ∀ (l : List Nat) (τ : L2.St), (∀ i ∈ l, i ∈ vs) → wipe (wipe τ l) vs = wipe τ vs := by
    intro l
    induction l with
    | nil => intro τ _; rfl
    | cons k l ih =>
      intro τ h
      show wipe ((wipe τ l).set k none) vs = wipe τ vs
      rw [wipe_set (h k List.mem_cons_self), ih τ fun i hi => h i (List.mem_cons_of_mem _ hi)]
  exact this vs σ fun _ h => h
/-- a target's reading: of the slots only those at vs may change -/
def RT (X : Cx) (ex : Option Exn) (vs : List Nat) (t : DT) : TG := fun v σ H Q => ∃ ρ env st w, StR X.K ρ H st ∧ EnvR X.K ex ρ H env σ ∧ VR X.K ρ H w v ∧ ∃ env' st', t w env st = some (env', st') ∧ ∀ ρ' H' σ', Grow ρ H ρ' H' → StR X.K ρ' H' st' → EnvR X.K ex ρ' H' env' σ' → wipe σ' vs = wipe σ vs → Q σ' H'
abbrev IG (X : Cx) (ex : Option Exn) (vs : List Nat) (e : Expr) (t : DT) : Prop := PG X e (RT X ex vs t)

/-! denotations -/
def sSeq (a b : DS) : DS := fun env st => (a env st).next b
def sNil : DS := fun env st => .go .nx env st
def sExpr (m : D W) : DS := fun env st => (m env st).then env fun _ st1 => .go .nx env st1
def sRet (m : D W) : DS := fun env st => (m env st).then env fun a st1 => .go (.rt a) env st1
def sRetN : DS := fun env st => .go (.rt .non) env st
def sBk : DS := fun env st => .go .bk env st
def sCt : DS := fun env st => .go .ct env st
def sIf (c : D Bool) (a b : DS) : DS := fun env st => (c env st).then env fun k st1 => if k = true then a env st1 else b env st1
def sNever : DS := fun _ _ => .stuck
def sAsg (m : D W) (t : DT) : DS := fun env st => (m env st).then env fun a st1 => match t a env st1 with
  | some (env', st2) => .go .nx env' st2
  | none => .stuck
def tName (i : Nat) : DT := fun w env st => some (env.set i (some w), st)
def tAll : List DT → List W → EnvW → Store → Option (EnvW × Store)
  | [], [], env, st => some (env, st)
  | t :: ts, w :: ws, env, st => (t w env st).bind fun p => tAll ts ws p.1 p.2
  | _, _, _, _ => none
def tTupT (ts : List DT) : DT := fun w env st => match w with
  | .tup ws => tAll ts ws env st
  | _ => none

section
variable {X : Cx} {ex : Option Exn} {Wx : WX} {pos : Pos} {α β : Type}
/-- an expression within a statement -/
theorem RS.step {rel : List Addr → Hp → α → β → Prop} {De : Ends} {ρ : List Addr} {H : Hp} {σ : L2.St} {env : EnvW} {st : Store} {m : D α} {k : α → Store → RsS} {R : β → Hp → Prop}
    (s : StR X.K ρ H st) (e : EnvR X.K ex ρ H env σ) (h : PostS X.K ex X.mg Wx De ρ H ((m env st).then env k))
    (hk : ∀ ρ1 H1 st1 a x, Grow ρ H ρ1 H1 → StR X.K ρ1 H1 st1 → EnvR X.K ex ρ1 H1 env σ → rel ρ1 H1 a x → PostS X.K ex X.mg Wx De ρ1 H1 (k a st1) → R x H1) : RG X ex Wx rel m σ H R := by
  refine ⟨ρ, env, st, s, e, ?_⟩
  generalize hm : m env st = r at h
  cases r with
  | ok a st' => exact fun ρ' H' x g s' r => hk ρ' H' st' a x g s' (e.grow s.apart g) r (PostS.mono h g)
  | err c fs st' => exact fun ρ' H' cls d g s' r => h ρ' H' σ cls d g s' (e.grow s.apart g) r
  | stuck => exact h
/-- the first of two statements -/
theorem PostS.seq {De : Ends} {ρ : List Addr} {H : Hp} {r : RsS} {k : DS} (h : PostS X.K ex X.mg Wx De ρ H (r.next k)) : PostS X.K ex X.mg Wx { De with nx := RS X ex Wx k De } ρ H r := by
  cases r with
  | stuck => exact h
  | err c fs env st => exact h
  | go f env st =>
    cases f with
    | nx => exact fun ρ' H' σ' g s e => ⟨ρ', env, st, s, e, PostS.mono h g⟩
    | rt v => exact h
    | bk => exact h
    | ct => exact h
theorem is_cons {a : Stmt} {rest : List Stmt} {m k : DS} (ha : IS X ex Wx a m) (hr : ISs X ex Wx rest k) : ISs X ex Wx (a :: rest) (sSeq m k) :=
  PSs.of (pss_cons ha hr) fun D σ H ⟨ρ, env, st, s, e, p⟩ => ⟨ρ, env, st, s, e, PostS.seq p⟩
theorem is_one {a : Stmt} {m : DS} (ha : IS X ex Wx a m) : ISs X ex Wx [a] m := pss_one ha
theorem is_nil : ISs X ex Wx [] sNil := PSs.of pss_nil fun D σ H ⟨ρ, env, st, s, e, p⟩ => p.go_ s e
theorem is_never {a : Stmt} : IS X ex Wx a sNever := PS.of ps_never fun D σ H ⟨ρ, env, st, s, e, p⟩ => p
theorem is_neverS {a : List Stmt} : ISs X ex Wx a sNever := PSs.of pss_never fun D σ H ⟨ρ, env, st, s, e, p⟩ => p
theorem is_pass : IS X ex Wx (.Pass pos) sNil := PS.of ps_pass fun D σ H ⟨ρ, env, st, s, e, p⟩ => p.go_ s e
theorem is_break : IS X ex Wx (.Break pos) sBk := PS.of ps_break fun D σ H ⟨ρ, env, st, s, e, p⟩ => p.go_ s e
theorem is_continue : IS X ex Wx (.Continue pos) sCt := PS.of ps_continue fun D σ H ⟨ρ, env, st, s, e, p⟩ => p.go_ s e
theorem is_expr {e : Expr} {m : D W} (he : IE X ex Wx e m) (hs : swapsWith e none pos.line X.env = pure false := by rfl) : IS X ex Wx (.Expr e pos) (sExpr m) :=
  PS.of (ps_expr he hs) fun De σ H ⟨ρ, env, st, s, e, p⟩ => RS.step s e p fun ρ1 H1 st1 a x g s1 e1 r p1 => PostS.go_ (f := .nx) p1 s1 e1
theorem is_ret {e : Expr} {m : D W} (he : IE X ex Wx e m) : IS X ex Wx (.Return (some e) pos) (sRet m) :=
  PS.of (ps_ret he) fun D σ H ⟨ρ, env, st, s, e, p⟩ => RS.step s e p fun ρ1 H1 st1 a x g s1 e1 r p1 => PostS.go_ (f := .rt a) p1 s1 e1 x r
theorem is_retN : IS X ex Wx (.Return none pos) sRetN := PS.of ps_retN fun D σ H ⟨ρ, env, st, s, e, p⟩ => p.go_ s e .non (by simp [VR])
theorem is_if {c : Expr} {a b : List Stmt} {mc : D Bool} {ma mb : DS} (hc : IT X ex Wx c mc) (ha : ISs X ex Wx a ma) (hb : ISs X ex Wx b mb) : IS X ex Wx (.If c a b pos) (sIf mc ma mb) :=
  PS.of (ps_if hc ha hb) fun D σ H ⟨ρ, env, st, s, e, p⟩ => RS.step (rel := relE) s e p fun ρ1 H1 st1 k x g s1 e1 r p1 => by
    have r' : k = x := r
    subst r'
    by_cases h : k = true
    · rw [if_pos h] at p1 ⊢; exact ⟨ρ1, env, st1, s1, e1, p1⟩
    · rw [if_neg h] at p1 ⊢; exact ⟨ρ1, env, st1, s1, e1, p1⟩
/-! targets -/
theorem ig_name {vs : List Nat} {i : Nat} {x : Str} (hv : i ∈ vs) (hx0 : ExOk ex i := by exact ExOk.none) (hN : X.N.Nodup) (hi : X.N[i]? = some x) (hx : Loc X.env.scope x) (hf : X.fn x = true ∨ X.env.scope.names.lookup x = some .local := by first | exact .inl rfl | exact .inr rfl | assumption) : IG X ex vs (.Name x pos) (tName i) :=
  ⟨fun pins s σ H v u Q I r h => (pg_name hN hi hx hf).run pins s σ H v u Q I r (by
    obtain ⟨ρ, env, st, w, s, e, rv, env', st', q, p⟩ := h
    cases q
    exact p ρ H _ .refl s (e.set hx0 rv) (wipe_set hv))⟩
theorem is_asg {vs : List Nat} {tg e : Expr} {m : D W} {t : DT} (he : IE X ex Wx e m) (hg : IG X ex vs tg t) (hs : swapsWithSole [tg] e pos.line X.env = pure false := by rfl) (hw : swappedStores [tg] e X.env = pure none := by rfl)
    (h1 : (assignEach [tg] X.env).map (·.2) = [assign tg X.env] := by rfl) : IS X ex Wx (.Assign [tg] e pos) (sAsg m t) :=
  PS.of (ps_asg he hg hs hw h1) fun D σ H ⟨ρ, env, st, s, e, p⟩ => RS.step s e p fun ρ1 H1 st1 a x g s1 e1 r p1 => by
    refine ⟨ρ1, env, st1, a, s1, e1, r, ?_⟩
    generalize t a env st1 = q at p1
    match q, p1 with
    | some (env', st'), p1 => exact ⟨env', st', rfl, fun ρ' H' σ' g' s' e' _ => p1 ρ' H' σ' g' s' e'⟩
    | none, p1 => exact p1.elim
theorem is_set {i : Nat} {x : Str} {e : Expr} {m : D W} {pos' : Pos} (hx0 : ExOk ex i) (hN : X.N.Nodup) (hi : X.N[i]? = some x) (hx : Loc X.env.scope x) (he : IE X ex Wx e m) (hs : swapsWith e (some (.Name x pos')) pos.line X.env = pure false := by rfl)
    (hf : X.fn x = true ∨ X.env.scope.names.lookup x = some .local := by first | exact .inl rfl | exact .inr rfl | assumption) : IS X ex Wx (.Assign [.Name x pos'] e pos) (sAsg m (tName i)) :=
  PS.of (ps_set hN hi hx he hs hf) fun D σ H ⟨ρ, env, st, s, e, p⟩ => RS.step s e p fun ρ1 H1 st1 a x g s1 e1 r p1 => PostS.go_ p1 s1 (e1.set hx0 r)
/-- several targets by the parts of a tuple -/
def RTs (X : Cx) (ex : Option Exn) (vl : List Nat) (ts : List DT) : TGs := fun vs σ H Q => ∃ ρ env st ws, StR X.K ρ H st ∧ EnvR X.K ex ρ H env σ ∧ VRs X.K ρ H ws vs ∧
  ∃ env' st', tAll ts ws env st = some (env', st') ∧ ∀ ρ' H' σ', Grow ρ H ρ' H' → StR X.K ρ' H' st' → EnvR X.K ex ρ' H' env' σ' → wipe σ' vl = wipe σ vl → Q σ' H'
abbrev IGs (X : Cx) (ex : Option Exn) (vl : List Nat) (es : List Expr) (ts : List DT) : Prop := PGs X es (RTs X ex vl ts)
theorem PGs.of {es : List Expr} {t t' : TGs} (h : PGs X es t) (w : ∀ vs σ H Q, t' vs σ H Q → t vs σ H Q) : PGs X es t' := ⟨fun pins s σ H vs us Q I r q => h.run pins s σ H vs us Q I r (w _ _ _ _ q)⟩
theorem PG.of {e : Expr} {t t' : TG} (h : PG X e t) (w : ∀ v σ H Q, t' v σ H Q → t v σ H Q) : PG X e t' := ⟨fun pins s σ H v u Q I r q => h.run pins s σ H v u Q I r (w _ _ _ _ q)⟩
theorem igs_nil {vl : List Nat} : IGs X ex vl [] [] := PGs.of pgs_nil fun vs σ H Q ⟨ρ, env, st, ws, s, e, r, env', st', q, p⟩ => by
  cases ws with
  | nil =>
    simp only [VRs] at r
    simp only [tAll, Option.some.injEq, Prod.mk.injEq] at q
    obtain ⟨rfl, rfl⟩ := q
    exact ⟨r, p ρ H σ .refl s e rfl⟩
  | cons w ws => simp [tAll] at q
theorem igs_cons {vl : List Nat} {e : Expr} {es : List Expr} {t : DT} {ts : List DT} (h1 : IG X ex vl e t) (h2 : IGs X ex vl es ts) (hs : (assignEach (e :: es) X.env).map (·.2) = assign e X.env :: (assignEach es X.env).map (·.2) := by rfl) : IGs X ex vl (e :: es) (t :: ts) :=
  PGs.of (pgs_cons h1 h2 hs) fun vs σ H Q ⟨ρ, env, st, ws, s, e, r, env', st', q, p⟩ => by
    cases ws with
    | nil => simp [tAll] at q
    | cons w ws =>
      simp only [VRs] at r
      obtain ⟨u, us, rfl, ru, rs⟩ := r
      unfold tAll at q
      cases ht : t w env st with
      | none => rw [ht] at q; cases q
      | some pr =>
        obtain ⟨env1, st1⟩ := pr
        rw [ht] at q
        refine ⟨u, us, rfl, ρ, env, st, w, s, e, ru, env1, st1, ht, fun ρ1 H1 σ1 g s1 e1 w1 => ?_⟩
        exact ⟨ρ1, env1, st1, ws, s1, e1, VRs.grow s.apart g ws us rs, env', st', q, fun ρ' H' σ' g' s' e' w' => p ρ' H' σ' (g.trans g') s' e' (w'.trans w1)⟩
theorem tAll_len : ∀ {ts : List DT} {ws : List W} {env : EnvW} {st : Store} {r : EnvW × Store}, tAll ts ws env st = some r → ws.length = ts.length
  | [], [], _, _, _, _ => rfl
  | [], _ :: _, _, _, _, h => by simp [tAll] at h
  | _ :: _, [], _, _, _, h => by simp [tAll] at h
  | t :: ts, w :: ws, env, st, r, h => by
    unfold tAll at h
    cases ht : t w env st with
    | none => rw [ht] at h; cases h
    | some pr => rw [ht] at h; simp [tAll_len (show tAll ts ws pr.1 pr.2 = some r from h)]
theorem ig_tup {vl : List Nat} {es : List Expr} {k : Nat} {ts : List DT} (hc : X.calm = true) (h : IGs X ex vl es ts) (hn : (assignEach es X.env).length = ts.length := by rfl) (hst : (assignEach es X.env).findIdx? (·.1) = none := by rfl) : IG X ex vl (.Tuple es k pos) (tTupT ts) :=
  PG.of (pg_tup hc h hn hst) fun v σ H Q ⟨ρ, env, st, w, s, e, r, env', st', q, p⟩ => by
    cases w with
    | tup ws =>
      simp only [VR] at r
      obtain ⟨a, us, rfl, ht, rs⟩ := r
      have q' : tAll ts ws env st = some (env', st') := q
      exact ⟨a, us, rfl, ht.sq, by rw [← VRs.length rs, tAll_len q'], ρ, env, st, ws, s, e, rs, env', st', q', p⟩
    | _ => simp [tTupT] at q
end
end MP
namespace MP
open PySem PySem.Spec PyProof.Rows L2
open Classical
noncomputable section

/-! ### what is walked -/
structure ItW where
  items : List W
  src : Option Nat
/-- the list that is walked stands as it stood -/
def ItW.Chk (it : ItW) (st : Store) : Prop := match it.src with
  | none => True
  | some n => st[n]? = some (.lst it.items)
@[simp] theorem ItW.chk_none (l : List W) (st : Store) : ItW.Chk ⟨l, none⟩ st = True := rfl
@[simp] theorem ItW.chk_some (l : List W) (n : Nat) (st : Store) : ItW.Chk ⟨l, some n⟩ st = (st[n]? = some (.lst l)) := rfl
def signs (x : Str) : List W := x.cps.toList.map fun c => .str ⟨#[c]⟩
def intsW (lo : Int) (n : Nat) : List W := (List.range n).map fun i => .int (lo + (i : Nat))
def itOf (a : W) (st : Store) : Res ItW := match a with
  | .tup xs => .ok ⟨xs, none⟩ st
  | .fro xs => .ok ⟨xs, none⟩ st
  | .str x => .ok ⟨signs x, none⟩ st
  | .loc n => match st[n]? with
    | some (.lst xs) => .ok ⟨xs, some n⟩ st
    | none => .stuck
  | .rng lo hi => if -(2 ^ 62) ≤ lo ∧ lo < 2 ^ 62 ∧ -(2 ^ 62) ≤ hi ∧ hi < 2 ^ 62 then .ok ⟨intsW lo (hi - lo).toNat, none⟩ st else .stuck
  | _ => .stuck
def dIt (m : D W) : D ItW := fun env st => (m env st).bind fun a st1 => itOf a st1
def rangeW (lo hi : Int) (st : Store) : Res ItW := if -(2 ^ 62) ≤ lo ∧ lo < 2 ^ 62 ∧ -(2 ^ 62) ≤ hi ∧ hi < 2 ^ 62 then .ok ⟨intsW lo (hi - lo).toNat, none⟩ st else .stuck
def rangeOf (l : List W) (st : Store) : Res ItW := match l with
  | [.int j] => rangeW 0 j st
  | [.int i, .int j] => rangeW i j st
  | _ => .stuck
def dRange (m : D (List W)) : D ItW := fun env st => (m env st).bind fun l st1 => rangeOf l st1
def dRange1 (m : D (List W)) : D ItW := dRange (fun env st => (m env st).bind fun l st1 => match l with | [.int j] => .ok [.int j] st1 | _ => .stuck)
def dRange2 (m : D (List W)) : D ItW := dRange (fun env st => (m env st).bind fun l st1 => match l with | [.int i, .int j] => .ok [.int i, .int j] st1 | _ => .stuck)
def forW (chk : Store → Prop) (t : DT) (b : DS) : List W → DS
  | [], env, st => if chk st then .go .nx env st else .stuck
  | w :: ws, env, st => if chk st then
      match t w env st with
      | none => .stuck
      | some (env1, st1) => match b env1 st1 with
        | .go .nx env2 st2 => forW chk t b ws env2 st2
        | .go .ct env2 st2 => forW chk t b ws env2 st2
        | .go .bk env2 st2 => .go .nx env2 st2
        | r => r
    else .stuck
def sFor (m : D ItW) (t : DT) (b : DS) : DS := fun env st => (m env st).then env fun it st1 => forW it.Chk t b it.items env st1
def whileF (c : D Bool) (b : DS) : Nat → DS
  | 0, _, _ => .stuck
  | n + 1, env, st => (c env st).then env fun k st1 => if k = true then
      match b env st1 with
      | .go .nx env2 st2 => whileF c b n env2 st2
      | .go .ct env2 st2 => whileF c b n env2 st2
      | .go .bk env2 st2 => .go .nx env2 st2
      | r => r
    else .go .nx env st1
def sWhile (c : D Bool) (b : DS) : DS := fun env st => if h : ∃ n, whileF c b n env st ≠ .stuck then whileF c b h.choose env st else .stuck
/-- a comprehension's elements -/
def wipeW (env : EnvW) : List Nat → EnvW
  | [] => env
  | v :: vs => (wipeW env vs).set v none
def lcW (chk : Store → Prop) (env : EnvW) (t : DT) (c : D Bool) (e : D W) : List W → List W → Store → Option (List W × Store)
  | [], acc, st => if chk st then some (acc, st) else none
  | w :: ws, acc, st => if chk st then
      match t w env st with
      | none => none
      | some (env1, st1) => match c env1 st1 with
        | .ok true st2 => match e env1 st2 with
          | .ok y st3 => if acc.length < sizeLine then lcW chk env t c e ws (acc ++ [y]) st3 else none
          | _ => none
        | .ok false st2 => lcW chk env t c e ws acc st2
        | _ => none
    else none
def dYes : D Bool := fun _ st => .ok true st
def dLc (m : D ItW) (vs : List Nat) (t : DT) (c : D Bool) (e : D W) : D W := fun env st => (m env st).bind fun it st1 =>
  match lcW it.Chk (wipeW env vs) t c e it.items [] st1 with
  | some (acc, st2) => .ok (.loc st2.length) (st2 ++ [.lst acc])
  | none => .stuck

section
variable {X : Cx} {ex : Option Exn} {Wx : WX} {pos : Pos}
/-- an iterator walks these things -/
def relI (X : Cx) : List Addr → Hp → ItW → It → Prop := fun ρ0 H0 it J =>
  ∀ ρ H st, Grow ρ0 H0 ρ H → StR X.K ρ H st → it.Chk st → ∀ i, (∀ w, it.items[i]? = some w → J.go i H ∧ ∀ x H', J.yld i H x H' → Grow ρ H ρ H' ∧ StR X.K ρ H' st ∧ VR X.K ρ H' w x) ∧ (it.items.length ≤ i → J.stop i H)
abbrev II (X : Cx) (ex : Option Exn) (Wx : WX) (tg e : Expr) (m : D ItW) : Prop := PI X tg e (RG X ex Wx (relI X) m)
theorem PI.of {tg e : Expr} {t t' : TI} (h : PI X tg e t) (w : ∀ σ H R, t' σ H R → t σ H R) : PI X tg e t' := ⟨fun pins s σ H R I q => h.run pins s σ H R I (w _ _ _ q)⟩
theorem PI.or {tg e : Expr} {t t' : TI} (h : PI X tg e t) (h' : PI X tg e t') : PI X tg e (fun σ H R => t σ H R ∨ t' σ H R) := ⟨fun pins s σ H R I q => by
  rcases q with q | q
  · exact h.run pins s σ H R I q
  · exact h'.run pins s σ H R I q⟩
theorem relI_list {ρ : List Addr} {H : Hp} {st : Store} {ws : List W} {us : List V} {a : Addr} (s : StR X.K ρ H st) (ht : SqF X.K H a us) (r : VRs X.K ρ H ws us) : relI X ρ H ⟨ws, none⟩ (Itl X.K a) := by
  intro ρ' H' st' g s' _ i
  have h' := ht.grow s.apart g
  have r' := VRs.grow s.apart g ws us r
  refine ⟨fun w e => ?_, fun h => ⟨us, h'.sq, by rw [← VRs.length r]; exact h⟩⟩
  obtain ⟨v, e1, rv⟩ := r'.get e
  refine ⟨⟨us, v, h'.sq, e1⟩, fun x H2 ⟨e2, y⟩ => ?_⟩
  subst e2
  have := y us h'.sq
  rw [e1] at this; cases this
  exact ⟨.refl, s', rv⟩
theorem relI_tup {ρ : List Addr} {H : Hp} {st : Store} {ws : List W} {us : List V} {a : Addr} (s : StR X.K ρ H st) (ht : TpF X.K H a us) (r : VRs X.K ρ H ws us) : relI X ρ H ⟨ws, none⟩ (Itt X.K a) := by
  intro ρ' H' st' g s' _ i
  have h' := ht.grow s.apart g
  have r' := VRs.grow s.apart g ws us r
  refine ⟨fun w e => ?_, fun h => ⟨us, h'.sq, by rw [← VRs.length r]; exact h⟩⟩
  obtain ⟨v, e1, rv⟩ := r'.get e
  refine ⟨⟨us, v, h'.sq, e1⟩, fun x H2 ⟨e2, y⟩ => ?_⟩
  subst e2
  have := y us h'.sq
  rw [e1] at this; cases this
  exact ⟨.refl, s', rv⟩
theorem relI_loc {ρ : List Addr} {H : Hp} {ws : List W} {n : Nat} {a : Addr} (hn : ρ[n]? = some a) : relI X ρ H ⟨ws, some n⟩ (Itl X.K a) := by
  intro ρ' H' st' g s' ck i
  obtain ⟨m, e, _⟩ := g.pre
  subst e
  obtain ⟨b, hb, us, hu, r⟩ := s'.ob n (.lst ws) ck
  have : b = a := by
    rw [List.getElem?_append_left (List.getElem?_eq_some_iff.mp hn).1, hn] at hb
    exact (Option.some.inj hb).symm
  subst this
  have hs : SqL X.K H' b us := .inl (.inl hu)
  refine ⟨fun w e => ?_, fun h => ⟨us, hs, by rw [← VRs.length r]; exact h⟩⟩
  obtain ⟨v, e1, rv⟩ := r.get e
  refine ⟨⟨us, v, hs, e1⟩, fun x H2 ⟨e2, y⟩ => ?_⟩
  subst e2
  have := y us hs
  rw [e1] at this; cases this
  exact ⟨.refl, s', rv⟩
theorem relI_str {ρ : List Addr} {H : Hp} {z : Str} : relI X ρ H ⟨signs z, none⟩ (Its z) := by
  intro ρ' H' st' g s' _ i
  have hl : (signs z).length = z.cps.size := by simp [signs]
  refine ⟨fun w e => ?_, fun h => by show z.cps.size ≤ i; rw [← hl]; exact h⟩
  simp only [signs, List.getElem?_map] at e
  cases hc : z.cps.toList[i]? with
  | none => rw [hc] at e; cases e
  | some c =>
    rw [hc] at e
    cases e
    have hi : i < z.cps.size := by simpa using (List.getElem?_eq_some_iff.mp hc).1
    refine ⟨hi, fun x H2 ⟨e2, c', hc', e3⟩ => ?_⟩
    subst e2; subst e3
    have hcc : z.cps[i]? = some c := by simpa using hc
    rw [hcc] at hc'; cases hc'
    exact ⟨.refl, s', by simp [VR]⟩
theorem relI_range {ρ : List Addr} {H : Hp} {lo : Int} {n : Nat} : relI X ρ H ⟨intsW lo n, none⟩ (Itr lo n) := by
  intro ρ' H' st' g s' _ i
  have hl : (intsW lo n).length = n := by simp [intsW]
  refine ⟨fun w e => ?_, fun h => by show n ≤ i; rw [← hl]; exact h⟩
  have hi : i < n := by rw [← hl]; exact (List.getElem?_eq_some_iff.mp e).1
  refine ⟨hi, fun x H2 ⟨e2, e3⟩ => ?_⟩
  subst e2; subst e3
  simp only [intsW, List.getElem?_map, List.getElem?_range hi, Option.map_some, Option.some.injEq] at e
  subst e
  exact ⟨.refl, s', by simp [VR]⟩
/-- a range that a name holds -/
def iRngV (te : TE) : TI := fun σ H R => te σ H fun x H1 => ∃ (a : Addr) (lo hi : Int), x = .ref a ∧ H1 a = some (.rng lo hi) ∧ (-(2 ^ 62) ≤ lo ∧ lo < 2 ^ 62 ∧ -(2 ^ 62) ≤ hi ∧ hi < 2 ^ 62) ∧ R (Itr lo (hi - lo).toNat) H1
theorem pi_rngV {X : Cx} {tg e : Expr} {te : TE} (he : PE X e te) : PI X tg e (iRngV te) := by
  refine ⟨fun pins s σ H R I h => thn (he.run pins s σ H _ I h) fun v s1 ⟨x, H1, I1, r1, q1⟩ => ?_⟩
  obtain ⟨a, lo, hi, rfl, hq, ⟨h1, h2, h3, h4⟩, q⟩ := q1
  cases r1
  obtain ⟨t, u, v, hget⟩ := I1.hok a _ hq
  refine wpAny_pyIter_range (show IsRange s1.heap a lo hi 1 t u v from hget) (small_one h1 h2 h3 h4) ?_
  refine ⟨s1.heap.objs.size, [s1.heap.objs.size], _, _, H1, rfl, I1.kept (t' := s1.toks) fun b o e => Heap.get?_push_of_some _ e, turn_range _ lo (hi - lo).toNat, ?_, fun b hb => ?_, q⟩
  · have e1 : lo + ((0 : Nat) : Int) * 1 = lo := by simp
    have e2 : (((hi - lo).toNat : Nat) : Int) - ((0 : Nat) : Int) = Builtin.Range.rangeSize lo hi 1 := by rw [rangeSize_one]; split <;> omega
    show IsRangeIter _ _ (lo + ((0 : Nat) : Int) * 1) ((((hi - lo).toNat : Nat) : Int) - ((0 : Nat) : Int)) 1
    rw [e1, e2]
    exact Heap.get?_push_size _ rfl
  · have e : b = s1.heap.objs.size := by simpa using hb
    subst e
    exact I1.fpOk (Nat.le_refl _) (I1.hok.fresh (Nat.le_refl _))
theorem ii_val {tg e : Expr} {m : D W} (he : IE X ex Wx e m) : II X ex Wx tg e (dIt m) := by
  refine PI.of (PI.or (pi_list he) (PI.or (pi_tup he) (PI.or (pi_str he) (pi_rngV he)))) fun σ H R ⟨ρ, env, st, s, e, p⟩ => ?_
  have key : ∀ (ok : W → Store → Prop) (R' : V → Hp → Prop), (∀ a st1, m env st = .ok a st1 → ok a st1) →
      (∀ ρ1 H1 st1 a x, ok a st1 → Grow ρ H ρ1 H1 → StR X.K ρ1 H1 st1 → VR X.K ρ1 H1 a x → Post X.K X.mg Wx (relI X) ρ1 H1 σ (itOf a st1) R → R' x H1) → RG X ex Wx (relV X.K) m σ H R' := fun ok R' h1 h2 => by
    refine ⟨ρ, env, st, s, e, ?_⟩
    unfold dIt at p
    generalize hm : m env st = r at p h1
    cases r with
    | ok a st' => exact fun ρ' H' x g s' r => h2 ρ' H' st' a x (h1 a st' rfl) g s' r (Post.mono p g)
    | err c fs st' => exact p
    | stuck => exact p
  have p0 := p
  unfold dIt at p0
  generalize hm : m env st = r at p0
  cases r with
  | stuck => exact p0.elim
  | err c fs st' =>
    refine .inl (key (fun _ _ => False) _ (fun a st1 h => ?_) (fun _ _ _ _ _ h => h.elim))
    rw [hm] at h; cases h
  | ok a0 st0 =>
    have same : ∀ a st1, m env st = .ok a st1 → (a = a0 ∧ st1 = st0) := fun a st1 h => by rw [hm] at h; cases h; exact ⟨rfl, rfl⟩
    cases a0 with
    | tup xs =>
      refine .inr (.inl (key _ _ same fun ρ1 H1 st1 a x h g s1 r q => ?_))
      obtain ⟨rfl, rfl⟩ := h
      simp only [VR] at r
      obtain ⟨ad, us, rfl, ht, rs⟩ := r
      exact ⟨ad, rfl, ⟨us, ht.sq⟩, q ρ1 H1 _ .refl s1 (relI_tup s1 ht rs)⟩
    | fro xs =>
      refine .inl (key _ _ same fun ρ1 H1 st1 a x h g s1 r q => ?_)
      obtain ⟨rfl, rfl⟩ := h
      simp only [VR] at r
      obtain ⟨ad, us, rfl, ht, rs⟩ := r
      exact ⟨ad, rfl, ⟨us, ht.sq⟩, q ρ1 H1 _ .refl s1 (relI_list s1 ht rs)⟩
    | loc n =>
      refine .inl (key _ _ same fun ρ1 H1 st1 a x h g s1 r q => ?_)
      obtain ⟨rfl, rfl⟩ := h
      simp only [VR] at r
      obtain ⟨ad, hn, rfl⟩ := r
      simp only [itOf] at q
      split at q
      · rename_i xs hx
        obtain ⟨b, hb, us, hu, rs⟩ := s1.ob n (.lst xs) hx
        rw [hn] at hb; cases hb
        exact ⟨ad, rfl, ⟨us, .inl (.inl hu)⟩, q ρ1 H1 _ .refl s1 (relI_loc hn)⟩
      · exact q.elim
    | str z =>
      refine .inr (.inr (.inl (key _ _ same fun ρ1 H1 st1 a x h g s1 r q => ?_)))
      obtain ⟨rfl, rfl⟩ := h
      simp only [VR] at r
      exact ⟨z, r, q ρ1 H1 _ .refl s1 relI_str⟩
    | rng lo hi =>
      refine .inr (.inr (.inr (key _ _ same fun ρ1 H1 st1 a x h g s1 r q => ?_)))
      obtain ⟨rfl, rfl⟩ := h
      simp only [VR] at r
      obtain ⟨ad, rfl, hr⟩ := r
      simp only [itOf] at q
      split at q
      · rename_i hb
        exact ⟨ad, lo, hi, rfl, hr, hb, q ρ1 H1 _ .refl s1 relI_range⟩
      · exact q.elim
    | _ => exact p0.elim
theorem ii_range1 {tg a : Expr} {m : D (List W)} {p' : Pos} (hg : Gl X "range") (hm : X.mg "range" = none) (ha : IA X ex Wx [a] m) (hs : starEach [a] X.env = [(false, eval a X.env)] := by rfl) : II X ex Wx tg (.Call (.Name "range" p') [a] [] pos) (dRange1 m) :=
  PI.of (pi_range1 hg hm ha hs) fun σ H R ⟨ρ, env, st, s, e, p⟩ => by
    have p' : Post X.K X.mg Wx (relI X) ρ H σ ((m env st).bind fun l st1 => match l with | [.int j] => rangeW 0 j st1 | _ => .stuck) R := by
      unfold dRange1 dRange at p
      simp only at p
      generalize m env st = r at p ⊢
      cases r with
      | ok l st1 =>
        simp only [Res.bind_ok] at p ⊢
        match l, p with
        | [.int j], p => exact p
      | err c fs st1 => exact p
      | stuck => exact p
    refine RG.bind s e p' fun ρ1 H1 st1 l vs g1 s1 e1 r q => ?_
    match l, q, r with
    | [.int j], q, r =>
      simp only [VRs, VR] at r
      obtain ⟨_, _, rfl, rfl, rfl⟩ := r
      simp only [rangeW] at q
      split at q
      · rename_i hb
        have e0 : (j - 0).toNat = j.toNat := by omega
        rw [e0] at q
        exact ⟨j, rfl, hb.2.2.1, hb.2.2.2, q ρ1 H1 _ .refl s1 relI_range⟩
      · exact q.elim
theorem ii_range2 {tg a b : Expr} {m : D (List W)} {p' : Pos} (hg : Gl X "range") (hm : X.mg "range" = none) (ha : IA X ex Wx [a, b] m) (hs : starEach [a, b] X.env = [(false, eval a X.env), (false, eval b X.env)] := by rfl) (hs2 : starEach [b] X.env = [(false, eval b X.env)] := by rfl) :
    II X ex Wx tg (.Call (.Name "range" p') [a, b] [] pos) (dRange2 m) :=
  PI.of (pi_range2 hg hm ha hs hs2) fun σ H R ⟨ρ, env, st, s, e, p⟩ => by
    have p' : Post X.K X.mg Wx (relI X) ρ H σ ((m env st).bind fun l st1 => match l with | [.int i, .int j] => rangeW i j st1 | _ => .stuck) R := by
      unfold dRange2 dRange at p
      simp only at p
      generalize m env st = r at p ⊢
      cases r with
      | ok l st1 =>
        simp only [Res.bind_ok] at p ⊢
        match l, p with
        | [.int i, .int j], p => exact p
      | err c fs st1 => exact p
      | stuck => exact p
    refine RG.bind s e p' fun ρ1 H1 st1 l vs g1 s1 e1 r q => ?_
    match l, q, r with
    | [.int i, .int j], q, r =>
      simp only [VRs, VR] at r
      obtain ⟨_, _, rfl, rfl, _, _, rfl, rfl, rfl⟩ := r
      simp only [rangeW] at q
      split at q
      · rename_i hb
        exact ⟨i, j, rfl, hb, q ρ1 H1 _ .refl s1 relI_range⟩
      · exact q.elim
/-! ### loops -/
theorem is_for {vs : List Nat} {tg iter : Expr} {body : List Stmt} {m : D ItW} {t : DT} {b : DS} (hp : PassesOwn (model X.prog X.w) X.A X.env X.xe) (hc : X.calm = true) (hi : II X ex Wx tg iter m) (hg : IG X ex vs tg t) (hb : ISs X ex Wx body b) (hs : ∀ x, foldedSetIterable iter X.env x = pure x := by intro _; rfl) : IS X ex Wx (.For tg iter body [] pos) (sFor m t b) :=
  PS.of (ps_for hp hc hi hg hb hs) fun De σ H ⟨ρ, env, st, s, e, p⟩ => RS.step (rel := relI X) s e p fun ρ1 H1 st1 it J g s1 e1 r q => by
    refine ⟨fun i m σ H => m = it.items.length - i ∧ i ≤ it.items.length ∧ ∃ ρ env st, Grow ρ1 H1 ρ H ∧ StR X.K ρ H st ∧ EnvR X.K ex ρ H env σ ∧ PostS X.K ex X.mg Wx De ρ H (forW it.Chk t b (it.items.drop i) env st),
      ⟨_, rfl, Nat.zero_le _, ρ1, env, st1, .refl, s1, e1, q⟩, ?_⟩
    rintro i m σ' H' ⟨rfl, hi, ρ', env', st', g', s', e', q'⟩
    by_cases hlt : i < it.items.length
    · rw [List.drop_eq_getElem_cons hlt] at q'
      unfold forW at q'
      split at q'
      · rename_i ck
        obtain ⟨go, stop⟩ := r ρ' H' st' g' s' ck i
        obtain ⟨hgo, hy⟩ := go _ (List.getElem?_eq_getElem hlt)
        refine .inr ⟨hgo, fun σ2 H2 => ∃ ρ env st, Grow ρ1 H1 ρ H2 ∧ StR X.K ρ H2 st ∧ EnvR X.K ex ρ H2 env σ2 ∧ PostS X.K ex X.mg Wx De ρ H2 (forW it.Chk t b (it.items.drop (i + 1)) env st), fun σ2 H2 n => ⟨_, by omega, rfl, hlt, n⟩, fun x H2 y => ?_⟩
        obtain ⟨g2, s2, rv⟩ := hy x H2 y
        have e2 := e'.grow s'.apart g2
        cases ht : t it.items[i] env' st' with
        | none => rw [ht] at q'; exact q'.elim
        | some pr =>
          obtain ⟨env3, st3⟩ := pr
          rw [ht] at q'
          refine ⟨ρ', env', st', _, s2, e2, rv, env3, st3, ht, fun ρ3 H3 σ3 g3 s3 e3 _ => ⟨ρ3, env3, st3, s3, e3, ?_⟩⟩
          simp only at q'
          have gg := g'.trans (g2.trans g3)
          have q3 := PostS.mono q' (g2.trans g3)
          generalize hbr : b env3 st3 = br at q3
          cases br with
          | stuck => exact q3
          | err c fs env4 st4 => exact q3
          | go f env4 st4 =>
            cases f with
            | nx => exact fun ρ4 H4 σ4 g4 s4 e4 => ⟨ρ4, env4, st4, gg.trans g4, s4, e4, PostS.mono q3 g4⟩
            | ct => exact fun ρ4 H4 σ4 g4 s4 e4 => ⟨ρ4, env4, st4, gg.trans g4, s4, e4, PostS.mono q3 g4⟩
            | bk => exact q3
            | rt v => exact q3
      · exact q'.elim
    · have : i = it.items.length := by omega
      subst this
      rw [List.drop_length] at q'
      unfold forW at q'
      split at q'
      · rename_i ck
        exact .inl ⟨(r ρ' H' st' g' s' ck _).2 (Nat.le_refl _), PostS.go_ (f := .nx) q' s' e'⟩
      · exact q'.elim
theorem is_while {c : Expr} {body : List Stmt} {mc : D Bool} {b : DS} (hp : PassesOwn (model X.prog X.w) X.A X.env X.xe) (hc : IT X ex Wx c mc) (hb : ISs X ex Wx body b) : IS X ex Wx (.While c body [] pos) (sWhile mc b) :=
  PS.of (ps_while hp hc hb) fun De σ H ⟨ρ, env, st, s, e, p⟩ => by
    unfold sWhile at p
    split at p
    · rename_i hn
      refine ⟨fun m σ H => ∃ ρ env st, StR X.K ρ H st ∧ EnvR X.K ex ρ H env σ ∧ PostS X.K ex X.mg Wx De ρ H (whileF mc b m env st), ⟨_, ρ, env, st, s, e, p⟩, ?_⟩
      rintro m σ' H' ⟨ρ', env', st', s', e', q⟩
      cases m with
      | zero => exact q.elim
      | succ m =>
        unfold whileF at q
        refine RS.step (rel := relE) s' e' q fun ρ1 H1 st1 k x g1 s1 e1 r p1 => ?_
        have r' : k = x := r
        subst r'
        by_cases h : k = true
        · rw [if_pos h] at p1 ⊢
          refine ⟨fun σ2 H2 => ∃ ρ env st, StR X.K ρ H2 st ∧ EnvR X.K ex ρ H2 env σ2 ∧ PostS X.K ex X.mg Wx De ρ H2 (whileF mc b m env st), fun σ2 H2 n => ⟨m, Nat.lt_succ_self m, n⟩, ρ1, env', st1, s1, e1, ?_⟩
          generalize hbr : b env' st1 = br at p1
          cases br with
          | stuck => exact p1
          | err c fs env4 st4 => exact p1
          | go f env4 st4 =>
            cases f with
            | nx => exact fun ρ4 H4 σ4 g4 s4 e4 => ⟨ρ4, env4, st4, s4, e4, PostS.mono p1 g4⟩
            | ct => exact fun ρ4 H4 σ4 g4 s4 e4 => ⟨ρ4, env4, st4, s4, e4, PostS.mono p1 g4⟩
            | bk => exact p1
            | rt v => exact p1
        · rw [if_neg h] at p1 ⊢
          exact PostS.go_ (f := .nx) p1 s1 e1
    · exact p.elim
end
theorem whileF_mono {c : D Bool} {b : DS} : ∀ {n m : Nat} {env : EnvW} {st : Store}, whileF c b n env st ≠ .stuck → n ≤ m → whileF c b m env st = whileF c b n env st
  | 0, _, _, _, h, _ => absurd rfl h
  | n + 1, 0, _, _, _, hl => by omega
  | n + 1, m + 1, env, st, h, hl => by
    unfold whileF at h ⊢
    cases hc : c env st with
    | stuck => rfl
    | err x fs st1 => rfl
    | ok k st1 =>
      rw [hc] at h
      simp only [Res.then_ok] at h ⊢
      by_cases hk : k = true
      · rw [if_pos hk] at h ⊢
        rw [if_pos hk]
        cases hb : b env st1 with
        | stuck => rfl
        | err x fs env2 st2 => rfl
        | go f env2 st2 =>
          rw [hb] at h
          cases f with
          | nx => exact whileF_mono (n := n) (m := m) h (by omega)
          | ct => exact whileF_mono (n := n) (m := m) h (by omega)
          | bk => rfl
          | rt v => rfl
      · rw [if_neg hk, if_neg hk]
theorem sWhile_eq {c : D Bool} {b : DS} {env : EnvW} {st : Store} {r : RsS} (n : Nat) (h : whileF c b n env st = r) (hr : r ≠ .stuck) : sWhile c b env st = r := by
  have h1 : whileF c b n env st ≠ .stuck := by rw [h]; exact hr
  unfold sWhile
  rw [dif_pos ⟨n, h1⟩]
  have h2 := (⟨n, h1⟩ : ∃ n, whileF c b n env st ≠ .stuck).choose_spec
  rcases Nat.le_total n (⟨n, h1⟩ : ∃ n, whileF c b n env st ≠ .stuck).choose with hl | hl
  · rw [whileF_mono h1 hl, h]
  · rw [← whileF_mono h2 hl, h]
end
end MP
namespace MP
open PySem PySem.Spec PyProof.Rows L2
open Classical
noncomputable section

/-! ### comprehensions -/
mutual
theorem VR.imm {K : PySem.W.Frag} {ρ : List Addr} {H H' : Hp} (h1 : ∀ a xs, H a = some (.tup xs) → H' a = some (.tup xs)) (h2 : ∀ a o u, H a = some (.frz o u) → H' a = some (.frz o u)) (h3 : ∀ a i j, H a = some (.rng i j) → H' a = some (.rng i j)) : ∀ (w : W) (v : V), VR K ρ H w v → VR K ρ H' w v
  | .non, _, h => by simpa only [VR] using h
  | .bl _, _, h => by simpa only [VR] using h
  | .int _, _, h => by simpa only [VR] using h
  | .str _, _, h => by simpa only [VR] using h
  | .gl _, _, h => by simpa only [VR] using h
  | .loc n, _, h => by simpa only [VR] using h
  | .rng i j, v, h => by
    simp only [VR] at h ⊢
    obtain ⟨a, e, r⟩ := h
    exact ⟨a, e, h3 a i j r⟩
  | .tup ws, v, h => by
    simp only [VR] at h ⊢
    obtain ⟨a, us, e, t, r⟩ := h
    exact ⟨a, us, e, t.imp (h1 a us) id, VRs.imm h1 h2 h3 ws us r⟩
  | .fro ws, v, h => by
    simp only [VR] at h ⊢
    obtain ⟨a, us, e, t, r⟩ := h
    exact ⟨a, us, e, t.imp (fun ⟨o, z⟩ => ⟨o, h2 a o _ z⟩) id, VRs.imm h1 h2 h3 ws us r⟩
theorem VRs.imm {K : PySem.W.Frag} {ρ : List Addr} {H H' : Hp} (h1 : ∀ a xs, H a = some (.tup xs) → H' a = some (.tup xs)) (h2 : ∀ a o u, H a = some (.frz o u) → H' a = some (.frz o u)) (h3 : ∀ a i j, H a = some (.rng i j) → H' a = some (.rng i j)) : ∀ (ws : List W) (vs : List V), VRs K ρ H ws vs → VRs K ρ H' ws vs
  | [], _, h => by simpa only [VRs] using h
  | w :: ws, vs, h => by
    simp only [VRs] at h ⊢
    obtain ⟨u, us, e, r, rs⟩ := h
    exact ⟨u, us, e, VR.imm h1 h2 h3 w u r, VRs.imm h1 h2 h3 ws us rs⟩
end
mutual
theorem VR.more {K : PySem.W.Frag} {ρ m : List Addr} {H : Hp} : ∀ (w : W) (v : V), VR K ρ H w v → VR K (ρ ++ m) H w v
  | .non, _, h => by simpa only [VR] using h
  | .bl _, _, h => by simpa only [VR] using h
  | .int _, _, h => by simpa only [VR] using h
  | .str _, _, h => by simpa only [VR] using h
  | .gl _, _, h => by simpa only [VR] using h
  | .rng i j, _, h => by simpa only [VR] using h
  | .loc n, _, h => by
    simp only [VR] at h ⊢
    obtain ⟨a, e, r⟩ := h
    exact ⟨a, by rw [List.getElem?_append_left (List.getElem?_eq_some_iff.mp e).1]; exact e, r⟩
  | .tup ws, v, h => by
    simp only [VR] at h ⊢
    obtain ⟨a, us, e, t, r⟩ := h
    exact ⟨a, us, e, t, VRs.more ws us r⟩
  | .fro ws, v, h => by
    simp only [VR] at h ⊢
    obtain ⟨a, us, e, t, r⟩ := h
    exact ⟨a, us, e, t, VRs.more ws us r⟩
theorem VRs.more {K : PySem.W.Frag} {ρ m : List Addr} {H : Hp} : ∀ (ws : List W) (vs : List V), VRs K ρ H ws vs → VRs K (ρ ++ m) H ws vs
  | [], _, h => by simpa only [VRs] using h
  | w :: ws, vs, h => by
    simp only [VRs] at h ⊢
    obtain ⟨u, us, e, r, rs⟩ := h
    exact ⟨u, us, e, VR.more w u r, VRs.more ws us rs⟩
end
section
variable {X : Cx} {Wx : WX} {pos : Pos}
/-- a list that the store doesn't have is changed -/
theorem side_imm {H : Hp} {D : Addr} {xs : List V} {o : HO} (hD : H D = some (.lst xs)) : (∀ a ys, H a = some (.tup ys) → upd H D o a = some (.tup ys)) ∧ (∀ a b u, H a = some (.frz b u) → upd H D o a = some (.frz b u)) ∧ (∀ a i j, H a = some (.rng i j) → upd H D o a = some (.rng i j)) := by
  refine ⟨fun a ys e => ?_, fun a b u e => ?_, fun a i j e => ?_⟩
  · rw [upd_ne (ne_of e hD (by intro z; cases z))]; exact e
  · rw [upd_ne (ne_of e hD (by intro z; cases z))]; exact e
  · rw [upd_ne (ne_of e hD (by intro z; cases z))]; exact e
theorem StR.side {K : PySem.W.Frag} {ρ : List Addr} {H : Hp} {st : Store} {D : Addr} {xs : List V} {o : HO} (s : StR K ρ H st) (hD : H D = some (.lst xs)) (hn : D ∉ ρ) : StR K ρ (upd H D o) st := by
  obtain ⟨i1, i2, i3⟩ := side_imm (o := o) hD
  refine ⟨s.len, s.nd, fun n ob e => ?_⟩
  obtain ⟨a, ha, hob⟩ := s.ob n ob e
  have hne : a ≠ D := fun z => hn (z ▸ List.mem_of_getElem? ha)
  refine ⟨a, ha, ?_⟩
  cases ob with
  | lst ws =>
    obtain ⟨us, hu, hr⟩ := hob
    exact ⟨us, by rw [upd_ne hne]; exact hu, VRs.imm i1 i2 i3 ws us hr⟩
theorem EnvR.side {K : PySem.W.Frag} {ρ : List Addr} {H : Hp} {env : EnvW} {σ : L2.St} {D : Addr} {xs : List V} {o : HO} (e : EnvR K none ρ H env σ) (hD : H D = some (.lst xs)) : EnvR K none ρ (upd H D o) env σ := by
  obtain ⟨i1, i2, i3⟩ := side_imm (o := o) hD
  exact ⟨e.len, fun i w h => let ⟨v, h1, h2⟩ := e.at_ i w h; ⟨v, h1, VR.imm i1 i2 i3 w v h2⟩, fun _ h => nomatch h⟩
theorem EnvR.wipe {K : PySem.W.Frag} {ρ : List Addr} {H : Hp} {env : EnvW} {σ : L2.St} (e : EnvR K none ρ H env σ) : ∀ vs : List Nat, EnvR K none ρ H (wipeW env vs) (wipe σ vs)
  | [] => e
  | v :: vs => (e.wipe vs).unset .none
abbrev W0 : WX := fun _ _ _ _ => False
/-- a comprehension with one for -/
theorem lc_read {env : EnvW} {st : Store} {ρ : List Addr} {H : Hp} {σ : L2.St} {Q : VK} {m : D ItW} {t : DT} {vs : List Nat} {c : D Bool} {el : D W} {tt : TT}
    (s : StR X.K ρ H st) (e : EnvR X.K none ρ H env σ) (p : Post X.K X.mg Wx (relV X.K) ρ H σ (dLc m vs t c el env st) Q)
    (htt : ∀ σ H Q, RG X none W0 relE c σ H Q → tt σ H Q) :
    tLc (RG X none Wx (relI X) m) (RT X none vs t) tt (RG X none W0 (relV X.K) el) vs σ H Q := by
  refine RG.bind s e p fun ρ1 H1 st1 it J g s1 e1 r q => fun D hD => ?_
  have nD : D ∉ ρ1 := s1.none_of hD
  generalize hl : lcW it.Chk (wipeW env vs) t c el it.items [] st1 = res at q
  cases res with
  | none => exact q.elim
  | some pr =>
    obtain ⟨fin, stf⟩ := pr
    simp only at q
    have ew : EnvR X.K none ρ1 H1 (wipeW env vs) (wipe σ vs) := e1.wipe vs
    refine ⟨fun i m H => m = it.items.length - i ∧ i ≤ it.items.length ∧ ∃ ρ st acc us, Grow ρ1 H1 ρ H ∧ StR X.K ρ H st ∧ H D = some (.lst us) ∧ D ∉ ρ ∧ VRs X.K ρ H acc us ∧ lcW it.Chk (wipeW env vs) t c el (it.items.drop i) acc st = some (fin, stf),
      ⟨_, rfl, Nat.zero_le _, ρ1, st1, [], [], grow_imm hD, s1.grow_imm hD, upd_same, nD, by simp [VRs], hl⟩, ?_⟩
    rintro i m H' ⟨rfl, hi, ρ', st', acc, us, g', s', hD', nD', ra, hq⟩
    have ew' : EnvR X.K none ρ' H' (wipeW env vs) (wipe σ vs) := ew.grow s1.apart g'
    by_cases hlt : i < it.items.length
    · rw [List.drop_eq_getElem_cons hlt] at hq
      unfold lcW at hq
      split at hq
      · rename_i ck
        obtain ⟨go, stop⟩ := r ρ' H' st' g' s' ck i
        obtain ⟨hgo, hy⟩ := go _ (List.getElem?_eq_getElem hlt)
        refine .inr ⟨hgo, fun H2 => ∃ ρ st acc us, Grow ρ1 H1 ρ H2 ∧ StR X.K ρ H2 st ∧ H2 D = some (.lst us) ∧ D ∉ ρ ∧ VRs X.K ρ H2 acc us ∧ lcW it.Chk (wipeW env vs) t c el (it.items.drop (i + 1)) acc st = some (fin, stf), fun H2 n => ⟨_, by omega, rfl, hlt, n⟩, fun x H2 y => ?_⟩
        obtain ⟨g2, s2, rv⟩ := hy x H2 y
        have hD2 : H2 D = some (.lst us) := g2.keep D _ hD' nD'
        have e2 := ew'.grow s'.apart g2
        cases htt' : t it.items[i] (wipeW env vs) st' with
        | none => rw [htt'] at hq; cases hq
        | some pr =>
          obtain ⟨env3, st3⟩ := pr
          rw [htt'] at hq
          simp only at hq
          refine ⟨ρ', wipeW env vs, st', _, s2, e2, rv, env3, st3, htt', fun ρ3 H3 σ3 g3 s3 e3 w3 => ⟨w3.trans wipe_wipe, ?_⟩⟩
          have hD3 : H3 D = some (.lst us) := g3.keep D _ hD2 nD'
          have nD3 : D ∉ ρ3 := fun z => by
            obtain ⟨mm, em, fm⟩ := g3.pre
            subst em
            rcases List.mem_append.mp z with z | z
            · exact nD' z
            · have := fm D z; rw [hD2] at this; cases this
          refine htt _ _ _ ⟨ρ3, env3, st3, s3, e3, ?_⟩
          generalize hc : c env3 st3 = rc at hq
          cases rc with
          | stuck => cases hq
          | err cc fs st4 => cases hq
          | ok b st4 =>
            intro ρ4 H4 b' g4 s4 rb
            have rb' : b = b' := rb
            subst rb'
            have hD4 : H4 D = some (.lst us) := g4.keep D _ hD3 nD3
            have nD4 : D ∉ ρ4 := fun z => by
              obtain ⟨mm, em, fm⟩ := g4.pre
              subst em
              rcases List.mem_append.mp z with z | z
              · exact nD3 z
              · have := fm D z; rw [hD3] at this; cases this
            have g24 : Grow ρ' H' ρ4 H4 := g2.trans (g3.trans g4)
            have ra4 : VRs X.K ρ4 H4 acc us := VRs.grow s'.apart g24 acc us ra
            have e4 := e3.grow s3.apart g4
            cases b with
            | false =>
              rw [if_neg (by decide)]
              exact ⟨ρ4, st4, acc, us, g'.trans g24, s4, hD4, nD4, ra4, hq⟩
            | true =>
              rw [if_pos rfl]
              simp only at hq
              refine ⟨ρ4, env3, st4, s4, e4, ?_⟩
              generalize hel : el env3 st4 = re at hq
              cases re with
              | stuck => cases hq
              | err cc fs st5 => cases hq
              | ok y st5 =>
                intro ρ5 H5 yv g5 s5 ry
                simp only at hq
                split at hq
                · rename_i hsz
                  have hD5 : H5 D = some (.lst us) := g5.keep D _ hD4 nD4
                  have nD5 : D ∉ ρ5 := fun z => by
                    obtain ⟨mm, em, fm⟩ := g5.pre
                    subst em
                    rcases List.mem_append.mp z with z | z
                    · exact nD4 z
                    · have := fm D z; rw [hD4] at this; cases this
                  have ra5 : VRs X.K ρ5 H5 acc us := VRs.grow s4.apart g5 acc us ra4
                  obtain ⟨i1, i2, i3⟩ := side_imm (o := .lst (us ++ [yv])) hD5
                  refine ⟨us, hD5, by rw [← VRs.length ra5]; exact hsz, ρ5, st5, acc ++ [y], us ++ [yv], ?_, s5.side hD5 nD5, upd_same, nD5, VRs.imm i1 i2 i3 _ _ (ra5.append (.one ry)), hq⟩
                  have g15 : Grow ρ1 H1 ρ5 H5 := g'.trans (g24.trans g5)
                  exact ⟨g15.pre, fun a o ha hn => by rw [upd_ne (ne_of_none ha hD)]; exact g15.keep a o ha hn, fun a ha hn => by
                    by_cases z : a = D
                    · subst z; rw [upd_same]; simp
                    · rw [upd_ne z]; exact g15.live a ha hn⟩
                · cases hq
      · cases hq
    · have : i = it.items.length := by omega
      subst this
      rw [List.drop_length] at hq
      unfold lcW at hq
      split at hq
      · rename_i ck
        cases hq
        refine .inl ⟨(r ρ' H' _ g' s' ck _).2 (Nat.le_refl _), ?_⟩
        have gD : Grow ρ1 H1 (ρ' ++ [D]) H' := by
          obtain ⟨mm, em, fm⟩ := g'.pre
          subst em
          exact ⟨⟨mm ++ [D], by simp, fun a ha => by
            rcases List.mem_append.mp ha with ha | ha
            · exact fm a ha
            · have : a = D := by simpa using ha
              subst this; exact hD⟩, g'.keep, g'.live⟩
        have sD : StR X.K (ρ' ++ [D]) H' (stf ++ [.lst fin]) := by
          have gg : Grow ρ' H' (ρ' ++ [D]) H' ∨ True := .inr trivial
          refine ⟨by simp [s'.len], ?_, fun n o en => ?_⟩
          · rw [List.nodup_append]
            exact ⟨s'.nd, List.nodup_cons.mpr ⟨by simp, List.nodup_nil⟩, fun a ha b hb ee => by
              have : b = D := by simpa using hb
              subst this; subst ee; exact nD' ha⟩
          · by_cases hn : n < stf.length
            · rw [List.getElem?_append_left hn] at en
              obtain ⟨a, ha, hob⟩ := s'.ob n o en
              have hl2 := (List.getElem?_eq_some_iff.mp ha).1
              refine ⟨a, by rw [List.getElem?_append_left hl2]; exact ha, ?_⟩
              cases o with
              | lst ws =>
                obtain ⟨us2, hu, hr⟩ := hob
                exact ⟨us2, hu, VRs.more ws us2 hr⟩
            · have hl2 : n < (stf ++ [Ob.lst fin]).length := (List.getElem?_eq_some_iff.mp en).1
              have : n = stf.length := by simp at hl2; omega
              subst this
              rw [List.getElem?_append_right (Nat.le_refl _)] at en
              simp at en; subst en
              exact ⟨D, by rw [← s'.len, List.getElem?_append_right (Nat.le_refl _)]; simp, us, hD', VRs.more _ _ ra⟩
        exact q (ρ' ++ [D]) H' (.ref D) gD sD (by
          simp only [relV, VR]
          exact ⟨D, by rw [← s'.len]; simp, rfl⟩)
      · cases hq
theorem ie_lc {elt tg iter : Expr} {scope : Scope} {own : List (Str × Nat)} {m : D ItW} {t : DT} {el : D W} (hc : X.calm = true) (hN : X.N.Nodup) (hi : II X none Wx tg iter m) (ok : BlkOk X.N X.env.scope scope own)
    (hg : ∀ (s : Shared) (H : Hp) (C : Addr) (cl : List (Str × Addr)) (fp : List Addr), IG (X.blk s H scope (compEnvC scope cl C X.env) fp) none (own.map (·.2)) tg t)
    (he : ∀ (s : Shared) (H : Hp) (C : Addr) (cl : List (Str × Addr)) (fp : List Addr), IE (X.blk s H scope (compEnvC scope cl C X.env) fp) none W0 elt el) (hs : ∀ x, foldedSetIterable iter X.env x = pure x := by intro _; rfl) :
    IE X none Wx (.ListComp elt [⟨tg, iter, [], 0⟩] scope pos) (dLc m (own.map (·.2)) t dYes el) :=
  PE.of (pe_lc hc hN hi ok hg (fun _ _ _ _ _ => pts_nil) he hs) fun σ H Q ⟨ρ, env, st, s, e, p⟩ => lc_read s e p fun σ H Q ⟨ρ, env, st, s, e, p⟩ => Post.ok_ p s rfl
theorem ie_lcIf {elt tg iter cnd : Expr} {scope : Scope} {own : List (Str × Nat)} {m : D ItW} {t : DT} {c : D Bool} {el : D W} (hc : X.calm = true) (hN : X.N.Nodup) (hi : II X none Wx tg iter m) (ok : BlkOk X.N X.env.scope scope own)
    (hg : ∀ (s : Shared) (H : Hp) (C : Addr) (cl : List (Str × Addr)) (fp : List Addr), IG (X.blk s H scope (compEnvC scope cl C X.env) fp) none (own.map (·.2)) tg t)
    (ht : ∀ (s : Shared) (H : Hp) (C : Addr) (cl : List (Str × Addr)) (fp : List Addr), IT (X.blk s H scope (compEnvC scope cl C X.env) fp) none W0 cnd c)
    (he : ∀ (s : Shared) (H : Hp) (C : Addr) (cl : List (Str × Addr)) (fp : List Addr), IE (X.blk s H scope (compEnvC scope cl C X.env) fp) none W0 elt el) (hs : ∀ x, foldedSetIterable iter X.env x = pure x := by intro _; rfl) :
    IE X none Wx (.ListComp elt [⟨tg, iter, [cnd], 0⟩] scope pos) (dLc m (own.map (·.2)) t c el) :=
  PE.of (pe_lc hc hN hi ok hg (fun s H C cl fp => pts_one (ht s H C cl fp)) he hs) fun σ H Q ⟨ρ, env, st, s, e, p⟩ => lc_read s e p fun σ H Q h => h
/-- y = [..] -/
theorem is_setLc {i : Nat} {y : Str} {py spos : Pos} {elt tg iter : Expr} {scope : Scope} {own : List (Str × Nat)} {m : D ItW} {t : DT} {el : D W} (hc : X.calm = true) (hN : X.N.Nodup) (hy : X.N[i]? = some y) (hyl : X.env.scope.names.lookup y = some .local)
    (hsw : swapsWith (.ListComp elt [⟨tg, iter, [], 0⟩] scope pos) (some (.Name y py)) spos.line X.env = pure true) (hi : II X none Wx tg iter m) (ok : BlkOk X.N X.env.scope scope own)
    (hg : ∀ (s : Shared) (H : Hp) (C : Addr) (cl : List (Str × Addr)) (fp : List Addr), IG (X.blk s H scope (compEnvC scope cl C X.env) fp) none (own.map (·.2)) tg t)
    (he : ∀ (s : Shared) (H : Hp) (C : Addr) (cl : List (Str × Addr)) (fp : List Addr), IE (X.blk s H scope (compEnvC scope cl C X.env) fp) none W0 elt el) (hs : ∀ x, foldedSetIterable iter X.env x = pure x := by intro _; rfl) :
    IS X none Wx (.Assign [.Name y py] (.ListComp elt [⟨tg, iter, [], 0⟩] scope pos) spos) (sAsg (dLc m (own.map (·.2)) t dYes el) (tName i)) :=
  PS.of (ps_setLc hc hN hy hyl hsw hi ok hg (fun _ _ _ _ _ => pts_nil) he hs) fun De σ H ⟨ρ, env, st, s, e, p⟩ => by
    have z : RG X none Wx (relV X.K) (dLc m (own.map (·.2)) t dYes el) σ H fun x H1 => gName i x σ H1 De.nx :=
      RS.step s e p fun ρ1 H1 st1 a x g s1 e1 r p1 => PostS.go_ (f := .nx) p1 s1 (e1.set .none r)
    obtain ⟨ρ', env', st', s', e', p'⟩ := z
    exact lc_read s' e' p' fun σ H Q ⟨ρ, env, st, s, e, p⟩ => Post.ok_ p s rfl
theorem is_setLcIf {i : Nat} {y : Str} {py spos : Pos} {elt tg iter cnd : Expr} {scope : Scope} {own : List (Str × Nat)} {m : D ItW} {t : DT} {c : D Bool} {el : D W} (hc : X.calm = true) (hN : X.N.Nodup) (hy : X.N[i]? = some y) (hyl : X.env.scope.names.lookup y = some .local)
    (hsw : swapsWith (.ListComp elt [⟨tg, iter, [cnd], 0⟩] scope pos) (some (.Name y py)) spos.line X.env = pure true) (hi : II X none Wx tg iter m) (ok : BlkOk X.N X.env.scope scope own)
    (hg : ∀ (s : Shared) (H : Hp) (C : Addr) (cl : List (Str × Addr)) (fp : List Addr), IG (X.blk s H scope (compEnvC scope cl C X.env) fp) none (own.map (·.2)) tg t)
    (ht : ∀ (s : Shared) (H : Hp) (C : Addr) (cl : List (Str × Addr)) (fp : List Addr), IT (X.blk s H scope (compEnvC scope cl C X.env) fp) none W0 cnd c)
    (he : ∀ (s : Shared) (H : Hp) (C : Addr) (cl : List (Str × Addr)) (fp : List Addr), IE (X.blk s H scope (compEnvC scope cl C X.env) fp) none W0 elt el) (hs : ∀ x, foldedSetIterable iter X.env x = pure x := by intro _; rfl) :
    IS X none Wx (.Assign [.Name y py] (.ListComp elt [⟨tg, iter, [cnd], 0⟩] scope pos) spos) (sAsg (dLc m (own.map (·.2)) t c el) (tName i)) :=
  PS.of (ps_setLc hc hN hy hyl hsw hi ok hg (fun s H C cl fp => pts_one (ht s H C cl fp)) he hs) fun De σ H ⟨ρ, env, st, s, e, p⟩ => by
    have z : RG X none Wx (relV X.K) (dLc m (own.map (·.2)) t c el) σ H fun x H1 => gName i x σ H1 De.nx :=
      RS.step s e p fun ρ1 H1 st1 a x g s1 e1 r p1 => PostS.go_ (f := .nx) p1 s1 (e1.set .none r)
    obtain ⟨ρ', env', st', s', e', p'⟩ := z
    exact lc_read s' e' p' fun σ H Q h => h
end
end
end MP
namespace MP
open PySem PySem.Spec PyProof.Rows L2
open Classical
noncomputable section

/-! ### what a def leaves behind is let go -/
mutual
def clB (n : Nat) : W → Bool
  | .loc k => decide (k < n)
  | .tup ws => clBs n ws
  | .fro ws => clBs n ws
  | .non => true
  | .bl _ => true
  | .int _ => true
  | .str _ => true
  | .gl _ => true
  | .rng _ _ => true
def clBs (n : Nat) : List W → Bool
  | [] => true
  | w :: ws => clB n w && clBs n ws
end
def clO (n : Nat) : Ob → Bool
  | .lst ws => clBs n ws
/-- what stood at the entry stands, or is closed -/
def GcOk (st0 st : Store) : Prop := ∀ i : Nat, i < st0.length → st[i]? = st0[i]? ∨ ∃ o, st[i]? = some o ∧ clO st0.length o = true
def gc (st0 : Store) (v : W) (st : Store) : Res W :=
  if GcOk st0 st then
    if clB st0.length v = true then .ok v (st.take st0.length)
    else match v with
      | .loc m => match st[m]? with
        | some (.lst ws) => if clBs st0.length ws = true then .ok (.loc st0.length) (st.take st0.length ++ [.lst ws]) else .ok v st
        | _ => .ok v st
      | _ => .ok v st
  else .ok v st
section
variable {K : PySem.W.Frag} {ρ m : List Addr} {H : Hp}
mutual
theorem VR.less : ∀ (w : W) (v : V), clB ρ.length w = true → VR K (ρ ++ m) H w v → VR K ρ H w v
  | .non, _, _, h => by simpa only [VR] using h
  | .bl _, _, _, h => by simpa only [VR] using h
  | .int _, _, _, h => by simpa only [VR] using h
  | .str _, _, _, h => by simpa only [VR] using h
  | .gl _, _, _, h => by simpa only [VR] using h
  | .rng _ _, _, _, h => by simpa only [VR] using h
  | .loc n, _, c, h => by
    simp only [VR] at h ⊢
    simp only [clB, decide_eq_true_eq] at c
    obtain ⟨a, e, r⟩ := h
    exact ⟨a, by rw [List.getElem?_append_left c] at e; exact e, r⟩
  | .tup ws, v, c, h => by
    simp only [VR] at h ⊢
    simp only [clB] at c
    obtain ⟨a, us, e, t, r⟩ := h
    exact ⟨a, us, e, t, VRs.less ws us c r⟩
  | .fro ws, v, c, h => by
    simp only [VR] at h ⊢
    simp only [clB] at c
    obtain ⟨a, us, e, t, r⟩ := h
    exact ⟨a, us, e, t, VRs.less ws us c r⟩
theorem VRs.less : ∀ (ws : List W) (vs : List V), clBs ρ.length ws = true → VRs K (ρ ++ m) H ws vs → VRs K ρ H ws vs
  | [], _, _, h => by simpa only [VRs] using h
  | w :: ws, vs, c, h => by
    simp only [VRs] at h ⊢
    simp only [clBs, Bool.and_eq_true] at c
    obtain ⟨u, us, e, r, rs⟩ := h
    exact ⟨u, us, e, VR.less w u c.1 r, VRs.less ws us c.2 rs⟩
end
mutual
theorem VR.cl : ∀ (w : W) (v : V), VR K ρ H w v → clB ρ.length w = true
  | .non, _, _ => rfl
  | .bl _, _, _ => rfl
  | .int _, _, _ => rfl
  | .str _, _, _ => rfl
  | .gl _, _, _ => rfl
  | .rng _ _, _, _ => rfl
  | .loc n, _, h => by
    simp only [VR] at h
    obtain ⟨a, e, _⟩ := h
    simp only [clB, decide_eq_true_eq]
    exact (List.getElem?_eq_some_iff.mp e).1
  | .tup ws, v, h => by
    simp only [VR] at h
    obtain ⟨a, us, e, t, r⟩ := h
    simp only [clB]
    exact VRs.cl ws us r
  | .fro ws, v, h => by
    simp only [VR] at h
    obtain ⟨a, us, e, t, r⟩ := h
    simp only [clB]
    exact VRs.cl ws us r
theorem VRs.cl : ∀ (ws : List W) (vs : List V), VRs K ρ H ws vs → clBs ρ.length ws = true
  | [], _, _ => rfl
  | w :: ws, vs, h => by
    simp only [VRs] at h
    obtain ⟨u, us, e, r, rs⟩ := h
    simp only [clBs, Bool.and_eq_true]
    exact ⟨VR.cl w u r, VRs.cl ws us rs⟩
end
theorem ObR.cl {a : Addr} {o : Ob} (h : ObR K ρ H a o) : clO ρ.length o = true := by
  cases o with
  | lst ws =>
    obtain ⟨us, _, r⟩ := h
    exact VRs.cl ws us r
theorem ObR.less {a : Addr} {o : Ob} (c : clO ρ.length o = true) (h : ObR K (ρ ++ m) H a o) : ObR K ρ H a o := by
  cases o with
  | lst ws =>
    obtain ⟨us, e, r⟩ := h
    exact ⟨us, e, VRs.less ws us c r⟩
theorem gc_ok {H0 : Hp} {st0 st : Store} {v : W} {x : V} (s0 : StR K ρ H0 st0) (g : Grow ρ H0 (ρ ++ m) H) (s : StR K (ρ ++ m) H st) (r : VR K (ρ ++ m) H v x) :
    ∃ v' st' ρ', gc st0 v st = .ok v' st' ∧ Grow ρ H0 ρ' H ∧ StR K ρ' H st' ∧ VR K ρ' H v' x := by
  unfold gc
  by_cases hg : GcOk st0 st
  · rw [if_pos hg]
    have hlen : st0.length = ρ.length := s0.len.symm
    have hle : ρ.length ≤ st.length := by rw [← s.len]; simp
    have g' : Grow ρ H0 ρ H := ⟨⟨[], by simp, fun _ h => nomatch h⟩, g.keep, g.live⟩
    have s' : StR K ρ H (st.take st0.length) := by
      refine ⟨by rw [List.length_take, hlen]; omega, s0.nd, fun n o e => ?_⟩
      have hn : n < st0.length := by
        have := (List.getElem?_eq_some_iff.mp e).1
        rw [List.length_take] at this; omega
      rw [List.getElem?_take_of_lt hn] at e
      obtain ⟨a, ha, hob⟩ := s.ob n o e
      rw [List.getElem?_append_left (by omega)] at ha
      refine ⟨a, ha, hob.less ?_⟩
      rcases hg n hn with h | ⟨o', h1, h2⟩
      · rw [e] at h
        obtain ⟨_, _, ho0⟩ := s0.ob n o h.symm
        exact ho0.cl
      · rw [e] at h1; cases h1
        rw [← hlen]; exact h2
    by_cases hc : clB st0.length v = true
    · rw [if_pos hc]
      exact ⟨_, _, ρ, rfl, g', s', VR.less v x (by rw [← hlen]; exact hc) r⟩
    · rw [if_neg hc]
      have dflt : ∃ v' st' ρ', (Res.ok v st : Res W) = .ok v' st' ∧ Grow ρ H0 ρ' H ∧ StR K ρ' H st' ∧ VR K ρ' H v' x := ⟨_, _, _, rfl, g, s, r⟩
      cases v with
      | loc k =>
        simp only
        cases hk : st[k]? with
        | none => exact dflt
        | some o =>
          cases o with
          | lst ws =>
            simp only
            by_cases hw : clBs st0.length ws = true
            · rw [if_pos hw]
              obtain ⟨a, ha, us, hu, ru⟩ := s.ob k (.lst ws) hk
              have hka : ρ.length ≤ k := by
                simp only [clB, decide_eq_true_eq] at hc; omega
              rw [List.getElem?_append_right hka] at ha
              have ham : a ∈ m := List.mem_of_getElem? ha
              have hna : a ∉ ρ := fun z => by
                have := s.nd
                rw [List.nodup_append] at this
                exact this.2.2 a z a ham rfl
              obtain ⟨m', em, fm⟩ := g.pre
              have em' : m = m' := List.append_cancel_left em
              subst em'
              have ru' : VRs K ρ H ws us := VRs.less ws us (by rw [← hlen]; exact hw) ru
              refine ⟨_, _, ρ ++ [a], rfl, ⟨⟨[a], rfl, fun b hb => by
                have : b = a := by simpa using hb
                subst this; exact fm _ ham⟩, g.keep, g.live⟩, ?_, ?_⟩
              · refine ⟨by simp [s'.len], ?_, fun n o en => ?_⟩
                · rw [List.nodup_append]
                  exact ⟨s0.nd, List.nodup_cons.mpr ⟨by simp, List.nodup_nil⟩, fun b hb c hcc e => by
                    have : c = a := by simpa using hcc
                    subst this; subst e; exact hna hb⟩
                · by_cases hn : n < (st.take st0.length).length
                  · rw [List.getElem?_append_left hn] at en
                    obtain ⟨b, hb, hob⟩ := s'.ob n o en
                    refine ⟨b, by rw [List.getElem?_append_left (List.getElem?_eq_some_iff.mp hb).1]; exact hb, ?_⟩
                    cases o with
                    | lst ws2 =>
                      obtain ⟨us2, e2, r2⟩ := hob
                      exact ⟨us2, e2, VRs.more ws2 us2 r2⟩
                  · have hl2 : n < (st.take st0.length ++ [Ob.lst ws]).length := (List.getElem?_eq_some_iff.mp en).1
                    have : n = (st.take st0.length).length := by rw [List.length_append] at hl2; simp at hl2 hn ⊢; omega
                    subst this
                    rw [List.getElem?_append_right (Nat.le_refl _)] at en
                    simp at en; subst en
                    exact ⟨a, by rw [← s'.len, List.getElem?_append_right (Nat.le_refl _)]; simp, us, hu, VRs.more ws us ru'⟩
              · simp only [VR] at r ⊢
                obtain ⟨b, hb, rfl⟩ := r
                rw [List.getElem?_append_right hka, ha] at hb
                cases hb
                exact ⟨a, by rw [hlen]; simp, rfl⟩
            · rw [if_neg hw]; exact dflt
      | _ => exact dflt
  · rw [if_neg hg]
    exact ⟨_, _, _, rfl, g, s, r⟩
end
/-- a def's denotation by its body's -/
def fnDen (slots : Nat) (body : DS) : List W → Store → Res W := fun ws st =>
  match body (ws.map some ++ List.replicate (slots - ws.length) none) st with
  | .go (.rt v) _ st' => gc st v st'
  | .go .nx _ st' => gc st .non st'
  | .err c w _ st' => .err c w st'
  | _ => .stuck
/-- a def's promise -/
def SpM (K : PySem.W.Frag) (mg : Str → Option Value) (n : Nat) (den : List W → Store → Res W) : Sp := fun vs H Q E =>
  ∃ ρ ws st, StR K ρ H st ∧ VRs K ρ H ws vs ∧ ws.length = n ∧ Post K mg (fun c d _ H => E c d H) (relV K) ρ H [] (den ws st) Q
abbrev WxOf (E : XK) : WX := fun c d _ H => E c d H
section
variable {P : Program} {w : World} {K : PySem.W.Frag} {mg : Str → Option Value} {base : Heap}
/-- a def of the text keeps its promise -/
theorem fn_ok {x qual : Str} {st : Stmt} {f : Addr} {fd : FuncData} {N ps : List Str} {k : Nat} {body : DS} (F : Fun K x qual st f fd) (S : FnScope N ps (defScope st)) 
    (hb : ∀ (cdv : Value) (A : Around) (outer : List Env) (s : Shared) (H : Hp) (E : XK), Room k (A.deeper (envOfC qual (defScope st) s.heap.objs.size f cdv)) →
      ISs (cxOf (L2.CX P w) P w K mg base N qual (defScope st) f cdv A outer s H E) none (WxOf E) (defBody st) body) :
    FnOk P w K mg base (L2.CX P w) (k + 1) f fd ps (SpM K mg ps.length (fnDen N.length body)) := by
  refine F.okX S (fun vs H Q E h => ?_) (fun cdv A outer s H vs Q E hr h => ?_)
  · obtain ⟨ρ, ws, st, _, r, e, _⟩ := h
    rw [← VRs.length r, e]
  · obtain ⟨ρ, ws, st0, s0, r, hl, p⟩ := h
    refine ⟨_, hb cdv A outer s H E hr, ρ, ws.map some ++ List.replicate (N.length - ws.length) none, st0, s0, ?_, ?_⟩
    · refine ⟨?_, fun i w' e => ?_, fun _ h => nomatch h⟩
      · simp [L2.start, VRs.length r]
      · by_cases hi : i < ws.length
        · rw [List.getElem?_append_left (by simpa using hi)] at e
          rw [List.getElem?_map] at e
          cases hw : ws[i]? with
          | none => rw [hw] at e; cases e
          | some w2 =>
            rw [hw] at e
            cases e
            obtain ⟨v, e1, rv⟩ := r.get hw
            refine ⟨v, ?_, rv⟩
            unfold L2.start
            rw [List.getElem?_append_left (by rw [List.length_map, ← VRs.length r]; exact hi), List.getElem?_map, e1]
            rfl
        · rw [List.getElem?_append_right (by simpa using hi)] at e
          rw [List.getElem?_replicate] at e
          split at e <;> cases e
    · unfold fnDen at p
      generalize body (ws.map some ++ List.replicate (N.length - ws.length) none) st0 = res at p
      cases res with
      | stuck => exact p.elim
      | err c v env' st' => exact fun ρ' H' σ' cls d g s' e' er => p ρ' H' cls d g s' er
      | go f env' st' =>
        cases f with
        | bk => exact p.elim
        | ct => exact p.elim
        | nx =>
          intro ρ' H' σ' g s' e'
          obtain ⟨mm, em, _⟩ := id g.pre
          subst em
          obtain ⟨v', st2, ρ2, e2, g2, s2, r2⟩ := gc_ok (v := .non) (x := .non) s0 g s' (by simp [VR])
          simp only [e2] at p
          exact p ρ2 H' _ g2 s2 r2
        | rt v =>
          intro ρ' H' σ' g s' e' x rx
          obtain ⟨mm, em, _⟩ := id g.pre
          subst em
          obtain ⟨v', st2, ρ2, e2, g2, s2, r2⟩ := gc_ok s0 g s' rx
          simp only [e2] at p
          exact p ρ2 H' _ g2 s2 r2
end

/-! ### calls -/
section
variable {X : Cx} {ex : Option Exn} {Wx : WX} {pos p : Pos} {k : Nat} {f : Addr} {fd : FuncData} {ps ks : List Str} {n : Nat} {den : List W → Store → Res W} {x : Str} {e : Expr} {es : List Expr}
theorem sp_of {ρ : List Addr} {H : Hp} {st : Store} {σ : L2.St} {l : List W} {vs : List V} {Q : VK} (s : StR X.K ρ H st) (r : VRs X.K ρ H l vs) (hl : l.length = n) (p : Post X.K X.mg Wx (relV X.K) ρ H σ (den l st) Q) : SpM X.K X.mg n den vs H Q (WE Wx σ) := by
  refine ⟨ρ, l, st, s, r, hl, ?_⟩
  generalize den l st = res at p
  cases res with
  | ok a st' => exact p
  | err c v st' => exact p
  | stuck => exact p
/-- a def applied: the number of arguments is looked after -/
def dCall (n : Nat) (den : List W → Store → Res W) (m : D (List W)) : D W := fun env st => (m env st).bind fun l st1 => if l.length = n then den l st1 else .stuck
theorem ie_call {m : D (List W)} (F : FnOk X.prog X.w X.K X.mg X.base (L2.CX X.prog X.w) k f fd ps (SpM X.K X.mg n den)) (hr : Room k X.A) (hg : Gl X x) (hm : X.mg x = some (.ref f)) (hk : PySem.W.keepIn X.K (.ref f) = true) (hb : Binds X.K fd ps []) (tk : Takes X Wx)
    (ha : IA X ex Wx (e :: es) m) (hdb : (x == ("__debug__" : Str)) = false := by decide) (he : starEach (e :: es) X.env = (false, eval e X.env) :: starEach es X.env := by rfl) (hpl : (backTo pos (starEach es X.env)).any (·.1) = false := by rfl) :
    IE X ex Wx (.Call (.Name x p) (e :: es) [] pos) (dCall n den m) :=
  PE.of (pe_callS F hr hg hm hk hb (fun σ => passAt tk σ) ha hdb he hpl) fun σ H Q ⟨ρ, env, st, s, e, p⟩ => RG.bind s e p fun ρ1 H1 st1 l vs g s1 e1 r p1 => by
    split at p1
    · rename_i hl; exact sp_of s1 r hl p1
    · exact p1.elim
theorem pe_call0S {sp : Sp} {E : L2.St → XK} {CX : CXT} (F : FnOk X.prog X.w X.K X.mg X.base CX k f fd ps sp) (hr : Room k X.A) (hg : Gl X x) (hm : X.mg x = some (.ref f)) (hk : PySem.W.keepIn X.K (.ref f) = true) (hb : Binds X.K fd ps []) (hx : ∀ σ, PassesAt CX X σ (E σ))
    (hdb : (x == ("__debug__" : Str)) = false := by decide) : PE X (.Call (.Name x p) [] [] pos) (tCallS sp E tNil) := by
  refine ⟨fun pins s σ H Q I h => ?_⟩
  refine wpAny_Call_Name_kw (ld_glob I hg hm ?_ hdb)
  exact PySem.W.callWith_K0 I.kIn hk (run_fnS F hr hb (hx σ) I .nil h)
theorem ie_call0 (F : FnOk X.prog X.w X.K X.mg X.base (L2.CX X.prog X.w) k f fd ps (SpM X.K X.mg n den)) (hr : Room k X.A) (hg : Gl X x) (hm : X.mg x = some (.ref f)) (hk : PySem.W.keepIn X.K (.ref f) = true) (hb : Binds X.K fd ps []) (tk : Takes X Wx)
    (hdb : (x == ("__debug__" : Str)) = false := by decide) : IE X ex Wx (.Call (.Name x p) [] [] pos) (dCall n den dNil) :=
  PE.of (pe_call0S F hr hg hm hk hb (fun σ => passAt tk σ) hdb) fun σ H Q ⟨ρ, env, st, s, e, p⟩ => by
    show SpM X.K X.mg n den [] H Q (WE Wx σ)
    unfold dCall dNil at p
    simp only [Res.bind_ok] at p
    split at p
    · rename_i hl; exact sp_of s (by simp [VRs]) hl p
    · exact p.elim
/-- built-in functions and types -/
theorem ie_callB {id : String} {r : List V → Hp → VK → Prop} {g : List W → Store → Res W} {m : D (List W)} (hc : CallR X (.builtin id) r) (hf : CallOk X r g) (hg : Gl X x) (hm : X.mg x = none) (hv : bootBuiltins x = some (.builtin id)) (ha : IA X ex Wx (e :: es) m) (hn : x ≠ "__name__" := by decide)
    (hdb : (x == ("__debug__" : Str)) = false := by decide) (he : starEach (e :: es) X.env = (false, eval e X.env) :: starEach es X.env := by rfl) (hpl : (backTo pos (starEach es X.env)).any (·.1) = false := by rfl) : IE X ex Wx (.Call (.Name x p) (e :: es) [] pos) (dApp g m) :=
  PE.of (pe_callB hc hg hm hv ha hn hdb he hpl) fun σ H Q ⟨ρ, env, st, s, e, p⟩ => RG.bind s e p fun ρ1 H1 st1 l vs g s1 e1 r p1 => hf Wx ρ1 H1 st1 σ l vs Q s1 r p1
theorem ie_callTy {T : String} {r : List V → Hp → VK → Prop} {g : List W → Store → Res W} {m : D (List W)} (hc : CallR X (.type T) r) (hf : CallOk X r g) (hg : Gl X x) (hm : X.mg x = none) (hv : bootBuiltins x = some (.type T)) (ha : IA X ex Wx (e :: es) m) (hn : x ≠ "__name__" := by decide)
    (hdb : (x == ("__debug__" : Str)) = false := by decide) (he : starEach (e :: es) X.env = (false, eval e X.env) :: starEach es X.env := by rfl) (hpl : (backTo pos (starEach es X.env)).any (·.1) = false := by rfl) : IE X ex Wx (.Call (.Name x p) (e :: es) [] pos) (dApp g m) :=
  PE.of (pe_callTy hc hg hm hv ha hn hdb he hpl) fun σ H Q ⟨ρ, env, st, s, e, p⟩ => RG.bind s e p fun ρ1 H1 st1 l vs g s1 e1 r p1 => hf Wx ρ1 H1 st1 σ l vs Q s1 r p1
/-- methods of built-in types; ty: the receiver is of the type -/
def dBm (ty : W → Store → Bool) (g : W → List W → Store → Res W) (mo : D W) (m : D (List W)) : D W := fun env st => (mo env st).bind fun a st1 => if ty a st1 = true then (m env st1).bind fun l st2 => g a l st2 else .stuck
def MtOk (X : Cx) (r : V → List V → Hp → VK → Prop) (g : W → List W → Store → Res W) : Prop :=
  ∀ (Wx : WX) (ρ : List Addr) (H : Hp) (st : Store) (σ : L2.St) (a : W) (l : List W) (x : V) (vs : List V) (Q : VK), StR X.K ρ H st → VR X.K ρ H a x → VRs X.K ρ H l vs → Post X.K X.mg Wx (relV X.K) ρ H σ (g a l st) Q → r x vs H Q
def TyOk (X : Cx) (T : String) (ty : W → Store → Bool) : Prop :=
  ∀ (ρ : List Addr) (H : Hp) (st : Store) (a : W) (x : V), StR X.K ρ H st → VR X.K ρ H a x → ty a st = true → tyV X.K T x H
theorem ie_bm {T name id : String} {o : Expr} {apos cpos : Pos} {r : V → List V → Hp → VK → Prop} {mo : D W} {m : D (List W)} {g : W → List W → Store → Res W} {ty : W → Store → Bool} (pa : PlainAttrs T) (slot : Slot T name id) (hty : typeOf (.builtin id) = pure (.type "method_descriptor")) (hm : MtR X id r) 
    (hf : MtOk X r g) (hv : TyOk X T ty) (ho : IE X ex Wx o mo) (ha : IA X ex Wx (e :: es) m)
    (hbase : attributeBase o name X.env (eval o X.env) = eval o X.env := by rfl)
    (hfew : ((backTo cpos (starEach (e :: es) X.env)).all (fun x => !x.1) && (backToKw cpos (keywordEach [] X.env)).all (fun x => x.1.isSome)
      && decide ((e :: es).length + ([] : List Keyword).length + (if ([] : List Keyword).isEmpty then 0 else 1) < 30)) = true := by rfl)
    (hline : (apos.endLine == cpos.line) = true := by rfl) (hs : starEach (e :: es) X.env = (false, eval e X.env) :: starEach es X.env := by rfl) (hplain : (backTo cpos (starEach es X.env)).any (·.1) = false := by rfl) :
    IE X ex Wx (.Call (.Attribute o name apos) (e :: es) [] cpos) (dBm ty g mo m) :=
  PE.of (pe_bm pa slot hty hm ho ha hbase hfew hline hs hplain) fun σ H Q ⟨ρ, env, st, s, e, p⟩ => RG.bind s e p fun ρ1 H1 st1 a x g1 s1 e1 ra p1 => by
    split at p1
    · rename_i ht
      exact ⟨hv ρ1 H1 st1 a x s1 ra ht, RG.bind s1 e1 p1 fun ρ2 H2 st2 l vs g2 s2 e2 rl p2 => hf Wx ρ2 H2 st2 σ a l x vs Q s2 (VR.grow s1.apart g2 a x ra) rl p2⟩
    · exact p1.elim
theorem ie_bm0 {T name id : String} {o : Expr} {apos cpos : Pos} {r : V → List V → Hp → VK → Prop} {mo : D W} {g : W → List W → Store → Res W} {ty : W → Store → Bool} (pa : PlainAttrs T) (slot : Slot T name id) (hty : typeOf (.builtin id) = pure (.type "method_descriptor")) (hm : MtR X id r) 
    (hf : MtOk X r g) (hv : TyOk X T ty) (ho : IE X ex Wx o mo)
    (hbase : attributeBase o name X.env (eval o X.env) = eval o X.env := by rfl) (hline : (apos.endLine == cpos.line) = true := by rfl) :
    IE X ex Wx (.Call (.Attribute o name apos) [] [] cpos) (dBm ty g mo dNil) :=
  PE.of (pe_bm0 pa slot hty hm ho hbase hline) fun σ H Q ⟨ρ, env, st, s, e, p⟩ => RG.bind s e p fun ρ1 H1 st1 a x g1 s1 e1 ra p1 => by
    split at p1
    · rename_i ht
      exact ⟨hv ρ1 H1 st1 a x s1 ra ht, hf Wx ρ1 H1 st1 σ a [] x [] Q s1 ra (by simp [VRs]) p1⟩
    · exact p1.elim
end
end
end MP
namespace MP
open PySem PySem.Spec PyProof.Rows L2
open Classical
noncomputable section

/-! ### errors -/
/-- the promise of an error's __init__: self.value = value -/
def spExc (K : PySem.W.Frag) : Sp := fun vs H Q _ => ∃ (a C : Addr) (y : V), vs = [.ref a, y] ∧ OexC K C ∧ PySem.W.findIn K (.ref C) ("value" : Str) = some none ∧ H a = some (exo a C none) ∧
  ∀ d, H d = none → d ≠ a → Q .non (upd (upd H d (exd d [(("value" : Str), y)])) a (exo a C (some d)))
section
variable {P : Program} {w : World} {K : PySem.W.Frag} {mg : Str → Option Value} {base : Heap}
theorem exc_init_ok {x qual : Str} {st : Stmt} {f : Addr} {fd : FuncData} {p1 p2 p3 p4 : Pos} (F : Fun K x qual st f fd) (S : FnScope ["self", "value"] ["self", "value"] (defScope st))
    (hst : defBody st = [.Assign [.Attribute (.Name "self" p1) "value" p2] (.Name "value" p3) p4]) (hv1 : (defScope st).names.lookup ("self" : Str) = some NameKind.local) (hv2 : (defScope st).names.lookup ("value" : Str) = some NameKind.local) :
    FnOk P w K mg base (L2.CX P w) 1 f fd ["self", "value"] (spExc K) := by
  refine F.okX S (fun vs H Q E h => ?_) (fun cdv A outer s H vs Q E hr h => ?_)
  · obtain ⟨a, C, y, rfl, _⟩ := h
    rfl
  · rw [hst]
    refine ⟨_, pss_one (ps_ost (pv 0 rfl (.inl hv1)) (pv 1 rfl (.inl hv2))), ?_⟩
    obtain ⟨a, C, y, rfl, T, hn, ha, q⟩ := h
    exact ⟨y, rfl, .ref a, rfl, a, C, rfl, T, hn, .inl ⟨ha, fun d hd ne => q d hd ne⟩⟩
end
/-- what the written part says of an error class with the __init__ at f -/
structure ErrC (K : PySem.W.Frag) (mg : Str → Option Value) (x : Str) (C f : Addr) : Prop where
  cls : OexC K C
  mgC : mg x = some (.ref C)
  ini : PySem.W.findIn K (.ref C) "__init__" = some (some (.ref f))
  ity : PySem.W.typeIn K (.ref f) = some (.type "function")
  noV : PySem.W.findIn K (.ref C) ("value" : Str) = some none
  xf : XfC K C
def sRaise (x : Str) (m : D (List W)) : DS := fun env st => (m env st).then env fun l st1 => match l with
  | [w] => .err x w env st1
  | _ => .stuck
section
variable {X : Cx} {ex : Option Exn} {Wx : WX} {pos pos2 p : Pos} {k : Nat} {f C : Addr} {fd : FuncData} {x : Str} {e : Expr}
theorem raise_heap {H : Hp} {a d : Addr} {C : Addr} {y : V} (ha : H a = none) (hd : upd H a (exo a C none) d = none) (hda : d ≠ a) :
    upd (del (upd (upd (upd H a (exo a C none)) d (exd d [(("value" : Str), y)])) a (exo a C (some d))) a) d (.xd [(("value" : Str), y)]) = upd H d (.xd [(("value" : Str), y)]) := by
  funext b
  by_cases h1 : b = d
  · rw [h1, upd_same, upd_same]
  · rw [upd_ne h1, upd_ne h1]
    by_cases h2 : b = a
    · rw [h2, del_same, ha]
    · rw [del_ne h2, upd_ne h2, upd_ne h1, upd_ne h2]
theorem is_raise {m : D (List W)} (hc : X.calm = true) (tk : Takes X Wx) (T : ErrC X.K X.mg x C f) (F : FnOk X.prog X.w X.K X.mg X.base (L2.CX X.prog X.w) k f fd ["self", "value"] (spExc X.K)) (hr : Room (k + 1) X.A) (hb : Binds X.K fd ["self", "value"] []) (hg : Gl X x)
    (ha : IA X ex Wx [e] m) (hdb : (x == ("__debug__" : Str)) = false := by decide) (he : starEach [e] X.env = (false, eval e X.env) :: starEach [] X.env := by rfl) (hpl : (backTo pos (starEach [] X.env)).any (·.1) = false := by rfl) :
    IS X ex Wx (.Raise (some (.Call (.Name x p) [e] [] pos)) none pos2) (sRaise x m) :=
  PS.of (ps_raise hc tk (pmk_oex T.cls T.ini T.ity F hr hb .nil passL hg T.mgC ha hdb he hpl)) fun De σ H ⟨ρ, env, st, s, e, q⟩ => RS.step (rel := relVs X.K) s e q fun ρ1 H1 st1 l vs g s1 e1 r q1 => by
    match l, r, q1 with
    | [w], r, q1 =>
      have r' := r
      simp only [relVs, VRs] at r'
      obtain ⟨y, _, rfl, ry, rfl⟩ := r'
      refine ⟨by show 1 ≤ 1000; decide, fun a na => ⟨a, C, y, rfl, T.cls, T.noV, upd_same, fun d nd dne => ⟨rfl, d, [(("value" : Str), y)], upd_same, ?_, ?_, ?_⟩⟩⟩
      · rw [upd_ne dne, upd_same]
      · rw [upd_ne dne] at nd; exact nd
      · rw [raise_heap na nd dne]
        have nd1 : H1 d = none := by rw [upd_ne dne] at nd; exact nd
        exact q1 ρ1 _ σ _ _ (grow_imm nd1) (s1.grow_imm nd1) (e1.grow s1.apart (grow_imm nd1)) ⟨C, d, y, T.mgC, rfl, rfl, upd_same, s1.none_of nd1, VR.grow s1.apart (grow_imm nd1) w y ry⟩
/-! ### try .. except X as n -/
def unAt (i : Nat) (r : RsS) : RsS := match r with
  | .go f env st => .go f (env.set i none) st
  | .err _ _ _ _ => .stuck
  | .stuck => .stuck
/-- sub: which error names the clause takes (none: not known) -/
def sTryAs (i : Nat) (b : DS) (sub : Str → Option Bool) (su : Str → W → DS) : DS := fun env st => match b env st with
  | .err c w env1 st1 => match sub c with
    | some true => if i < env1.length then unAt i (su c w (env1.set i none) st1) else .stuck
    | some false => .err c w env1 st1
    | none => .stuck
  | r => r
def SubOk (X : Cx) (cv : Value) (sub : Str → Option Bool) : Prop := ∀ c b, sub c = some b → ∀ C, X.mg c = some (.ref C) → PySem.W.exmOne X.K (.ref C) cv = some b ∧ (b = true → XfC X.K C ∧ PySem.W.findIn X.K (.ref C) ("value" : Str) = some none)
/-- the suite: over each error that comes -/
def SuOk (X : Cx) (i : Nat) (stmts : List Stmt) (sub : Str → Option Bool) (su : Str → W → DS) : Prop :=
  ∀ (c : Str) (C dd a : Addr) (y : V) (w : W) (oe : Obj) (pn : List (Addr × Obj)), sub c = some true → X.mg c = some (.ref C) → XfC X.K C → PySem.W.findIn X.K (.ref C) ("value" : Str) = some none → Zc (.ref C) (some dd) oe → (∃ vs, oe.data = .fields vs) → ISs (X.suite a ((a, oe) :: pn)) (some ⟨i, a, dd, y, w⟩) W0 stmts (su c w)
theorem pss_ex {X : Cx} {st : List Stmt} {α : Type} {t : α → TS} (h : ∀ a, PSs X st (t a)) : PSs X st (fun D σ H => ∃ a, t a D σ H) := ⟨fun pins s σ H D I ⟨a, q⟩ => (h a).run pins s σ H D I q⟩
theorem pss_and {X : Cx} {st : List Stmt} {φ : Prop} {t : TS} (h : φ → PSs X st t) : PSs X st (fun D σ H => φ ∧ t D σ H) := ⟨fun pins s σ H D I ⟨f, q⟩ => (h f).run pins s σ H D I q⟩
theorem is_try_as {x n : Str} {c : Value} {i : Nat} {body suite : List Stmt} {b₀ : Stmt} {np pos' : Pos} {b : DS} {sub : Str → Option Bool} {su : Str → W → DS} (hs : X.stack = X.env :: X.outer) (hf : X.env.frame = some X.env.locals) (hN : X.N.Nodup) (hi : X.N[i]? = some n) (hln : X.env.kindOf n = some .local) (hc : Names X x c) (tk : Takes X Wx)
    (hb : ∀ (W : WX) (pn : List (Addr × Obj)) (xe : Value → Shared → Prop), Takes (X.tr pn xe) W → PassesOwn (model X.prog X.w) X.A X.env xe → ISs (X.tr pn xe) none W body b) (hsub : SubOk X c sub) (hsu : SuOk X i (b₀ :: suite) sub su) :
    IS X none Wx (.Try body [.ExceptHandler (some (.Name x np)) (some n) (b₀ :: suite) pos'] [] [] pos) (sTryAs i b sub su) := by
  refine PS.of (ps_try_as (tb := fun W => RS X none W b)
    (ts := fun a cls d De σ H => ∃ (c1 : Str) (C dd : Addr) (y : V) (w : MP.W), (sub c1 = some true ∧ X.mg c1 = some (.ref C) ∧ cls = .ref C ∧ d = some dd ∧ XfC X.K C ∧ PySem.W.findIn X.K (.ref C) ("value" : Str) = some none) ∧ RS X (some ⟨i, a, dd, y, w⟩) W0 (su c1 w) De σ H) hs hf hN hi hln hc tk hb ?_) ?_
  · intro a oe cls d pn hz hfv
    refine pss_ex fun c1 => pss_ex fun C => pss_ex fun dd => pss_ex fun y => pss_ex fun w => pss_and fun h => ?_
    obtain ⟨hs1, hm1, rfl, rfl, xf, nv⟩ := h
    exact hsu c1 C dd a y w oe pn hs1 hm1 xf nv hz hfv
  · intro De σ H ⟨ρ, env, st, s, e, q⟩
    refine ⟨ρ, env, st, s, e, ?_⟩
    unfold sTryAs at q
    generalize b env st = res at q
    cases res with
    | stuck => exact q
    | go f env1 st1 => exact q
    | err c1 w env1 st1 =>
      intro ρ' H' σ' cls d g s' e' er
      simp only at q
      obtain ⟨C, dd, y, hm, rfl, rfl, hx, ndd, rw⟩ := id er
      cases hsb : sub c1 with
      | none => rw [hsb] at q; exact q.elim
      | some bb =>
        rw [hsb] at q
        obtain ⟨hb1, hb2⟩ := hsub c1 bb hsb C hm
        refine ⟨bb, hb1, fun hbt a na => ?_, fun hbf => ?_⟩
        · subst hbt
          simp only at q
          obtain ⟨xf, nv⟩ := hb2 rfl
          by_cases hil0 : i < env1.length
          case neg => rw [if_neg hil0] at q; exact q.elim
          rw [if_pos hil0] at q
          refine ⟨c1, C, dd, y, w, ⟨hsb, hm, rfl, rfl, xf, nv⟩, ρ', env1.set i none, st1, s', ⟨by simp [e'.len], fun j w' h => ?_, fun x h => ?_⟩, ?_⟩
          · by_cases hj : i = j
            · subst hj
              rw [List.getElem?_set] at h
              split at h
              · first | cases h | (split at h <;> cases h)
              · rename_i z; exact absurd rfl z
            · rw [List.getElem?_set_ne hj] at h
              obtain ⟨v, h1, h2⟩ := e'.at_ j w' h
              exact ⟨v, by rw [List.getElem?_set_ne hj]; exact h1, h2⟩
          · cases h
            refine ⟨?_, hx, ndd, rw⟩
            have hil : i < σ'.length := by rw [e'.len]; exact hil0
            show (σ'.set i (some (V.ref a)))[i]? = _
            rw [List.getElem?_set_self hil]
          · generalize su c1 w (env1.set i none) st1 = r2 at q
            have q := PostS.mono q g
            cases r2 with
            | stuck => exact q
            | err c2 w2 env2 st2 => exact q.elim
            | go f env2 st2 =>
              intro ρ2 H2 σ2 g2 s2 e2
              have e3 : EnvR X.K none ρ2 H2 (env2.set i none) (σ2.set i none) := ⟨by simp [e2.len], fun j w' h => by
                by_cases hj : i = j
                · subst hj
                  rw [List.getElem?_set] at h
                  split at h
                  · first | cases h | (split at h <;> cases h)
                  · rename_i z; exact absurd rfl z
                · rw [List.getElem?_set_ne hj] at h
                  obtain ⟨v, h1, h2⟩ := e2.at_ j w' h
                  exact ⟨v, by rw [List.getElem?_set_ne hj]; exact h1, h2⟩, fun _ h => nomatch h⟩
              have z := q ρ2 H2 (σ2.set i none) g2 s2 e3
              cases f with
              | nx => exact z
              | bk => exact z
              | ct => exact z
              | rt v => exact z
        · subst hbf
          simp only at q
          exact q ρ' H' σ' _ _ g s' e' er
/-- n.value in the suite -/
def dExc (w : W) : D W := fun _ st => .ok w st
theorem ie_exc {a C dd : Addr} {y : V} {w : W} {i : Nat} {oe : Obj} {pn : List (Addr × Obj)} {n : Str} {q1 : Pos} (T : XfC X.K C) (hno : PySem.W.findIn X.K (.ref C) ("value" : Str) = some none) (hz : Zc (.ref C) (some dd) oe) (hf : ∃ vs, oe.data = .fields vs)
    (hN : X.N[i]? = some n) (hv : Vis X.env.scope n) (hd : (n == ("__debug__" : Str)) = false := by decide) (hcd : (n == ("__classdict__" : Str)) = false := by decide) :
    IE (X.suite a ((a, oe) :: pn)) (some ⟨i, a, dd, y, w⟩) Wx (.Attribute (.Name n q1) "value" pos) (dExc w) := by
  refine PE.of (pe_xf T hno hz hf (pe_var (i := i) hN hv hd hcd)) fun σ H Q ⟨ρ, env, st, s, e, p⟩ => ?_
  obtain ⟨h1, h2, h3, h4⟩ := e.exc _ rfl
  exact ⟨.ref a, h1, rfl, rfl, dd, _, y, rfl, h2, by simp [List.lookup], p.ok_ s h4⟩
end
end
end MP
namespace MP
open PySem PySem.Spec PyProof.Rows L2
open Classical
noncomputable section

section
variable {X : Cx} {ex : Option Exn} {Wx : WX} {pos : Pos}
theorem loc_lst {ρ : List Addr} {H : Hp} {st : Store} {n : Nat} {x : V} {xs : List W} (s : StR X.K ρ H st) (r : VR X.K ρ H (.loc n) x) (h : st[n]? = some (.lst xs)) : ∃ a us, ρ[n]? = some a ∧ x = .ref a ∧ H a = some (.lst us) ∧ VRs X.K ρ H xs us := by
  simp only [VR] at r
  obtain ⟨a, ha, rfl⟩ := r
  obtain ⟨b, hb, us, hu, rs⟩ := s.ob n _ h
  rw [ha] at hb; cases hb
  exact ⟨a, us, ha, rfl, hu, rs⟩
theorem tup_of {ρ : List Addr} {H : Hp} {x : V} {xs : List W} (r : VR X.K ρ H (.tup xs) x) : ∃ a us, x = .ref a ∧ TpF X.K H a us ∧ VRs X.K ρ H xs us := by
  simpa only [VR] using r
theorem fro_of {ρ : List Addr} {H : Hp} {x : V} {xs : List W} (r : VR X.K ρ H (.fro xs) x) : ∃ a us, x = .ref a ∧ SqF X.K H a us ∧ VRs X.K ρ H xs us := by
  simpa only [VR] using r
theorem int_of {ρ : List Addr} {H : Hp} {x : V} {i : Int} (r : VR X.K ρ H (.int i) x) : x = .int i := by simpa only [VR] using r
theorem str_of {ρ : List Addr} {H : Hp} {x : V} {i : Str} (r : VR X.K ρ H (.str i) x) : x = .str i := by simpa only [VR] using r
theorem bl_of {ρ : List Addr} {H : Hp} {x : V} {i : Bool} (r : VR X.K ρ H (.bl i) x) : x = .bl i := by simpa only [VR] using r
theorem non_of {ρ : List Addr} {H : Hp} {x : V} (r : VR X.K ρ H .non x) : x = .non := by simpa only [VR] using r
/-- an answer that is a new list -/
theorem post_lst {ρ : List Addr} {H : Hp} {st : Store} {σ : L2.St} {l : List W} {us : List V} {Q : VK} (s : StR X.K ρ H st) (r : VRs X.K ρ H l us) (p : Post X.K X.mg Wx (relV X.K) ρ H σ (.ok (.loc st.length) (st ++ [.lst l])) Q) : ∀ q, H q = none → Q (.ref q) (upd H q (.lst us)) := fun q hq => by
  obtain ⟨a, b⟩ := lst_new s r hq
  exact p (ρ ++ [q]) _ _ (grow_new hq) a b
theorem post_tup {ρ : List Addr} {H : Hp} {st : Store} {σ : L2.St} {l : List W} {us : List V} {Q : VK} (s : StR X.K ρ H st) (r : VRs X.K ρ H l us) (p : Post X.K X.mg Wx (relV X.K) ρ H σ (.ok (.tup l) st) Q) : ∀ q, H q = none → Q (.ref q) (upd H q (.tup us)) := fun q hq =>
  p ρ _ _ (grow_imm hq) (s.grow_imm hq) (tup_new s r hq)
theorem post_int {ρ : List Addr} {H : Hp} {st : Store} {σ : L2.St} {i : Int} {Q : VK} (s : StR X.K ρ H st) (p : Post X.K X.mg Wx (relV X.K) ρ H σ (.ok (.int i) st) Q) : Q (.int i) H := p.ok_ s (by simp [VR])
theorem post_str {ρ : List Addr} {H : Hp} {st : Store} {σ : L2.St} {i : Str} {Q : VK} (s : StR X.K ρ H st) (p : Post X.K X.mg Wx (relV X.K) ρ H σ (.ok (.str i) st) Q) : Q (.str i) H := p.ok_ s (by simp [VR])
theorem post_bl {ρ : List Addr} {H : Hp} {st : Store} {σ : L2.St} {i : Bool} {Q : VK} (s : StR X.K ρ H st) (p : Post X.K X.mg Wx (relV X.K) ρ H σ (.ok (.bl i) st) Q) : Q (.bl i) H := p.ok_ s (by simp [VR])
/-! ### + - * // % ** -/
def lst2 (st : Store) (m n : Nat) : Option (List W × List W) := match st[m]?, st[n]? with
  | some (.lst xs), some (.lst ys) => some (xs, ys)
  | _, _ => none
def addW (a b : W) (st : Store) : Res W := match a, b with
  | .int i, .int j => .ok (.int (i + j)) st
  | .str x, .str y => if x.length + y.length ≤ sizeLine then .ok (.str (x ++ y)) st else .stuck
  | .tup xs, .tup ys => if xs.length + ys.length ≤ sizeLine then .ok (.tup (xs ++ ys)) st else .stuck
  | .loc m, .loc n => match lst2 st m n with
    | some (xs, ys) => if xs.length + ys.length ≤ sizeLine then .ok (.loc st.length) (st ++ [.lst (xs ++ ys)]) else .stuck
    | none => .stuck
  | _, _ => .stuck
theorem lst2_of {st : Store} {m n : Nat} {xs ys : List W} (h : lst2 st m n = some (xs, ys)) : st[m]? = some (.lst xs) ∧ st[n]? = some (.lst ys) := by
  unfold lst2 at h
  split at h
  · rename_i h1 h2; cases h; exact ⟨h1, h2⟩
  · cases h
def rAdd (K : PySem.W.Frag) : R2 := fun x y H Q => (rI0 (fun i j => .int (i + j)) x y H Q) ∨ ((∃ i j, x = .str i ∧ y = .str j ∧ i.length + j.length ≤ sizeLine ∧ Q (.str (i ++ j)) H) ∨ (rCatA K x y H Q ∨ rCat x y H Q))
theorem opr_add : OpR X (binaryOp .Add) (rAdd X.K) := OpR.or op_add (OpR.or op_add_str (OpR.or op_catA op_cat))
theorem add_ok : OpOk X (rAdd X.K) addW := fun Wx ρ H st σ a b x y Q s ra rb p => by
  unfold addW at p
  split at p
  · rw [int_of ra, int_of rb]
    exact .inl ⟨_, _, rfl, rfl, post_int s p⟩
  · rw [str_of ra, str_of rb]
    split at p
    · rename_i hz
      exact .inr (.inl ⟨_, _, rfl, rfl, hz, post_str s p⟩)
    · exact p.elim
  · split at p
    · rename_i xs ys hz
      obtain ⟨a1, us, rfl, ht, r1⟩ := tup_of ra
      obtain ⟨b1, vs, rfl, hu, r2⟩ := tup_of rb
      refine .inr (.inr (.inl ⟨a1, b1, us, vs, rfl, rfl, ht.sq, hu.sq, by rw [← VRs.length r1, ← VRs.length r2]; exact hz, fun e => ?_, fun _ e => ?_, fun _ _ => post_tup s (r1.append r2) p⟩))
      · refine p.ok_ s ?_
        have e1 : xs = [] := by cases xs with
          | nil => rfl
          | cons _ _ => have := VRs.length r1; rw [e] at this; simp at this
        subst e1
        simp only [List.nil_append, relV, VR]
        exact ⟨b1, vs, rfl, hu, r2⟩
      · refine p.ok_ s ?_
        have e1 : ys = [] := by cases ys with
          | nil => rfl
          | cons _ _ => have := VRs.length r2; rw [e] at this; simp at this
        subst e1
        simp only [List.append_nil, relV, VR]
        exact ⟨a1, us, rfl, ht, r1⟩
    · exact p.elim
  · split at p
    · rename_i xs ys hl
      obtain ⟨h1, h2⟩ := lst2_of hl
      split at p
      · rename_i hz
        obtain ⟨a1, us, _, rfl, hu, r1⟩ := loc_lst s ra h1
        obtain ⟨b1, vs, _, rfl, hv, r2⟩ := loc_lst s rb h2
        exact .inr (.inr (.inr ⟨a1, b1, us, vs, rfl, rfl, hu, hv, by rw [← VRs.length r1, ← VRs.length r2]; exact hz, post_lst s (r1.append r2) p⟩))
      · exact p.elim
    · exact p.elim
  · exact p.elim
theorem ie_add {a b : Expr} {ma mb : D W} (ha : IE X ex Wx a ma) (hb : IE X ex Wx b mb) : IE X ex Wx (.BinOp a .Add b pos) (dOp addW ma mb) := ie_op opr_add add_ok ha hb
def subW (a b : W) (st : Store) : Res W := match a, b with
  | .int i, .int j => .ok (.int (i - j)) st
  | _, _ => .stuck
theorem sub_ok : OpOk X (rI0 fun i j => .int (i - j)) subW := fun Wx ρ H st σ a b x y Q s ra rb p => by
  unfold subW at p
  split at p
  · rw [int_of ra, int_of rb]; exact ⟨_, _, rfl, rfl, post_int s p⟩
  · exact p.elim
theorem ie_sub {a b : Expr} {ma mb : D W} (ha : IE X ex Wx a ma) (hb : IE X ex Wx b mb) : IE X ex Wx (.BinOp a .Sub b pos) (dOp subW ma mb) := ie_op op_sub sub_ok ha hb
theorem op_mulI : OpR X (binaryOp .Mult) (rI IntMulOk fun i j => .int (i * j)) := opI fun _ _ _ _ _ _ _ hc q => mul_int q hc
/-- z, k times -/
def repS (z : Str) (k : Nat) : Str := ⟨(List.replicate k z.cps).foldl (· ++ ·) #[]⟩
def CRepS (z : Str) (k : Int) : Prop := 2 ≤ k ∧ k ≤ 1000 ∧ (1 ≤ z.length ∨ z.length = 0) ∧ z.length ≤ 1000 ∧ (repS z k.toNat).length ≤ sizeLine
theorem op_mulS : OpR X (binaryOp .Mult) (fun x y H Q => ∃ z k, x = .str z ∧ y = .int k ∧ CRepS z k ∧ Q (.str (repS z k.toNat)) H) := by
  intro pins s σ H x y v u Q I rx ry h
  obtain ⟨z, k, rfl, rfl, ⟨h1, h2, h3, h4, h5⟩, q⟩ := h
  obtain ⟨t, rfl⟩ := rx
  obtain ⟨t', rfl⟩ := ry
  have hk1 : (k == 1) = false := by simp; omega
  have h63 : (decide (k < -(2 ^ 63 : Int)) || decide (k ≥ 2 ^ 63)) = false := by
    have a1 : ¬ k < -(2 ^ 63 : Int) := by omega
    have a2 : ¬ k ≥ 2 ^ 63 := by omega
    rw [decide_eq_false a1, decide_eq_false a2]; rfl
  rcases h3 with h3 | h3
  · have hz0 : (z.length == 0) = false := by simp; omega
    refine PySem.P.mul_str h63 (fun _ _ => ?_) (fun _ _ => ?_) ?_
    · have : (2 : Int) ^ 63 - 1 = 9223372036854775807 := by decide
      rw [this]
      intro hgt
      have h6 : (1000 : Int) ≤ 9223372036854775807 / k := by
        rw [Int.le_ediv_iff_mul_le (by omega)]; omega
      omega
    · have hle : z.length * k.toNat ≤ 1000 * 1000 := Nat.mul_le_mul h4 (by omega)
      exact decide_eq_false (by rw [sizeLine_eq]; omega)
    · rw [if_neg (by omega), hk1, hz0]
      exact ⟨h5, .str _, H, I.tok _, ⟨_, rfl⟩, q⟩
  · have hz0 : (z.length == 0) = true := by simp [h3]
    have hz : z = ⟨#[]⟩ := by
      cases z with
      | mk c =>
        have : c.size = 0 := h3
        rw [Array.eq_empty_of_size_eq_zero this]
    have hr : ∀ m : Nat, repS ⟨#[]⟩ m = ⟨#[]⟩ := fun m => by
      have : ∀ (m : Nat), (List.replicate m (#[] : Array Nat)).foldl (· ++ ·) #[] = #[] := fun m => by
        induction m with
        | zero => rfl
        | succ m ih => rw [List.replicate_succ, List.foldl_cons]; exact ih
      unfold repS
      rw [this m]
    refine PySem.P.mul_str h63 (fun _ h => ?_) (fun _ h => ?_) ?_
    · rw [hz0, Bool.or_true] at h; cases h
    · rw [hz0, Bool.or_true] at h; cases h
    · rw [if_neg (by omega), hk1, hz0]
      rw [hz, hr, ← hz] at q
      exact ⟨.str _, H, I, ⟨_, rfl⟩, q⟩
def mulW (a b : W) (st : Store) : Res W := match a, b with
  | .int i, .int j => if IntMulOk i j then .ok (.int (i * j)) st else .stuck
  | .str z, .int k => if CRepS z k then .ok (.str (repS z k.toNat)) st else .stuck
  | .loc m, .int k => match st[m]? with
    | some (.lst xs) => if -(2 ^ 63) ≤ k ∧ k < 2 ^ 63 ∧ xs.length * k.toNat ≤ sizeLine then .ok (.loc st.length) (st ++ [.lst (List.replicate k.toNat xs).flatten]) else .stuck
    | _ => .stuck
  | _, _ => .stuck
theorem VRs.rep {K : PySem.W.Frag} {ρ : List Addr} {H : Hp} {ws : List W} {us : List V} (r : VRs K ρ H ws us) : ∀ n : Nat, VRs K ρ H (List.replicate n ws).flatten (List.replicate n us).flatten
  | 0 => by simp [VRs]
  | n + 1 => by
    simp only [List.replicate_succ, List.flatten_cons]
    exact r.append (r.rep n)
theorem mul_ok : OpOk X (fun x y H Q => rI IntMulOk (fun i j => .int (i * j)) x y H Q ∨ ((∃ z k, x = .str z ∧ y = .int k ∧ CRepS z k ∧ Q (.str (repS z k.toNat)) H) ∨ rRep x y H Q)) mulW := fun Wx ρ H st σ a b x y Q s ra rb p => by
  unfold mulW at p
  split at p
  · split at p
    · rename_i hz
      rw [int_of ra, int_of rb]; exact .inl ⟨_, _, rfl, rfl, hz, post_int s p⟩
    · exact p.elim
  · split at p
    · rename_i hz
      rw [str_of ra, int_of rb]; exact .inr (.inl ⟨_, _, rfl, rfl, hz, post_str s p⟩)
    · exact p.elim
  · split at p
    · rename_i xs hl
      split at p
      · rename_i hz
        obtain ⟨a1, us, _, rfl, hu, r1⟩ := loc_lst s ra hl
        rw [int_of rb]
        exact .inr (.inr ⟨a1, _, us, rfl, rfl, hu, hz.1, hz.2.1, by rw [← VRs.length r1]; exact hz.2.2, post_lst s (r1.rep _) p⟩)
      · exact p.elim
    · exact p.elim
  · exact p.elim
theorem ie_mul {a b : Expr} {ma mb : D W} (ha : IE X ex Wx a ma) (hb : IE X ex Wx b mb) : IE X ex Wx (.BinOp a .Mult b pos) (dOp mulW ma mb) := ie_op (OpR.or op_mulI (OpR.or op_mulS op_rep)) mul_ok ha hb
def fdivW (a b : W) (st : Store) : Res W := match a, b with
  | .int i, .int j => if CDivW i j then .ok (.int (i / j)) st else .stuck
  | _, _ => .stuck
theorem fdiv_ok : OpOk X (rI CDivW fun i j => .int (i / j)) fdivW := fun Wx ρ H st σ a b x y Q s ra rb p => by
  unfold fdivW at p
  split at p
  · split at p
    · rename_i hz
      rw [int_of ra, int_of rb]; exact ⟨_, _, rfl, rfl, hz, post_int s p⟩
    · exact p.elim
  · exact p.elim
theorem ie_fdiv {a b : Expr} {ma mb : D W} (ha : IE X ex Wx a ma) (hb : IE X ex Wx b mb) : IE X ex Wx (.BinOp a .FloorDiv b pos) (dOp fdivW ma mb) := ie_op op_fdivW fdiv_ok ha hb
theorem op_modP : OpR X (binaryOp .Mod) (rI (fun _ j => 0 < j) fun i j => .int (i % j)) := opI fun i j _ _ _ _ _ hc q => mod_int' (by omega) (by rw [Int.fmod_eq_emod_of_nonneg i (by omega)]; exact q)
def modW (a b : W) (st : Store) : Res W := match a, b with
  | .int i, .int j => if 0 < j then .ok (.int (i % j)) st else .stuck
  | _, _ => .stuck
theorem mod_ok : OpOk X (rI (fun _ j => 0 < j) fun i j => .int (i % j)) modW := fun Wx ρ H st σ a b x y Q s ra rb p => by
  unfold modW at p
  split at p
  · split at p
    · rename_i hz
      rw [int_of ra, int_of rb]; exact ⟨_, _, rfl, rfl, hz, post_int s p⟩
    · exact p.elim
  · exact p.elim
theorem ie_mod {a b : Expr} {ma mb : D W} (ha : IE X ex Wx a ma) (hb : IE X ex Wx b mb) : IE X ex Wx (.BinOp a .Mod b pos) (dOp modW ma mb) := ie_op op_modP mod_ok ha hb
def CPowW (i j : Int) : Prop := 0 ≤ j ∧ (Builtin.Int.intBits i : Int) * j ≤ 2 ^ 27
theorem op_powI : OpR X (binaryOp .Pow) (rI CPowW fun i j => .int (i ^ j.toNat)) := opI fun _ _ _ _ _ _ _ hc q => pow_int hc.1 hc.2 q
def powW (a b : W) (st : Store) : Res W := match a, b with
  | .int i, .int j => if CPowW i j then .ok (.int (i ^ j.toNat)) st else .stuck
  | _, _ => .stuck
theorem pow_ok : OpOk X (rI CPowW fun i j => .int (i ^ j.toNat)) powW := fun Wx ρ H st σ a b x y Q s ra rb p => by
  unfold powW at p
  split at p
  · split at p
    · rename_i hz
      rw [int_of ra, int_of rb]; exact ⟨_, _, rfl, rfl, hz, post_int s p⟩
    · exact p.elim
  · exact p.elim
theorem ie_pow {a b : Expr} {ma mb : D W} (ha : IE X ex Wx a ma) (hb : IE X ex Wx b mb) : IE X ex Wx (.BinOp a .Pow b pos) (dOp powW ma mb) := ie_op op_powI pow_ok ha hb
def negW (a : W) (st : Store) : Res W := match a with
  | .int i => .ok (.int (-i)) st
  | _ => .stuck
theorem neg_ok : UnOk X (rU fun i => .int (-i)) negW := fun Wx ρ H st σ a x Q s ra p => by
  unfold negW at p
  split at p
  · rw [int_of ra]; exact ⟨_, rfl, post_int s p⟩
  · exact p.elim
theorem ie_neg {a : Expr} {ma : D W} (ha : IE X ex Wx a ma) : IE X ex Wx (.UnaryOp .USub a pos) (dUn negW ma) := ie_un un_neg neg_ok ha
/-! ### == != by data -/
def allO {α : Type} : List (Option α) → Option (List α)
  | [] => some []
  | some a :: r => (allO r).map (a :: ·)
  | none :: _ => none
def datF (st : Store) : Nat → W → Option PyData
  | 0, _ => none
  | n + 1, w => match w with
    | .non => some .none
    | .bl b => some (.bool b)
    | .int i => some (.int i)
    | .str x => some (.str x)
    | .tup ws => (allO (ws.map (datF st n))).map .tuple
    | .fro ws => (allO (ws.map (datF st n))).map .list
    | .loc k => match st[k]? with
      | some (.lst ws) => (allO (ws.map (datF st n))).map .list
      | none => none
    | .gl _ => none
    | .rng _ _ => none
theorem allO_dp {ρ : List Addr} {H : Hp} {f : W → Option PyData} (h : ∀ w v d, VR X.K ρ H w v → f w = some d → Dp X.K H v d) : ∀ {ws : List W} {us : List V} {ds : List PyData}, VRs X.K ρ H ws us → allO (ws.map f) = some ds → DpAll X.K H us ds
  | [], us, ds, r, e => by
    simp only [VRs] at r
    simp only [List.map_nil, allO, Option.some.injEq] at e
    subst r; subst e
    exact .nil
  | w :: ws, us, ds, r, e => by
    simp only [VRs] at r
    obtain ⟨u, vs, rfl, rw, rs⟩ := r
    simp only [List.map_cons] at e
    cases hf : f w with
    | none => rw [hf] at e; simp [allO] at e
    | some d =>
      rw [hf] at e
      simp only [allO] at e
      cases ha : allO (ws.map f) with
      | none => rw [ha] at e; cases e
      | some dr =>
        rw [ha] at e
        cases e
        exact .cons (h w u d rw hf) (allO_dp h rs ha)
theorem datF_dp {ρ : List Addr} {H : Hp} {st : Store} (s : StR X.K ρ H st) : ∀ (n : Nat) (w : W) (v : V) (d : PyData), VR X.K ρ H w v → datF st n w = some d → Dp X.K H v d
  | 0, _, _, _, _, e => by simp [datF] at e
  | n + 1, w, v, d, r, e => by
    unfold datF at e
    cases w with
    | non => simp only at e; cases e; rw [non_of r]; constructor
    | bl b => simp only at e; cases e; rw [bl_of r]; constructor
    | int i => simp only at e; cases e; rw [int_of r]; constructor
    | str x => simp only at e; cases e; rw [str_of r]; constructor
    | gl u => simp only at e; cases e
    | rng i j => simp only at e; cases e
    | tup ws =>
      simp only at e
      cases ha : allO (ws.map (datF st n)) with
      | none => rw [ha] at e; cases e
      | some ds =>
        rw [ha] at e; cases e
        obtain ⟨a, us, rfl, ht, rs⟩ := tup_of r
        exact .tup ht.sq (allO_dp (datF_dp s n) rs ha)
    | fro ws =>
      simp only at e
      cases ha : allO (ws.map (datF st n)) with
      | none => rw [ha] at e; cases e
      | some ds =>
        rw [ha] at e; cases e
        obtain ⟨a, us, rfl, ht, rs⟩ := fro_of r
        exact .lst ht.sq (allO_dp (datF_dp s n) rs ha)
    | loc k =>
      simp only at e
      cases hk : st[k]? with
      | none => rw [hk] at e; cases e
      | some o =>
        cases o with
        | lst ws =>
          rw [hk] at e
          simp only at e
          cases ha : allO (ws.map (datF st n)) with
          | none => rw [ha] at e; cases e
          | some ds =>
            rw [ha] at e; cases e
            obtain ⟨a, us, _, rfl, hu, rs⟩ := loc_lst s r hk
            exact .lst (.of hu) (allO_dp (datF_dp s n) rs ha)
end
end
end MP
namespace MP
open PySem PySem.Spec PyProof.Rows L2
open Classical
noncomputable section

section
variable {X : Cx} {ex : Option Exn} {Wx : WX} {pos p : Pos}
def eqW (a b : W) (st : Store) : Res W := match datF st 66 a, datF st 66 b with
  | some d, some e => if SeqAt.shaped d = true ∧ SeqAt.shaped e = true then .ok (.bl (PyData.eqv d e)) st else .stuck
  | _, _ => .stuck
def neW (a b : W) (st : Store) : Res W := match datF st 66 a, datF st 66 b with
  | some d, some e => if SeqAt.shaped d = true ∧ SeqAt.shaped e = true then .ok (.bl (!PyData.eqv d e)) st else .stuck
  | _, _ => .stuck
theorem eq_ok : OpOk X (rEqD X.K) eqW := fun Wx ρ H st σ a b x y Q s ra rb p => by
  unfold eqW at p
  split at p
  · rename_i d e hd he
    split at p
    · rename_i hz
      exact ⟨d, e, datF_dp s 66 a x d ra hd, datF_dp s 66 b y e rb he, hz.1, hz.2, post_bl s p⟩
    · exact p.elim
  · exact p.elim
theorem ne_ok : OpOk X (rNeD X.K) neW := fun Wx ρ H st σ a b x y Q s ra rb p => by
  unfold neW at p
  split at p
  · rename_i d e hd he
    split at p
    · rename_i hz
      exact ⟨d, e, datF_dp s 66 a x d ra hd, datF_dp s 66 b y e rb he, hz.1, hz.2, post_bl s p⟩
    · exact p.elim
  · exact p.elim
section
variable {a b : Expr} {ma mb : D W} {k : Nat}
theorem ie_eq (hr : Room k X.A) (ha : IE X ex Wx a ma) (hb : IE X ex Wx b mb) : IE X ex Wx (.Compare a [.Eq] [b] pos) (dOp eqW ma mb) := ie_cmp (op_eqD hr.units) eq_ok ha hb (nomark _)
theorem ie_ne (hr : Room k X.A) (ha : IE X ex Wx a ma) (hb : IE X ex Wx b mb) : IE X ex Wx (.Compare a [.NotEq] [b] pos) (dOp neW ma mb) := ie_cmp (op_neD hr.units) ne_ok ha hb (nomark _)
theorem it_eq (hr : Room k X.A) (ha : IE X ex Wx a ma) (hb : IE X ex Wx b mb) : IT X ex Wx (.Compare a [.Eq] [b] pos) (dBool (dOp eqW ma mb)) := it_cmp (op_eqD hr.units) eq_ok ha hb (nomark _)
theorem it_ne (hr : Room k X.A) (ha : IE X ex Wx a ma) (hb : IE X ex Wx b mb) : IT X ex Wx (.Compare a [.NotEq] [b] pos) (dBool (dOp neW ma mb)) := it_cmp (op_neD hr.units) ne_ok ha hb (nomark _)
end
/-! ### < <= > >= -/
def ltW (a b : W) (st : Store) : Res W := match a, b with
  | .int i, .int j => .ok (.bl (decide (i < j))) st
  | .str x, .str y => .ok (.bl (decide (x.cps.toList < y.cps.toList))) st
  | _, _ => .stuck
def leW (a b : W) (st : Store) : Res W := match a, b with
  | .int i, .int j => .ok (.bl (decide (i ≤ j))) st
  | .str x, .str y => .ok (.bl (!decide (y.cps.toList < x.cps.toList))) st
  | _, _ => .stuck
def gtW (a b : W) (st : Store) : Res W := match a, b with
  | .int i, .int j => .ok (.bl (decide (j < i))) st
  | .str x, .str y => .ok (.bl (decide (y.cps.toList < x.cps.toList))) st
  | _, _ => .stuck
def geW (a b : W) (st : Store) : Res W := match a, b with
  | .int i, .int j => .ok (.bl (decide (j ≤ i))) st
  | .str x, .str y => .ok (.bl (!decide (x.cps.toList < y.cps.toList))) st
  | _, _ => .stuck
theorem ord_ok {f : W → W → Store → Res W} {g : Int → Int → Bool} {h : Str → Str → Bool} (hf : ∀ a b st, f a b st = match a, b with
    | .int i, .int j => .ok (.bl (g i j)) st
    | .str x, .str y => .ok (.bl (h x y)) st
    | _, _ => .stuck) : OpOk X (fun x y H Q => rI0 (fun i j => .bl (g i j)) x y H Q ∨ ∃ i j, x = .str i ∧ y = .str j ∧ Q (.bl (h i j)) H) f := fun Wx ρ H st σ a b x y Q s ra rb p => by
  rw [hf] at p
  split at p
  · rw [int_of ra, int_of rb]; exact .inl ⟨_, _, rfl, rfl, post_bl s p⟩
  · rw [str_of ra, str_of rb]; exact .inr ⟨_, _, rfl, rfl, post_bl s p⟩
  · exact p.elim
section
variable {a b : Expr} {ma mb : D W}
theorem ie_lt (ha : IE X ex Wx a ma) (hb : IE X ex Wx b mb) : IE X ex Wx (.Compare a [.Lt] [b] pos) (dOp ltW ma mb) := ie_cmp (OpR.or op_lt op_lt_str) (ord_ok fun _ _ _ => rfl) ha hb (nomark _)
theorem ie_le (ha : IE X ex Wx a ma) (hb : IE X ex Wx b mb) : IE X ex Wx (.Compare a [.LtE] [b] pos) (dOp leW ma mb) := ie_cmp (OpR.or op_le op_le_str) (ord_ok fun _ _ _ => rfl) ha hb (nomark _)
theorem ie_gt (ha : IE X ex Wx a ma) (hb : IE X ex Wx b mb) : IE X ex Wx (.Compare a [.Gt] [b] pos) (dOp gtW ma mb) := ie_cmp (OpR.or op_gt op_gt_str) (ord_ok fun _ _ _ => rfl) ha hb (nomark _)
theorem ie_ge (ha : IE X ex Wx a ma) (hb : IE X ex Wx b mb) : IE X ex Wx (.Compare a [.GtE] [b] pos) (dOp geW ma mb) := ie_cmp (OpR.or op_ge op_ge_str) (ord_ok fun _ _ _ => rfl) ha hb (nomark _)
theorem it_lt (ha : IE X ex Wx a ma) (hb : IE X ex Wx b mb) : IT X ex Wx (.Compare a [.Lt] [b] pos) (dBool (dOp ltW ma mb)) := it_cmp (OpR.or op_lt op_lt_str) (ord_ok fun _ _ _ => rfl) ha hb (nomark _)
theorem it_le (ha : IE X ex Wx a ma) (hb : IE X ex Wx b mb) : IT X ex Wx (.Compare a [.LtE] [b] pos) (dBool (dOp leW ma mb)) := it_cmp (OpR.or op_le op_le_str) (ord_ok fun _ _ _ => rfl) ha hb (nomark _)
theorem it_gt (ha : IE X ex Wx a ma) (hb : IE X ex Wx b mb) : IT X ex Wx (.Compare a [.Gt] [b] pos) (dBool (dOp gtW ma mb)) := it_cmp (OpR.or op_gt op_gt_str) (ord_ok fun _ _ _ => rfl) ha hb (nomark _)
theorem it_ge (ha : IE X ex Wx a ma) (hb : IE X ex Wx b mb) : IT X ex Wx (.Compare a [.GtE] [b] pos) (dBool (dOp geW ma mb)) := it_cmp (OpR.or op_ge op_ge_str) (ord_ok fun _ _ _ => rfl) ha hb (nomark _)
/-- a <= b <= c -/
theorem ie_lele {c : Expr} {mc : D W} (ha : IE X ex Wx a ma) (hb : IE X ex Wx b mb) (hc : IE X ex Wx c mc) (hm : lastMarks [.LtE, .LtE] [b, c] = false := by with_unfolding_all rfl) : IE X ex Wx (.Compare a [.LtE, .LtE] [b, c] pos) (dChain leW leW ma mb mc) :=
  ie_chain (OpR.or op_le op_le_str) (ord_ok fun _ _ _ => rfl) (OpR.or op_le op_le_str) (ord_ok fun _ _ _ => rfl) ha hb hc hm
/-- a <= b < c -/
theorem ie_lelt {c : Expr} {mc : D W} (ha : IE X ex Wx a ma) (hb : IE X ex Wx b mb) (hc : IE X ex Wx c mc) (hm : lastMarks [.LtE, .Lt] [b, c] = false := by with_unfolding_all rfl) : IE X ex Wx (.Compare a [.LtE, .Lt] [b, c] pos) (dChain leW ltW ma mb mc) :=
  ie_chain (OpR.or op_le op_le_str) (ord_ok fun _ _ _ => rfl) (OpR.or op_lt op_lt_str) (ord_ok fun _ _ _ => rfl) ha hb hc hm
end
theorem tru_step {m : D W} (σ : L2.St) (H : Hp) (Q : Bool → Hp → Prop) (h : RG X ex Wx relE (dBool m) σ H Q) : RG X ex Wx (relV X.K) m σ H fun x H' => ∃ k, TruV X.K x H' k ∧ Q k H' := by
  obtain ⟨ρ, env, st, s, e, q⟩ := dBool_step h
  refine ⟨ρ, env, st, s, e, ?_⟩
  generalize m env st = r at q
  cases r with
  | stuck => exact q
  | err c w st1 => exact q
  | ok a st1 =>
    intro ρ' H' x g s' r
    obtain ⟨k, ek, q'⟩ := q ρ' H' x g s' r
    subst ek
    exact ⟨k, rfl, q'⟩
/-- a bool's expression as a test -/
theorem it_val {e : Expr} {m : D W} (he : IE X ex Wx e m) (hw : ∀ whole, isTrue e X.env whole = (do let v ← whole; standAt e.pos; holding [v] (truthy v)) := by intro _; rfl) : IT X ex Wx e (dBool m) :=
  PT.of (pt_truth he hw) (tru_step)
theorem chain_step {op op' : CmpOp} {r r' : R2} {f g : W → W → Store → Res W} {ma mb mc : D W} (hf : OpOk X r f) (hg : OpOk X r' g) (σ : L2.St) (H : Hp) (Q : VK) (h : RG X ex Wx (relV X.K) (dChain f g ma mb mc) σ H Q) :
    tChain r r' (RG X ex Wx (relV X.K) ma) (RG X ex Wx (relV X.K) mb) (RG X ex Wx (relV X.K) mc) σ H Q := by
  obtain ⟨ρ, env, st, s, e, q⟩ := h
  refine RG.bind s e q fun ρ1 H1 st1 a x g1 s1 e1 ra p1 => RG.bind s1 e1 p1 fun ρ2 H2 st2 b y g2 s2 e2 rb p2 => ?_
  refine hf Wx ρ2 H2 st2 σ a b x y _ s2 (VR.grow s1.apart g2 a x ra) rb ?_
  generalize f a b st2 = q2 at p2
  cases q2 with
  | stuck => exact p2
  | err c fs st' => exact p2
  | ok z st3 =>
    intro ρ3 H3 zv g3 s3 rz
    simp only [Res.bind_ok] at p2
    cases z with
    | bl k =>
      refine ⟨k, bl_of rz, ?_⟩
      cases k with
      | true =>
        rw [if_pos rfl]
        exact RG.bind s3 (e2.grow s2.apart g3) (Post.mono p2 g3) fun ρ4 H4 st4 c z g4 s4 e4 rc p4 => hg Wx ρ4 H4 st4 σ b c y z Q s4 (VR.grow s3.apart g4 b y (VR.grow s2.apart g3 b y rb)) rc p4
      | false =>
        rw [if_neg (by decide)]
        exact post_bl s3 (Post.mono p2 g3)
    | _ => exact p2.elim
theorem it_lele {a b c : Expr} {ma mb mc : D W} (ha : IE X ex Wx a ma) (hb : IE X ex Wx b mb) (hc : IE X ex Wx c mc) (hm : lastMarks [.LtE, .LtE] [b, c] = false := by with_unfolding_all rfl) : IT X ex Wx (.Compare a [.LtE, .LtE] [b, c] pos) (dBool (dChain leW leW ma mb mc)) :=
  PT.of (pt_chain (OpR.or op_le op_le_str) (OpR.or op_le op_le_str) ha hb hc hm) fun σ H Q h => chain_step (op := .LtE) (op' := .LtE) (ord_ok fun _ _ _ => rfl) (ord_ok fun _ _ _ => rfl) σ H _ (dBool_step h)
theorem it_lelt {a b c : Expr} {ma mb mc : D W} (ha : IE X ex Wx a ma) (hb : IE X ex Wx b mb) (hc : IE X ex Wx c mc) (hm : lastMarks [.LtE, .Lt] [b, c] = false := by with_unfolding_all rfl) : IT X ex Wx (.Compare a [.LtE, .Lt] [b, c] pos) (dBool (dChain leW ltW ma mb mc)) :=
  PT.of (pt_chain (OpR.or op_le op_le_str) (OpR.or op_lt op_lt_str) ha hb hc hm) fun σ H Q h => chain_step (op := .LtE) (op' := .Lt) (ord_ok fun _ _ _ => rfl) (ord_ok fun _ _ _ => rfl) σ H _ (dBool_step h)
/-- any value's truth: a list, a text, a number -/
def truW (a : W) (st : Store) : Res Bool := match a with
  | .non => .ok false st
  | .bl b => .ok b st
  | .int i => .ok (i != 0) st
  | .str y => if y.length ≤ sizeLine then .ok ((y.length : Int) != 0) st else .stuck
  | _ => .stuck
def dTru (m : D W) : D Bool := fun env st => (m env st).bind fun a st1 => truW a st1
theorem it_tru {e : Expr} {m : D W} (he : IE X ex Wx e m) (hw : ∀ whole, isTrue e X.env whole = (do let v ← whole; standAt e.pos; holding [v] (truthy v)) := by intro _; rfl) : IT X ex Wx e (dTru m) :=
  PT.of (pt_truth he hw) fun σ H Q ⟨ρ, env, st, s, e, p⟩ => RG.bind s e p fun ρ1 H1 st1 a x g1 s1 e1 ra p1 => by
    unfold truW at p1
    split at p1
    · rw [non_of ra]; exact ⟨false, rfl, p1.ok_ s1 rfl⟩
    · rw [bl_of ra]; exact ⟨_, rfl, p1.ok_ s1 rfl⟩
    · rw [int_of ra]; exact ⟨_, rfl, p1.ok_ s1 rfl⟩
    · split at p1
      · rename_i hz
        rw [str_of ra]; exact ⟨_, ⟨hz, rfl⟩, p1.ok_ s1 rfl⟩
      · exact p1.elim
    · exact p1.elim
/-! ### is None -/
def isNW (a b : W) (st : Store) : Res W := match b with
  | .non => match a with
    | .non => .ok (.bl true) st
    | .gl _ => .stuck
    | _ => .ok (.bl false) st
  | _ => .stuck
def isNotNW (a b : W) (st : Store) : Res W := match b with
  | .non => match a with
    | .non => .ok (.bl false) st
    | .gl _ => .stuck
    | _ => .ok (.bl true) st
  | _ => .stuck
theorem notNon {ρ : List Addr} {H : Hp} {a : W} {x : V} (r : VR X.K ρ H a x) (h : a ≠ .non) (h2 : ∀ u, a ≠ .gl u) : x ≠ .non := by
  cases a with
  | non => exact absurd rfl h
  | gl u => exact absurd rfl (h2 u)
  | bl b => rw [bl_of r]; intro z; cases z
  | int b => rw [int_of r]; intro z; cases z
  | str b => rw [str_of r]; intro z; cases z
  | tup b => obtain ⟨_, _, rfl, _⟩ := tup_of r; intro z; cases z
  | fro b => obtain ⟨_, _, rfl, _⟩ := fro_of r; intro z; cases z
  | loc n => simp only [VR] at r; obtain ⟨_, _, rfl⟩ := r; intro z; cases z
  | rng i j => simp only [VR] at r; obtain ⟨_, rfl, _⟩ := r; intro z; cases z
theorem isN_ok : OpOk X (fun x y H Q => y = .non ∧ Q (.bl (decide (x = .non))) H) isNW := fun Wx ρ H st σ a b x y Q s ra rb p => by
  cases b with
  | non =>
    refine ⟨non_of rb, ?_⟩
    by_cases h : a = .non
    · subst h
      rw [non_of ra]
      exact post_bl s p
    · by_cases h2 : ∃ u, a = .gl u
      · obtain ⟨u, rfl⟩ := h2; exact p.elim
      · rw [decide_eq_false (notNon ra h fun u e => h2 ⟨u, e⟩)]
        cases a with
        | non => exact absurd rfl h
        | gl u => exact p.elim
        | _ => exact post_bl s p
  | _ => exact p.elim
theorem isNotN_ok : OpOk X (fun x y H Q => y = .non ∧ Q (.bl (!decide (x = .non))) H) isNotNW := fun Wx ρ H st σ a b x y Q s ra rb p => by
  cases b with
  | non =>
    refine ⟨non_of rb, ?_⟩
    by_cases h : a = .non
    · subst h
      rw [non_of ra]
      exact post_bl s p
    · by_cases h2 : ∃ u, a = .gl u
      · obtain ⟨u, rfl⟩ := h2; exact p.elim
      · rw [decide_eq_false (notNon ra h fun u e => h2 ⟨u, e⟩)]
        cases a with
        | non => exact absurd rfl h
        | gl u => exact p.elim
        | _ => exact post_bl s p
  | _ => exact p.elim
theorem ie_isN {a : Expr} {b : Expr} {ma mb : D W} (ha : IE X ex Wx a ma) (hb : IE X ex Wx b mb) : IE X ex Wx (.Compare a [.Is] [b] pos) (dOp isNW ma mb) := ie_cmp op_isN isN_ok ha hb (nomark _)
theorem ie_isNotN {a : Expr} {b : Expr} {ma mb : D W} (ha : IE X ex Wx a ma) (hb : IE X ex Wx b mb) : IE X ex Wx (.Compare a [.IsNot] [b] pos) (dOp isNotNW ma mb) := ie_cmp op_notN isNotN_ok ha hb (nomark _)
theorem it_isN {a : Expr} {b : Expr} {ma mb : D W} (ha : IE X ex Wx a ma) (hb : IE X ex Wx b mb) : IT X ex Wx (.Compare a [.Is] [b] pos) (dBool (dOp isNW ma mb)) := it_cmp op_isN isN_ok ha hb (nomark _)
theorem it_isNotN {a : Expr} {b : Expr} {ma mb : D W} (ha : IE X ex Wx a ma) (hb : IE X ex Wx b mb) : IT X ex Wx (.Compare a [.IsNot] [b] pos) (dBool (dOp isNotNW ma mb)) := it_cmp op_notN isNotN_ok ha hb (nomark _)
/-! ### sequences -/
def seqW (st : Store) : W → Option (List W)
  | .tup ws => some ws
  | .fro ws => some ws
  | .loc n => match st[n]? with
    | some (.lst ws) => some ws
    | none => none
  | _ => none
def lstW (st : Store) : W → Option (List W)
  | .fro ws => some ws
  | .loc n => match st[n]? with
    | some (.lst ws) => some ws
    | none => none
  | _ => none
theorem lstW_of {ρ : List Addr} {H : Hp} {st : Store} {a : W} {x : V} {ws : List W} (s : StR X.K ρ H st) (r : VR X.K ρ H a x) (h : lstW st a = some ws) : ∃ q us, x = .ref q ∧ SqL X.K H q us ∧ VRs X.K ρ H ws us := by
  unfold lstW at h
  split at h
  · cases h
    obtain ⟨q, us, rfl, hq, rs⟩ := fro_of r
    exact ⟨q, us, rfl, hq.sq, rs⟩
  · split at h
    · rename_i hk
      cases h
      obtain ⟨q, us, _, rfl, hu, rs⟩ := loc_lst s r hk
      exact ⟨q, us, rfl, .of hu, rs⟩
    · cases h
  · cases h
theorem seqW_of {ρ : List Addr} {H : Hp} {st : Store} {a : W} {x : V} {ws : List W} (s : StR X.K ρ H st) (r : VR X.K ρ H a x) (h : seqW st a = some ws) : ∃ q us, x = .ref q ∧ (SqL X.K H q us ∨ SqT X.K H q us) ∧ VRs X.K ρ H ws us := by
  cases a with
  | tup l =>
    cases h
    obtain ⟨q, us, rfl, hq, rs⟩ := tup_of r
    exact ⟨q, us, rfl, .inr hq.sq, rs⟩
  | fro l =>
    obtain ⟨q, us, e, hq, rs⟩ := lstW_of s r (ws := ws) h
    exact ⟨q, us, e, .inl hq, rs⟩
  | loc n =>
    obtain ⟨q, us, e, hq, rs⟩ := lstW_of s r (ws := ws) h
    exact ⟨q, us, e, .inl hq, rs⟩
  | _ => cases h
/-! ### in, not in -/
def flV : W → Option V
  | .non => some .non
  | .bl b => some (.bl b)
  | .int i => some (.int i)
  | .str x => some (.str x)
  | _ => none
theorem flV_of {ρ : List Addr} {H : Hp} {a : W} {x v : V} (r : VR X.K ρ H a x) (h : flV a = some v) : x = v ∧ flatV x = true := by
  cases a with
  | non => cases h; rw [non_of r]; exact ⟨rfl, rfl⟩
  | bl b => cases h; rw [bl_of r]; exact ⟨rfl, rfl⟩
  | int b => cases h; rw [int_of r]; exact ⟨rfl, rfl⟩
  | str b => cases h; rw [str_of r]; exact ⟨rfl, rfl⟩
  | _ => cases h
theorem allO_map {α β : Type} {f : α → Option β} : ∀ {l : List α} {r : List β}, allO (l.map f) = some r → ∀ {P : β → Prop}, (∀ a b, a ∈ l → f a = some b → P b) → ∀ b ∈ r, P b
  | [], r, h, P, _, b, hb => by simp only [List.map_nil, allO, Option.some.injEq] at h; subst h; cases hb
  | a :: l, r, h, P, hp, b, hb => by
    simp only [List.map_cons] at h
    cases hf : f a with
    | none => rw [hf] at h; simp [allO] at h
    | some c =>
      rw [hf] at h
      simp only [allO] at h
      cases ha : allO (l.map f) with
      | none => rw [ha] at h; cases h
      | some r' =>
        rw [ha] at h; cases h
        rcases List.mem_cons.mp hb with e | hb
        · rw [e]; exact hp a c List.mem_cons_self hf
        · exact allO_map ha (fun a b m => hp a b (List.mem_cons_of_mem _ m)) b hb
theorem flVs_of {ρ : List Addr} {H : Hp} : ∀ {ws : List W} {us vs : List V}, VRs X.K ρ H ws us → allO (ws.map flV) = some vs → us = vs ∧ us.all flatV = true
  | [], us, vs, r, h => by
    simp only [VRs] at r
    simp only [List.map_nil, allO, Option.some.injEq] at h
    subst r; subst h; exact ⟨rfl, rfl⟩
  | w :: ws, us, vs, r, h => by
    simp only [VRs] at r
    obtain ⟨u, us', rfl, rw, rs⟩ := r
    simp only [List.map_cons] at h
    cases hf : flV w with
    | none => rw [hf] at h; simp [allO] at h
    | some v =>
      rw [hf] at h
      simp only [allO] at h
      cases ha : allO (ws.map flV) with
      | none => rw [ha] at h; cases h
      | some r' =>
        rw [ha] at h; cases h
        obtain ⟨e1, f1⟩ := flV_of rw hf
        obtain ⟨e2, f2⟩ := flVs_of rs ha
        exact ⟨by rw [e1, e2], by simp [f1, f2]⟩
def oneSign (x : Str) : Option Nat := if x.cps.size = 1 then x.cps[0]? else none
theorem oneSign_of {x : Str} {c : Nat} (h : oneSign x = some c) : x = ⟨#[c]⟩ := by
  unfold oneSign at h
  split at h
  · rename_i hs
    obtain ⟨cps⟩ := x
    obtain ⟨l⟩ := cps
    match l, hs, h with
    | [d], _, h => simp at h; subst h; rfl
  · cases h
def inB (a b : W) (st : Store) : Option Bool := match b with
  | .str z => match a with
    | .str x => (oneSign x).map fun c => decide (c ∈ z.cps.toList)
    | _ => none
  | b => match seqW st b with
    | some ws => match flV a, allO (ws.map flV) with
      | some v, some vs => some (inV v vs)
      | _, _ => none
    | none => none
def inW (neg : Bool) (a b : W) (st : Store) : Res W := match inB a b st with
  | some k => .ok (.bl (if neg then !k else k)) st
  | none => .stuck
def rInS (neg : Bool) : R2 := fun x y H Q => ∃ (c : Nat) (z : Str), x = .str ⟨#[c]⟩ ∧ y = .str z ∧ Q (.bl (if neg then !decide (c ∈ z.cps.toList) else decide (c ∈ z.cps.toList))) H
theorem in_ok (neg : Bool) : OpOk X (fun x y H Q => rInS neg x y H Q ∨ rIn X.K neg x y H Q) (inW neg) := fun Wx ρ H st σ a b x y Q s ra rb p => by
  unfold inW at p
  cases hk : inB a b st with
  | none => rw [hk] at p; exact p.elim
  | some k =>
    rw [hk] at p
    have q := post_bl s p
    have seqc : (∃ ws v vs, seqW st b = some ws ∧ flV a = some v ∧ allO (ws.map flV) = some vs ∧ k = inV v vs) → rIn X.K neg x y H Q := fun ⟨ws, v, vs, hs, hv, hvs, e⟩ => by
      subst e
      obtain ⟨q1, us, rfl, hq, rs⟩ := seqW_of s rb hs
      obtain ⟨e1, f1⟩ := flV_of ra hv
      obtain ⟨e2, f2⟩ := flVs_of rs hvs
      refine ⟨q1, us, rfl, hq, f1, f2, ?_⟩
      rw [e1, e2]; exact q
    unfold inB at hk
    split at hk
    · rename_i z
      split at hk
      · rename_i x1
        cases ho : oneSign x1 with
        | none => rw [ho] at hk; cases hk
        | some c =>
          rw [ho] at hk
          cases hk
          exact .inl ⟨c, z, by rw [str_of ra, oneSign_of ho], str_of rb, q⟩
      · cases hk
    · split at hk
      · rename_i ws hs
        split at hk
        · rename_i v vs hv hvs
          cases hk
          exact .inr (seqc ⟨ws, v, vs, hs, hv, hvs, rfl⟩)
        · cases hk
      · cases hk
theorem opr_in : OpR X (compareOp .In) (fun x y H Q => rInS false x y H Q ∨ rIn X.K false x y H Q) := OpR.or op_in_sign op_in_seq
theorem opr_notIn : OpR X (compareOp .NotIn) (fun x y H Q => rInS true x y H Q ∨ rIn X.K true x y H Q) := OpR.or op_notIn_sign op_notIn_seq
theorem ie_in {a b : Expr} {ma mb : D W} (ha : IE X ex Wx a ma) (hb : IE X ex Wx b mb) (hm : behindInMarks .In b = false := by with_unfolding_all rfl) : IE X ex Wx (.Compare a [.In] [b] pos) (dOp (inW false) ma mb) := ie_cmp opr_in (in_ok false) ha hb hm
theorem ie_notIn {a b : Expr} {ma mb : D W} (ha : IE X ex Wx a ma) (hb : IE X ex Wx b mb) (hm : behindInMarks .NotIn b = false := by with_unfolding_all rfl) : IE X ex Wx (.Compare a [.NotIn] [b] pos) (dOp (inW true) ma mb) := ie_cmp opr_notIn (in_ok true) ha hb hm
theorem it_in {a b : Expr} {ma mb : D W} (ha : IE X ex Wx a ma) (hb : IE X ex Wx b mb) (hm : behindInMarks .In b = false := by with_unfolding_all rfl) : IT X ex Wx (.Compare a [.In] [b] pos) (dBool (dOp (inW false) ma mb)) := it_cmp opr_in (in_ok false) ha hb hm
theorem it_notIn {a b : Expr} {ma mb : D W} (ha : IE X ex Wx a ma) (hb : IE X ex Wx b mb) (hm : behindInMarks .NotIn b = false := by with_unfolding_all rfl) : IT X ex Wx (.Compare a [.NotIn] [b] pos) (dBool (dOp (inW true) ma mb)) := it_cmp opr_notIn (in_ok true) ha hb hm
/-! ### a[i], a[i:j] -/
def ixW (a b : W) (st : Store) : Res W := match b with
  | .int i => match a with
    | .str z => if z.length ≤ sizeLine then match atI z.cps.toList i with
        | some c => .ok (.str ⟨#[c]⟩) st
        | none => .stuck
      else .stuck
    | a => match seqW st a with
      | some ws => match atI ws i with
        | some w => .ok w st
        | none => .stuck
      | none => .stuck
  | _ => .stuck
theorem VRs.at {K : PySem.W.Frag} {ρ : List Addr} {H : Hp} {ws : List W} {us : List V} {i : Int} {w : W} (r : VRs K ρ H ws us) (h : atI ws i = some w) : ∃ v, atI us i = some v ∧ VR K ρ H w v := by
  unfold atI at h ⊢
  rw [← VRs.length r]
  cases hj : ixN ws.length i with
  | none => rw [hj] at h; cases h
  | some j =>
    rw [hj] at h
    obtain ⟨v, h1, h2⟩ := r.get (i := j) h
    exact ⟨v, h1, h2⟩
theorem ix_ok : OpOk X (rIx X.K) ixW := fun Wx ρ H st σ a b x y Q s ra rb p => by
  unfold ixW at p
  split at p
  · rw [int_of rb]
    split at p
    · rename_i z
      split at p
      · rename_i hz
        split at p
        · rename_i c hc
          exact .inr (.inr ⟨z, _, c, str_of ra, rfl, hz, hc, post_str s p⟩)
        · exact p.elim
      · exact p.elim
    · split at p
      · rename_i ws hs
        split at p
        · rename_i w hw
          obtain ⟨q, us, rfl, hq, rs⟩ := seqW_of s ra hs
          obtain ⟨v, h1, h2⟩ := rs.at hw
          have := p.ok_ s h2
          rcases hq with hq | hq
          · exact .inl ⟨q, us, _, v, rfl, rfl, hq, h1, this⟩
          · exact .inr (.inl ⟨q, us, _, v, rfl, rfl, hq, h1, this⟩)
        · exact p.elim
      · exact p.elim
  · exact p.elim
theorem ie_ix {a b : Expr} {ma mb : D W} (ha : IE X ex Wx a ma) (hb : IE X ex Wx b mb) (hs : PlainIx b := by intro _ _; rfl) : IE X ex Wx (.Subscript a b pos) (dOp ixW ma mb) :=
  PE.of (pe_ix ix_seq ha hb hs) fun σ H Q ⟨ρ, env, st, s, e, p⟩ => RG.bind s e p fun ρ1 H1 st1 a x g1 s1 e1 ra p1 => RG.bind s1 e1 p1 fun ρ2 H2 st2 b y g2 s2 e2 rb p2 =>
    ix_ok Wx ρ2 H2 st2 σ a b x y Q s2 (VR.grow s1.apart g2 a x ra) rb p2
def cutW (ws : List W) (lo hi : Option Int) : List W := (ws.drop (HT.sIx ws.length 0 lo)).take (HT.sIx ws.length ws.length hi - HT.sIx ws.length 0 lo)
def slW (a : W) (lo hi : Option Int) (st : Store) : Res W := match a with
  | .str z => if z.length ≤ sizeLine then .ok (.str (cutS z lo hi)) st else .stuck
  | .tup ws => .ok (.tup (cutW ws lo hi)) st
  | a => match lstW st a with
    | some ws => .ok (.loc st.length) (st ++ [.lst (cutW ws lo hi)])
    | none => .stuck
def dNoPart : D (Option Int) := fun _ st => .ok none st
def dPart (m : D W) : D (Option Int) := fun env st => (m env st).bind fun a st1 => match a with
  | .int i => .ok (some i) st1
  | _ => .stuck
def dSl (m : D W) (lo hi : D (Option Int)) : D W := fun env st => (m env st).bind fun a st1 => (lo env st1).bind fun l st2 => (hi env st2).bind fun h st3 => slW a l h st3
abbrev IO (X : Cx) (ex : Option Exn) (Wx : WX) (e : Option Expr) (m : D (Option Int)) : Prop := PO X e (RG X ex Wx relE m)
theorem PO.of {e : Option Expr} {t t' : TO} (h : PO X e t) (w : ∀ σ H Q, t' σ H Q → t σ H Q) : PO X e t' := ⟨fun pins s σ H Q I q => h.run pins s σ H Q I (w _ _ _ q)⟩
theorem io_none : IO X ex Wx none dNoPart := PO.of po_none fun σ H Q ⟨ρ, env, st, s, e, p⟩ => Post.ok_ p s rfl
theorem io_some {e : Expr} {m : D W} (he : IE X ex Wx e m) : IO X ex Wx (some e) (dPart m) := PO.of (po_some he) fun σ H Q ⟨ρ, env, st, s, e, p⟩ => RG.bind s e p fun ρ1 H1 st1 a x g1 s1 e1 ra p1 => by
  split at p1
  · exact ⟨_, int_of ra, p1.ok_ s1 rfl⟩
  · exact p1.elim
theorem cutV_whole {us : List V} {lo hi : Option Int} (h : HT.sIx us.length 0 lo = 0 ∧ HT.sIx us.length us.length hi = us.length) : cutV us lo hi = us := by
  unfold cutV
  rw [h.1, h.2]; simp
theorem VRs.cut {K : PySem.W.Frag} {ρ : List Addr} {H : Hp} {ws : List W} {us : List V} (r : VRs K ρ H ws us) (lo hi : Option Int) : VRs K ρ H (cutW ws lo hi) (cutV us lo hi) := by
  unfold cutW cutV
  rw [← VRs.length r]
  exact (r.drop _).take _
theorem sl_ok {Wx : WX} {ρ : List Addr} {H : Hp} {st : Store} {σ : L2.St} {a : W} {x : V} {lo hi : Option Int} {Q : VK} (s : StR X.K ρ H st) (ra : VR X.K ρ H a x) (p : Post X.K X.mg Wx (relV X.K) ρ H σ (slW a lo hi st) Q) :
    rSlA X.K x lo hi H Q ∨ (rSlL X.K x lo hi H Q ∨ rSlS x lo hi H Q) := by
  unfold slW at p
  split at p
  · split at p
    · rename_i hz
      exact .inr (.inr ⟨_, str_of ra, hz, post_str s p⟩)
    · exact p.elim
  · obtain ⟨q, us, rfl, hq, rs⟩ := tup_of ra
    refine .inl ⟨q, us, rfl, hq.sq, fun hw => ?_, fun _ => post_tup s (rs.cut lo hi) p⟩
    refine p.ok_ s ?_
    have rc := rs.cut lo hi
    rw [cutV_whole hw] at rc
    simp only [relV, VR]
    exact ⟨q, us, rfl, hq, rc⟩
  · split at p
    · rename_i ws hs
      obtain ⟨q, us, rfl, hq, rs⟩ := lstW_of s ra hs
      exact .inr (.inl ⟨q, us, rfl, hq, post_lst s (rs.cut lo hi) p⟩)
    · exact p.elim
theorem ie_slice {e : Expr} {lo hi : Option Expr} {m : D W} {ml mh : D (Option Int)} {p2 : Pos} (he : IE X ex Wx e m) (hl : IO X ex Wx lo ml) (hh : IO X ex Wx hi mh) : IE X ex Wx (.Subscript e (.Slice lo hi none p2) pos) (dSl m ml mh) :=
  PE.of (pe_slice (SlR.or sl_tupA (SlR.or sl_list sl_str)) he hl hh) fun σ H Q ⟨ρ, env, st, s, e, p⟩ => RG.bind s e p fun ρ1 H1 st1 a x g1 s1 e1 ra p1 => RG.bind (relA := relE) s1 e1 p1 fun ρ2 H2 st2 l l' g2 s2 e2 rl p2 =>
    RG.bind (relA := relE) s2 e2 p2 fun ρ3 H3 st3 h h' g3 s3 e3 rh p3 => by
      have rl' : l = l' := rl
      have rh' : h = h' := rh
      subst rl'; subst rh'
      exact sl_ok s3 (VR.grow s2.apart g3 a x (VR.grow s1.apart g2 a x ra)) p3
end
end
end MP
namespace MP
open PySem PySem.Spec PyProof.Rows L2
open Classical
noncomputable section
section
variable {X : Cx} {ex : Option Exn} {Wx : WX} {pos p : Pos} {k : Nat} {f : Addr} {fd : FuncData} {ps : List Str} {n : Nat} {den : List W → Store → Res W} {x : Str} {e : Expr} {es : List Expr}
theorem vrs1 {K : PySem.W.Frag} {ρ : List Addr} {H : Hp} {a : W} {vs : List V} (r : VRs K ρ H [a] vs) : ∃ x, vs = [x] ∧ VR K ρ H a x := by
  simp only [VRs] at r
  obtain ⟨u, _, rfl, r, rfl⟩ := r
  exact ⟨u, rfl, r⟩
theorem vrs2 {K : PySem.W.Frag} {ρ : List Addr} {H : Hp} {a b : W} {vs : List V} (r : VRs K ρ H [a, b] vs) : ∃ x y, vs = [x, y] ∧ VR K ρ H a x ∧ VR K ρ H b y := by
  simp only [VRs] at r
  obtain ⟨u, _, rfl, r, v, _, rfl, r2, rfl⟩ := r
  exact ⟨u, v, rfl, r, r2⟩
/-! ### len, int, abs, max, min, all, any, sum, list, tuple, divmod -/
def lenW (l : List W) (st : Store) : Res W := match l with
  | [.str z] => if z.length ≤ sizeLine then .ok (.int z.length) st else .stuck
  | [a] => match seqW st a with
    | some ws => .ok (.int ws.length) st
    | none => .stuck
  | _ => .stuck
theorem len_ok : CallOk X (fun xs H Q => ∃ x n, xs = [x] ∧ LenV X.K x H n ∧ Q (.int n) H) lenW := fun Wx ρ H st σ l vs Q s r p => by
  unfold lenW at p
  split at p
  · rename_i z
    obtain ⟨x, rfl, ra⟩ := vrs1 r
    split at p
    · rename_i hz
      rw [str_of ra]
      exact ⟨_, _, rfl, ⟨hz, rfl⟩, post_int s p⟩
    · exact p.elim
  · rename_i a _
    obtain ⟨x, rfl, ra⟩ := vrs1 r
    split at p
    · rename_i ws hs
      obtain ⟨q, us, rfl, hq, rs⟩ := seqW_of s ra hs
      refine ⟨_, ws.length, rfl, ?_, post_int s p⟩
      rcases hq with hq | hq
      · exact .inl ⟨us, hq, VRs.length rs⟩
      · exact .inr ⟨us, hq, VRs.length rs⟩
    · exact p.elim
  · exact p.elim
theorem ie_len {m : D (List W)} (hg : Gl X "len") (hm : X.mg "len" = none) (ha : IA X ex Wx (e :: es) m) (he : starEach (e :: es) X.env = (false, eval e X.env) :: starEach es X.env := by rfl) (hpl : (backTo pos (starEach es X.env)).any (·.1) = false := by rfl) :
    IE X ex Wx (.Call (.Name "len" p) (e :: es) [] pos) (dApp lenW m) := ie_callB call_len len_ok hg hm PySem.boot_len ha (by decide) (by decide) he hpl
def intOfW (l : List W) (st : Store) : Res W := match l with
  | [.int i] => .ok (.int i) st
  | [.bl b] => .ok (.int (if b then 1 else 0)) st
  | _ => .stuck
theorem intOf_ok : CallOk X (fun xs H Q => (∃ i, xs = [.int i] ∧ Q (.int i) H) ∨ ∃ k, xs = [.bl k] ∧ Q (.int (if k then 1 else 0)) H) intOfW := fun Wx ρ H st σ l vs Q s r p => by
  unfold intOfW at p
  split at p
  · obtain ⟨x, rfl, ra⟩ := vrs1 r; rw [int_of ra]; exact .inl ⟨_, rfl, post_int s p⟩
  · obtain ⟨x, rfl, ra⟩ := vrs1 r; rw [bl_of ra]; exact .inr ⟨_, rfl, post_int s p⟩
  · exact p.elim
theorem ie_intOf {m : D (List W)} (hg : Gl X "int") (hm : X.mg "int" = none) (ha : IA X ex Wx (e :: es) m) (he : starEach (e :: es) X.env = (false, eval e X.env) :: starEach es X.env := by rfl) (hpl : (backTo pos (starEach es X.env)).any (·.1) = false := by rfl) :
    IE X ex Wx (.Call (.Name "int" p) (e :: es) [] pos) (dApp intOfW m) := ie_callTy call_int1 intOf_ok hg hm (by decide +kernel) ha (by decide) (by decide) he hpl
def absW (l : List W) (st : Store) : Res W := match l with
  | [.int i] => .ok (.int (if i < 0 then -i else i)) st
  | _ => .stuck
theorem abs_ok : CallOk X (fun xs H Q => ∃ i, xs = [.int i] ∧ Q (.int (if i < 0 then -i else i)) H) absW := fun Wx ρ H st σ l vs Q s r p => by
  unfold absW at p
  split at p
  · obtain ⟨x, rfl, ra⟩ := vrs1 r; rw [int_of ra]; exact ⟨_, rfl, post_int s p⟩
  · exact p.elim
theorem ie_abs {m : D (List W)} (hg : Gl X "abs") (hm : X.mg "abs" = none) (ha : IA X ex Wx (e :: es) m) (he : starEach (e :: es) X.env = (false, eval e X.env) :: starEach es X.env := by rfl) (hpl : (backTo pos (starEach es X.env)).any (·.1) = false := by rfl) :
    IE X ex Wx (.Call (.Name "abs" p) (e :: es) [] pos) (dApp absW m) := ie_callB call_abs abs_ok hg hm (by decide +kernel) ha (by decide) (by decide) he hpl
def maxW (l : List W) (st : Store) : Res W := match l with
  | [.int i, .int j] => .ok (.int (if j > i then j else i)) st
  | _ => .stuck
def minW (l : List W) (st : Store) : Res W := match l with
  | [.int i, .int j] => .ok (.int (if j < i then j else i)) st
  | _ => .stuck
theorem max_ok : CallOk X (fun xs H Q => ∃ i j, xs = [.int i, .int j] ∧ Q (.int (if j > i then j else i)) H) maxW := fun Wx ρ H st σ l vs Q s r p => by
  unfold maxW at p
  split at p
  · obtain ⟨x, y, rfl, ra, rb⟩ := vrs2 r; rw [int_of ra, int_of rb]; exact ⟨_, _, rfl, post_int s p⟩
  · exact p.elim
theorem min_ok : CallOk X (fun xs H Q => ∃ i j, xs = [.int i, .int j] ∧ Q (.int (if j < i then j else i)) H) minW := fun Wx ρ H st σ l vs Q s r p => by
  unfold minW at p
  split at p
  · obtain ⟨x, y, rfl, ra, rb⟩ := vrs2 r; rw [int_of ra, int_of rb]; exact ⟨_, _, rfl, post_int s p⟩
  · exact p.elim
theorem ie_max {m : D (List W)} (hc : X.calm = true) (hg : Gl X "max") (hm : X.mg "max" = none) (ha : IA X ex Wx (e :: es) m) (he : starEach (e :: es) X.env = (false, eval e X.env) :: starEach es X.env := by rfl) (hpl : (backTo pos (starEach es X.env)).any (·.1) = false := by rfl) :
    IE X ex Wx (.Call (.Name "max" p) (e :: es) [] pos) (dApp maxW m) := ie_callB (call_max2 hc) max_ok hg hm (by decide +kernel) ha (by decide) (by decide) he hpl
theorem ie_min {m : D (List W)} (hc : X.calm = true) (hg : Gl X "min") (hm : X.mg "min" = none) (ha : IA X ex Wx (e :: es) m) (he : starEach (e :: es) X.env = (false, eval e X.env) :: starEach es X.env := by rfl) (hpl : (backTo pos (starEach es X.env)).any (·.1) = false := by rfl) :
    IE X ex Wx (.Call (.Name "min" p) (e :: es) [] pos) (dApp minW m) := ie_callB (call_min2 hc) min_ok hg hm (by decide +kernel) ha (by decide) (by decide) he hpl
def blOf : W → Option Bool
  | .bl b => some b
  | _ => none
def inOf : W → Option Int
  | .int i => some i
  | _ => none
def stOf : W → Option Str
  | .str i => some i
  | _ => none
theorem VRs.maps {K : PySem.W.Frag} {ρ : List Addr} {H : Hp} {α : Type} {g : W → Option α} {c : α → V} (hg : ∀ w v a, VR K ρ H w v → g w = some a → v = c a) : ∀ {ws : List W} {us : List V} {l : List α}, VRs K ρ H ws us → allO (ws.map g) = some l → us = l.map c
  | [], us, l, r, h => by
    simp only [VRs] at r
    simp only [List.map_nil, allO, Option.some.injEq] at h
    subst r; subst h; rfl
  | w :: ws, us, l, r, h => by
    simp only [VRs] at r
    obtain ⟨u, us', rfl, rw, rs⟩ := r
    simp only [List.map_cons] at h
    cases hf : g w with
    | none => rw [hf] at h; simp [allO] at h
    | some a =>
      rw [hf] at h
      simp only [allO] at h
      cases ha : allO (ws.map g) with
      | none => rw [ha] at h; cases h
      | some r' =>
        rw [ha] at h; cases h
        rw [hg w u a rw hf, VRs.maps hg rs ha]; rfl
theorem blOf_of {ρ : List Addr} {H : Hp} (w : W) (v : V) (b : Bool) (r : VR X.K ρ H w v) (h : blOf w = some b) : v = .bl b := by
  cases w with
  | bl c => cases h; exact bl_of r
  | _ => cases h
theorem inOf_of {ρ : List Addr} {H : Hp} (w : W) (v : V) (b : Int) (r : VR X.K ρ H w v) (h : inOf w = some b) : v = .int b := by
  cases w with
  | int c => cases h; exact int_of r
  | _ => cases h
theorem stOf_of {ρ : List Addr} {H : Hp} (w : W) (v : V) (b : Str) (r : VR X.K ρ H w v) (h : stOf w = some b) : v = .str b := by
  cases w with
  | str c => cases h; exact str_of r
  | _ => cases h
def bls (st : Store) (a : W) : Option (List Bool) := (lstW st a).bind fun ws => allO (ws.map blOf)
def nums (st : Store) (a : W) : Option (List Int) := (lstW st a).bind fun ws => allO (ws.map inOf)
def allW (l : List W) (st : Store) : Res W := match l with
  | [a] => match bls st a with
    | some bs => .ok (.bl (bs.all id)) st
    | none => .stuck
  | _ => .stuck
def anyW (l : List W) (st : Store) : Res W := match l with
  | [a] => match bls st a with
    | some bs => .ok (.bl (bs.any id)) st
    | none => .stuck
  | _ => .stuck
def sumW (l : List W) (st : Store) : Res W := match l with
  | [a] => match nums st a with
    | some bs => .ok (.int bs.sum) st
    | none => .stuck
  | _ => .stuck
theorem bls_of {ρ : List Addr} {H : Hp} {st : Store} {a : W} {x : V} {bs : List Bool} (s : StR X.K ρ H st) (r : VR X.K ρ H a x) (h : bls st a = some bs) : ∃ q, x = .ref q ∧ SqL X.K H q (bs.map V.bl) := by
  unfold bls at h
  cases hl : lstW st a with
  | none => rw [hl] at h; cases h
  | some ws =>
    rw [hl] at h
    obtain ⟨q, us, rfl, hq, rs⟩ := lstW_of s r hl
    exact ⟨q, rfl, by rw [← VRs.maps blOf_of rs (show allO (ws.map blOf) = some bs from h)]; exact hq⟩
theorem nums_of {ρ : List Addr} {H : Hp} {st : Store} {a : W} {x : V} {bs : List Int} (s : StR X.K ρ H st) (r : VR X.K ρ H a x) (h : nums st a = some bs) : ∃ q, x = .ref q ∧ SqL X.K H q (bs.map V.int) := by
  unfold nums at h
  cases hl : lstW st a with
  | none => rw [hl] at h; cases h
  | some ws =>
    rw [hl] at h
    obtain ⟨q, us, rfl, hq, rs⟩ := lstW_of s r hl
    exact ⟨q, rfl, by rw [← VRs.maps inOf_of rs (show allO (ws.map inOf) = some bs from h)]; exact hq⟩
theorem all_ok : CallOk X (rAll X.K) allW := fun Wx ρ H st σ l vs Q s r q => by
  unfold allW at q
  split at q
  · obtain ⟨x, rfl, ra⟩ := vrs1 r
    split at q
    · rename_i bs hb
      obtain ⟨a, rfl, h⟩ := bls_of s ra hb
      exact ⟨a, bs, rfl, h, post_bl s q⟩
    · exact q.elim
  · exact q.elim
theorem any_ok : CallOk X (rAny X.K) anyW := fun Wx ρ H st σ l vs Q s r q => by
  unfold anyW at q
  split at q
  · obtain ⟨x, rfl, ra⟩ := vrs1 r
    split at q
    · rename_i bs hb
      obtain ⟨a, rfl, h⟩ := bls_of s ra hb
      exact ⟨a, bs, rfl, h, post_bl s q⟩
    · exact q.elim
  · exact q.elim
theorem sum_ok : CallOk X (rSum X.K) sumW := fun Wx ρ H st σ l vs Q s r q => by
  unfold sumW at q
  split at q
  · obtain ⟨x, rfl, ra⟩ := vrs1 r
    split at q
    · rename_i bs hb
      obtain ⟨a, rfl, h⟩ := nums_of s ra hb
      exact ⟨a, bs, rfl, h, post_int s q⟩
    · exact q.elim
  · exact q.elim
theorem ie_all {m : D (List W)} (hc : X.calm = true) (hg : Gl X "all") (hm : X.mg "all" = none) (ha : IA X ex Wx (e :: es) m) (he : starEach (e :: es) X.env = (false, eval e X.env) :: starEach es X.env := by rfl) (hpl : (backTo pos (starEach es X.env)).any (·.1) = false := by rfl) :
    IE X ex Wx (.Call (.Name "all" p) (e :: es) [] pos) (dApp allW m) := ie_callB (cr_all hc) all_ok hg hm (by decide +kernel) ha (by decide) (by decide) he hpl
theorem ie_any {m : D (List W)} (hc : X.calm = true) (hg : Gl X "any") (hm : X.mg "any" = none) (ha : IA X ex Wx (e :: es) m) (he : starEach (e :: es) X.env = (false, eval e X.env) :: starEach es X.env := by rfl) (hpl : (backTo pos (starEach es X.env)).any (·.1) = false := by rfl) :
    IE X ex Wx (.Call (.Name "any" p) (e :: es) [] pos) (dApp anyW m) := ie_callB (cr_any hc) any_ok hg hm (by decide +kernel) ha (by decide) (by decide) he hpl
theorem ie_sum {m : D (List W)} (hc : X.calm = true) (hg : Gl X "sum") (hm : X.mg "sum" = none) (ha : IA X ex Wx (e :: es) m) (he : starEach (e :: es) X.env = (false, eval e X.env) :: starEach es X.env := by rfl) (hpl : (backTo pos (starEach es X.env)).any (·.1) = false := by rfl) :
    IE X ex Wx (.Call (.Name "sum" p) (e :: es) [] pos) (dApp sumW m) := ie_callB (cr_sum hc) sum_ok hg hm (by decide +kernel) ha (by decide) (by decide) he hpl
def listW (l : List W) (st : Store) : Res W := match l with
  | [a] => match seqW st a with
    | some ws => .ok (.loc st.length) (st ++ [.lst ws])
    | none => .stuck
  | _ => .stuck
theorem list_ok : CallOk X (fun xs H Q => ∃ p ys, xs = [.ref p] ∧ (SqL X.K H p ys ∨ SqT X.K H p ys) ∧ ∀ l, H l = none → Q (.ref l) (upd H l (.lst ys))) listW := fun Wx ρ H st σ l vs Q s r q => by
  unfold listW at q
  split at q
  · obtain ⟨x, rfl, ra⟩ := vrs1 r
    split at q
    · rename_i ws hs
      obtain ⟨a, us, rfl, hq, rs⟩ := seqW_of s ra hs
      exact ⟨a, us, rfl, hq, post_lst s rs q⟩
    · exact q.elim
  · exact q.elim
theorem ie_list {m : D (List W)} (hg : Gl X "list") (hm : X.mg "list" = none) (ha : IA X ex Wx (e :: es) m) (he : starEach (e :: es) X.env = (false, eval e X.env) :: starEach es X.env := by rfl) (hpl : (backTo pos (starEach es X.env)).any (·.1) = false := by rfl) :
    IE X ex Wx (.Call (.Name "list" p) (e :: es) [] pos) (dApp listW m) := ie_callTy call_list_of list_ok hg hm (by decide +kernel) ha (by decide) (by decide) he hpl
def tupleW (l : List W) (st : Store) : Res W := match l with
  | [.tup ws] => .ok (.tup ws) st
  | [a] => match lstW st a with
    | some ws => .ok (.tup ws) st
    | none => .stuck
  | _ => .stuck
theorem tuple_ok : CallOk X (fun xs H Q => ∃ p ys, xs = [.ref p] ∧ ((SqL X.K H p ys ∧ ∀ l, H l = none → Q (.ref l) (upd H l (.tup ys))) ∨ (SqT X.K H p ys ∧ Q (.ref p) H))) tupleW := fun Wx ρ H st σ l vs Q s r q => by
  unfold tupleW at q
  split at q
  · obtain ⟨x, rfl, ra⟩ := vrs1 r
    obtain ⟨a, us, rfl, hq, rs⟩ := tup_of ra
    exact ⟨a, us, rfl, .inr ⟨hq.sq, q.ok_ s ra⟩⟩
  · obtain ⟨x, rfl, ra⟩ := vrs1 r
    split at q
    · rename_i ws hs
      obtain ⟨a, us, rfl, hq, rs⟩ := lstW_of s ra hs
      exact ⟨a, us, rfl, .inl ⟨hq, post_tup s rs q⟩⟩
    · exact q.elim
  · exact q.elim
theorem ie_tuple {m : D (List W)} (hg : Gl X "tuple") (hm : X.mg "tuple" = none) (ha : IA X ex Wx (e :: es) m) (he : starEach (e :: es) X.env = (false, eval e X.env) :: starEach es X.env := by rfl) (hpl : (backTo pos (starEach es X.env)).any (·.1) = false := by rfl) :
    IE X ex Wx (.Call (.Name "tuple" p) (e :: es) [] pos) (dApp tupleW m) := ie_callTy call_tuple_of tuple_ok hg hm (by decide +kernel) ha (by decide) (by decide) he hpl
def divmodW (l : List W) (st : Store) : Res W := match l with
  | [.int i, .int j] => if CDiv i j then .ok (.tup [.int (i / j), .int (i % j)]) st else .stuck
  | _ => .stuck
theorem divmod_ok : CallOk X (fun xs H Q => ∃ i j, xs = [.int i, .int j] ∧ CDiv i j ∧ ∀ p, H p = none → Q (.ref p) (upd H p (.tup [.int (i / j), .int (i % j)]))) divmodW := fun Wx ρ H st σ l vs Q s r q => by
  unfold divmodW at q
  split at q
  · obtain ⟨x, y, rfl, ra, rb⟩ := vrs2 r
    rw [int_of ra, int_of rb]
    split at q
    · rename_i hc
      exact ⟨_, _, rfl, hc, post_tup s (.cons' (by simp [VR]) (.one (by simp [VR]))) q⟩
    · exact q.elim
  · exact q.elim
theorem ie_divmod {m : D (List W)} (hg : Gl X "divmod") (hm : X.mg "divmod" = none) (ha : IA X ex Wx (e :: es) m) (he : starEach (e :: es) X.env = (false, eval e X.env) :: starEach es X.env := by rfl) (hpl : (backTo pos (starEach es X.env)).any (·.1) = false := by rfl) :
    IE X ex Wx (.Call (.Name "divmod" p) (e :: es) [] pos) (dApp divmodW m) := ie_callB call_divmod divmod_ok hg hm (by decide +kernel) ha (by decide) (by decide) he hpl
/-! ### isinstance -/
def tyN (st : Store) : W → Option String
  | .non => some "NoneType"
  | .bl _ => some "bool"
  | .int _ => some "int"
  | .str _ => some "str"
  | .tup _ => some "tuple"
  | .fro _ => some "list"
  | .loc n => match st[n]? with
    | some (.lst _) => some "list"
    | none => none
  | .gl _ => none
  | .rng _ _ => none
theorem tyN_of {ρ : List Addr} {H : Hp} {st : Store} {a : W} {x : V} {t : String} (s : StR X.K ρ H st) (r : VR X.K ρ H a x) (h : tyN st a = some t) : TyX X.K H x (.type t) := by
  cases a with
  | non => cases h; rw [non_of r]; exact .base .non
  | bl b => cases h; rw [bl_of r]; exact .base (.bl b)
  | int b => cases h; rw [int_of r]; exact .base (.int b)
  | str b => cases h; rw [str_of r]; exact .base (.str b)
  | gl u => cases h
  | rng i j => cases h
  | tup ws =>
    cases h
    obtain ⟨q, us, rfl, hq, rs⟩ := tup_of r
    rcases hq with hq | ⟨o, its, n, hk, hc, _⟩
    · exact .base (.tup hq)
    · exact .kTuple hk hc
  | fro ws =>
    cases h
    obtain ⟨q, us, rfl, hq, rs⟩ := fro_of r
    rcases hq with ⟨o, hq⟩ | ⟨o, its, n, hk, hc, _⟩
    · exact .base (.frz hq)
    · exact .kList hk hc
  | loc n =>
    unfold tyN at h
    simp only at h
    split at h
    · rename_i ws hk
      cases h
      obtain ⟨q, us, _, rfl, hu, rs⟩ := loc_lst s r hk
      exact .base (.lst hu)
    · cases h
def isiW (l : List W) (st : Store) : Res W := match l with
  | [a, .gl (.ty n)] => match tyN st a with
    | some t => match kitB t n with
      | some b => .ok (.bl b) st
      | none => .stuck
    | none => .stuck
  | _ => .stuck
theorem isi_ok : CallOk X (rIsi X.K) isiW := fun Wx ρ H st σ l vs Q s r q => by
  unfold isiW at q
  split at q
  · rename_i a0 n0
    obtain ⟨x, y, rfl, ra, rb⟩ := vrs2 r
    have rb' : y = .ty n0 := by simpa only [VR] using rb
    subst rb'
    split at q
    · rename_i t ht
      split at q
      · rename_i b hb
        exact ⟨x, _, .type t, .type _, b, rfl, .ty _, tyN_of s ra ht, kit_ty hb, post_bl s q⟩
      · exact q.elim
    · exact q.elim
  · exact q.elim
theorem ie_ty {T : String} {nm : Str} (hg : Gl X nm) (hm : X.mg nm = none) (hv : bootBuiltins nm = some (.type T)) (hn : nm ≠ "__name__" := by decide) (hd : (nm == ("__debug__" : Str)) = false := by decide) : IE X ex Wx (.Name nm pos) (dC (.gl (.ty T))) :=
  ie_c (pe_bltn (v := .ty T) hg hm hv rfl hn hd) fun _ _ => by simp [VR]
theorem ie_isi {m : D (List W)} (hg : Gl X "isinstance") (hm : X.mg "isinstance" = none) (ha : IA X ex Wx (e :: es) m) (he : starEach (e :: es) X.env = (false, eval e X.env) :: starEach es X.env := by rfl) (hpl : (backTo pos (starEach es X.env)).any (·.1) = false := by rfl) :
    IE X ex Wx (.Call (.Name "isinstance" p) (e :: es) [] pos) (dApp isiW m) := ie_callB call_isi isi_ok hg hm (by decide +kernel) ha (by decide) (by decide) he hpl
/-- isinstance(e, (A, B)), two built-in types -/
def isi2W (A B : String) (a : W) (st : Store) : Res W := match tyN st a with
  | some t => match kitB t A, kitB t B with
    | some x, some y => .ok (.bl (x || y)) st
    | _, _ => .stuck
  | none => .stuck
theorem ie_isi2 {m : D W} {A B : String} {na nb : Str} {q1 q2 q3 : Pos} {j : Nat} (hg : Gl X "isinstance") (hm : X.mg "isinstance" = none) (ha : IE X ex Wx e m) (hga : Gl X na) (hma : X.mg na = none) (hva : bootBuiltins na = some (.type A)) (hgb : Gl X nb) (hmb : X.mg nb = none) (hvb : bootBuiltins nb = some (.type B))
    (hna : na ≠ "__name__" := by decide) (hda : (na == ("__debug__" : Str)) = false := by decide) (hnb : nb ≠ "__name__" := by decide) (hdb : (nb == ("__debug__" : Str)) = false := by decide)
    (he : starEach [e, .Tuple [.Name na q1, .Name nb q2] j q3] X.env = (false, eval e X.env) :: starEach [.Tuple [.Name na q1, .Name nb q2] j q3] X.env := by rfl) (hpl : (backTo pos (starEach [.Tuple [.Name na q1, .Name nb q2] j q3] X.env)).any (·.1) = false := by rfl) :
    IE X ex Wx (.Call (.Name "isinstance" p) [e, .Tuple [.Name na q1, .Name nb q2] j q3] [] pos) (dUn (isi2W A B) m) := by
  refine PE.of (pe_callB call_isiT hg hm (by decide +kernel) (pa_cons (es := [.Tuple [.Name na q1, .Name nb q2] j q3]) ha (pa_cons (pe_tup (pa_cons (pe_bltn (v := .ty A) hga hma hva rfl hna hda) (pa_cons (pe_bltn (v := .ty B) hgb hmb hvb rfl hnb hdb) pa_nil))) pa_nil) he) (by decide) (by decide) he hpl) fun σ H Q ⟨ρ, env, st, s, e, q⟩ => RG.bind s e q fun ρ1 H1 st1 a x g1 s1 e1 ra q1 => ?_
  refine ⟨by show 2 ≤ sizeLine; decide, fun t nt => ?_⟩
  have q2 := Post.mono q1 (grow_imm (u := .tup [.ty A, .ty B]) nt)
  have s2 := s1.grow_imm (u := .tup [.ty A, .ty B]) nt
  have r2 := VR.grow s1.apart (grow_imm (u := .tup [.ty A, .ty B]) nt) a x ra
  unfold isi2W at q2
  split at q2
  · rename_i ty hty
    split at q2
    · rename_i x1 y1 hx hy
      refine ⟨x, t, [.ty A, .ty B], .type ty, [.type A, .type B], (x1 || y1), rfl, upd_same, .cons (.ty A) (.cons (.ty B) .nil), tyN_of s2 r2 hty, ?_, post_bl s2 q2⟩
      refine kitAny_cons (kit_ty hx) (fun h => ?_) (fun h => by rw [h]; rfl)
      refine kitAny_cons (kit_ty hy) (fun h2 => ?_) (fun h2 => by rw [h2]; simp)
      rw [h, h2]; exact kitAny_nil
    · exact q2.elim
  · exact q2.elim
/-! ### methods of texts, append -/
def tyS (a : W) (_ : Store) : Bool := match a with
  | .str _ => true
  | _ => false
theorem tyS_ok : TyOk X "str" tyS := fun ρ H st a x s r h => by
  cases a with
  | str z => rw [str_of r]; exact rfl
  | _ => cases h
def tyL (a : W) (st : Store) : Bool := match a with
  | .loc n => (st[n]?).isSome
  | _ => false
theorem tyL_ok : TyOk X "list" tyL := fun ρ H st a x s r h => by
  cases a with
  | loc n =>
    unfold tyL at h
    simp only at h
    cases hk : st[n]? with
    | none => rw [hk] at h; cases h
    | some o =>
      cases o with
      | lst ws =>
        obtain ⟨q, us, _, rfl, hu, rs⟩ := loc_lst s r hk
        exact .inl ⟨rfl, us, .of hu⟩
  | _ => cases h
def strsW (st : Store) (a : W) : Option (List Str) := (seqW st a).bind fun ws => allO (ws.map stOf)
def joinW (a : W) (l : List W) (st : Store) : Res W := match a, l with
  | .str z, [b] => match strsW st b with
    | some ys => if (ys.map (·.length)).sum + ys.length * z.length ≤ 16777216 then .ok (.str (Txt.join z ys)) st else .stuck
    | none => .stuck
  | _, _ => .stuck
theorem join_ok : MtOk X (fun x xs H Q => ∃ a p, ∃ ys : List Str, x = .str a ∧ xs = [.ref p] ∧ (SqL X.K H p (ys.map V.str) ∨ SqT X.K H p (ys.map V.str)) ∧ (ys.map (·.length)).sum + ys.length * a.length ≤ 16777216 ∧ Q (.str (Txt.join a ys)) H) joinW := fun Wx ρ H st σ a l x vs Q s ra rl q => by
  unfold joinW at q
  split at q
  · obtain ⟨y, rfl, rb⟩ := vrs1 rl
    split at q
    · rename_i ys hy
      split at q
      · rename_i hz
        unfold strsW at hy
        cases hs : seqW st _ with
        | none => rw [hs] at hy; cases hy
        | some ws =>
          rw [hs] at hy
          obtain ⟨a1, us, rfl, hq, rs⟩ := seqW_of s rb hs
          have e1 := VRs.maps stOf_of rs (show allO (ws.map stOf) = some ys from hy)
          subst e1
          exact ⟨_, a1, ys, str_of ra, rfl, hq, hz, post_str s q⟩
      · exact q.elim
    · exact q.elim
  · exact q.elim
def stripW (a : W) (l : List W) (st : Store) : Res W := match a, l with
  | .str z, [.str b] => if z.length ≤ sizeLine then .ok (.str (Txt.stripChars z b)) st else .stuck
  | _, _ => .stuck
theorem strip_ok : MtOk X (fun x xs H Q => ∃ a b, x = .str a ∧ xs = [.str b] ∧ a.length ≤ sizeLine ∧ Q (.str (Txt.stripChars a b)) H) stripW := fun Wx ρ H st σ a l x vs Q s ra rl q => by
  unfold stripW at q
  split at q
  · obtain ⟨y, rfl, rb⟩ := vrs1 rl
    rw [str_of ra, str_of rb]
    split at q
    · rename_i hz; exact ⟨_, _, rfl, rfl, hz, post_str s q⟩
    · exact q.elim
  · exact q.elim
def endswithW (a : W) (l : List W) (st : Store) : Res W := match a, l with
  | .str z, [.str b] => .ok (.bl (Txt.endswith z b)) st
  | _, _ => .stuck
theorem endswith_ok : MtOk X (fun x xs H Q => ∃ a b, x = .str a ∧ xs = [.str b] ∧ Q (.bl (Txt.endswith a b)) H) endswithW := fun Wx ρ H st σ a l x vs Q s ra rl q => by
  unfold endswithW at q
  split at q
  · obtain ⟨y, rfl, rb⟩ := vrs1 rl
    rw [str_of ra, str_of rb]
    exact ⟨_, _, rfl, rfl, post_bl s q⟩
  · exact q.elim
def splitW (a : W) (l : List W) (st : Store) : Res W := match a, l with
  | .str z, [.str b] => if (b.length == 0) = false ∧ z.length + 2 ≤ sizeLine then .ok (.loc st.length) (st ++ [.lst ((Txt.split z b).map W.str)]) else .stuck
  | _, _ => .stuck
theorem VRs.ofStrs {K : PySem.W.Frag} {ρ : List Addr} {H : Hp} : ∀ (l : List Str), VRs K ρ H (l.map W.str) (l.map V.str)
  | [] => by simp [VRs]
  | x :: l => .cons' (by simp [VR]) (VRs.ofStrs l)
theorem split_ok : MtOk X (fun x xs H Q => ∃ a b, x = .str a ∧ xs = [.str b] ∧ (b.length == 0) = false ∧ a.length + 2 ≤ sizeLine ∧ rNewStrs (Txt.split a b) H Q) splitW := fun Wx ρ H st σ a l x vs Q s ra rl q => by
  unfold splitW at q
  split at q
  · obtain ⟨y, rfl, rb⟩ := vrs1 rl
    rw [str_of ra, str_of rb]
    split at q
    · rename_i hz
      exact ⟨_, _, rfl, rfl, hz.1, hz.2, post_lst s (VRs.ofStrs _) q⟩
    · exact q.elim
  · exact q.elim
def appendW (a : W) (l : List W) (st : Store) : Res W := match a, l with
  | .loc n, [w] => match st[n]? with
    | some (.lst ws) => if ws.length < sizeLine then .ok .non (st.set n (.lst (ws ++ [w]))) else .stuck
    | none => .stuck
  | _, _ => .stuck
theorem append_ok : MtOk X rAppend appendW := fun Wx ρ H st σ a l x vs Q s ra rl q => by
  unfold appendW at q
  split at q
  · rename_i n w
    obtain ⟨y, rfl, rb⟩ := vrs1 rl
    split at q
    · rename_i ws hk
      split at q
      · rename_i hz
        obtain ⟨a1, us, hn, rfl, hu, rs⟩ := loc_lst s ra hk
        have hm : a1 ∈ ρ := List.mem_of_getElem? hn
        have g : Grow ρ H ρ (upd H a1 (.lst (us ++ [y]))) := grow_write hm
        refine ⟨a1, us, y, rfl, rfl, hu, by rw [← VRs.length rs]; exact hz, ?_⟩
        exact q ρ _ _ g (s.write hn ⟨_, upd_same, (VRs.grow s.apart g ws us rs).append (.one (VR.grow s.apart g w y rb))⟩) (by simp [VR])
      · exact q.elim
    · exact q.elim
  · exact q.elim
/-! ### o[i] = v -/
def setW (o i v : W) (st : Store) : Option Store := match o, i with
  | .loc n, .int k => match st[n]? with
    | some (.lst ws) => match ixN ws.length k with
      | some j => some (st.set n (.lst (ws.set j v)))
      | none => none
    | none => none
  | _, _ => none
def tSub (mo mi : D W) : DT := fun v env st => match mo env st with
  | .ok o st1 => match mi env st1 with
    | .ok i st2 => (setW o i v st2).map fun st3 => (env, st3)
    | _ => none
  | _ => none
theorem ig_sub {vl : List Nat} {o i : Expr} {mo mi : D W} (ho : IE X ex W0 o mo) (hi : IE X ex W0 i mi)
    (ha : ∀ v, assign (.Subscript o i pos) X.env v = (do
      let ov ← holding [v] (eval o X.env)
      let iv ← holding [v, ov] (eval i X.env)
      standAt pos
      holding [v, ov, iv] (setItem ov iv v)
      release [v, ov, iv] []) := by intro _; rfl) : IG X ex vl (.Subscript o i pos) (tSub mo mi) :=
  PG.of (pg_sub ho hi set_list ha) fun v σ H Q ⟨ρ, env, st, w, s, e, rw, env', st', q, pp⟩ => by
    unfold tSub at q
    refine ⟨ρ, env, st, s, e, ?_⟩
    generalize hmo : mo env st = ro at q
    cases ro with
    | stuck => cases q
    | err c w1 st1 => cases q
    | ok ov st1 =>
      intro ρ1 H1 x g1 s1 r1
      refine ⟨ρ1, env, st1, s1, e.grow s.apart g1, ?_⟩
      simp only at q
      generalize hmi : mi env st1 = ri at q
      cases ri with
      | stuck => cases q
      | err c w1 st1 => cases q
      | ok iv st2 =>
        intro ρ2 H2 y g2 s2 r2
        simp only at q
        have r1' := VR.grow s1.apart g2 ov x r1
        have rw' := VR.grow s1.apart g2 w v (VR.grow s.apart g1 w v rw)
        unfold setW at q
        split at q
        · rename_i n k
          split at q
          · rename_i ws hk
            split at q
            · rename_i j hj
              simp only [Option.map_some, Option.some.injEq, Prod.mk.injEq] at q
              obtain ⟨rfl, rfl⟩ := q
              obtain ⟨a1, us, hn, rfl, hu, rs⟩ := loc_lst s2 r1' hk
              rw [int_of r2]
              have hm : a1 ∈ ρ2 := List.mem_of_getElem? hn
              have g3 : Grow ρ2 H2 ρ2 (upd H2 a1 (.lst (us.set j v))) := grow_write hm
              refine ⟨a1, us, k, j, rfl, rfl, hu, by rw [← VRs.length rs]; exact hj, ?_⟩
              exact pp ρ2 _ σ (g1.trans (g2.trans g3)) (s2.write hn ⟨_, upd_same, (VRs.grow s2.apart g3 ws us rs).set (VR.grow s2.apart g3 w v rw') j⟩) (((e.grow s.apart g1).grow s1.apart g2).grow s2.apart g3) rfl
            · cases q
          · cases q
        · cases q
/-! ### calls with keywords alone -/
theorem pe_callKS {sp : Sp} {E : L2.St → XK} {CX : CXT} {kws : List Keyword} {tk : TA} {ks : List Str} (F : FnOk X.prog X.w X.K X.mg X.base CX k f fd ps sp) (hr : Room k X.A) (hg : Gl X x) (hm : X.mg x = some (.ref f)) (hk : PySem.W.keepIn X.K (.ref f) = true)
    (hb : ∀ (s : Shared) (ws : List Value), X.K.In s.heap → ws.length = ps.length → BindsTo s fd ⟨[], ks.zip ws⟩ (ps.zip ws)) (hx : ∀ σ, PassesAt CX X σ (E σ)) (hkw : PK X kws tk)
    (hall : (backToKw pos (keywordEach kws X.env)).all (·.1.isSome) = true := by rfl) (hks : (backToKw pos (keywordEach kws X.env)).filterMap (·.1) = ks := by rfl) (hdb : (x == ("__debug__" : Str)) = false := by decide)
    (hpl : ((backTo pos (starEach [] X.env)).any (·.1) || (backToKw pos (keywordEach kws X.env)).any (·.1.isNone)) = false := by rfl) :
    PE X (.Call (.Name x p) [] kws pos) (tCallS sp E tk) := by
  refine ⟨fun pins s σ H Q I h => ?_⟩
  refine wpAny_Call_Name_kw (ld_glob I hg hm ?_ hdb)
  refine PySem.W.callWith_KW0 (h₀ := X.base) I.ok.mod.kin hk hall (thn (hkw.run pos pins s σ H _ I h) fun ws s1 ⟨zs, H1, I1, rz, q⟩ => ⟨I1.kIn, ?_⟩) hpl
  rw [hks]
  have hl : ws.length = ps.length := by rw [← rz.length]; exact F.len _ _ _ _ q
  refine wpAny_call (codeAny_mono (F.run X.A X.stack s1 H1 ⟨[], ks.zip ws⟩ ws zs Q (E σ) hr I1.env0 (hb s1 ws I1.kIn hl) rz q) fun r s' hq => ?_)
  cases r with
  | error e => exact hx σ pins H1 s1 e s' I1 hq
  | ok fl =>
    cases fl with
    | ret u => exact I1.after hq
    | next => exact False.elim hq
    | brk => exact False.elim hq
    | cont => exact False.elim hq
abbrev IK (X : Cx) (ex : Option Exn) (Wx : WX) (kws : List Keyword) (m : D (List W)) : Prop := PK X kws (RG X ex Wx (relVs X.K) m)
theorem PK.of {kws : List Keyword} {t t' : TA} (h : PK X kws t) (w : ∀ σ H Q, t' σ H Q → t σ H Q) : PK X kws t' := ⟨fun pos pins s σ H Q I q => h.run pos pins s σ H Q I (w _ _ _ q)⟩
theorem ik_nil : IK X ex Wx [] dNil := PK.of pk_nil fun σ H Q ⟨ρ, env, st, s, e, p⟩ => p.ok_ s (by simp [VRs])
theorem ik_cons {nm : Option Str} {kpos : Pos} {kws : List Keyword} {m : D W} {r : D (List W)} (he : IE X ex Wx e m) (hr : IK X ex Wx kws r) : IK X ex Wx (⟨nm, e, kpos⟩ :: kws) (dCons m r) :=
  PK.of (pk_cons he hr) fun σ H Q ⟨ρ, env, st, s, e, p⟩ => RG.bind s e p fun ρ1 H1 st1 a x g1 s1 e1 ra p1 => RG.bind s1 e1 p1 fun ρ2 H2 st2 l xs g2 s2 e2 rb p2 =>
    p2.ok_ s2 (VRs.cons' (VR.grow s1.apart g2 a x ra) rb)
theorem ie_callK {m : D (List W)} {kws : List Keyword} {ks : List Str} (F : FnOk X.prog X.w X.K X.mg X.base (L2.CX X.prog X.w) k f fd ps (SpM X.K X.mg n den)) (hr : Room k X.A) (hg : Gl X x) (hm : X.mg x = some (.ref f)) (hk : PySem.W.keepIn X.K (.ref f) = true)
    (hb : ∀ (s : Shared) (ws : List Value), X.K.In s.heap → ws.length = ps.length → BindsTo s fd ⟨[], ks.zip ws⟩ (ps.zip ws)) (tk : Takes X Wx) (hkw : IK X ex Wx kws m)
    (hall : (backToKw pos (keywordEach kws X.env)).all (·.1.isSome) = true := by rfl) (hks : (backToKw pos (keywordEach kws X.env)).filterMap (·.1) = ks := by rfl) (hdb : (x == ("__debug__" : Str)) = false := by decide)
    (hpl : ((backTo pos (starEach [] X.env)).any (·.1) || (backToKw pos (keywordEach kws X.env)).any (·.1.isNone)) = false := by rfl) :
    IE X ex Wx (.Call (.Name x p) [] kws pos) (dCall n den m) :=
  PE.of (pe_callKS F hr hg hm hk hb (fun σ => passAt tk σ) hkw hall hks hdb hpl) fun σ H Q ⟨ρ, env, st, s, e, p⟩ => RG.bind s e p fun ρ1 H1 st1 l vs g s1 e1 r p1 => by
    split at p1
    · rename_i hl; exact sp_of s1 r hl p1
    · exact p1.elim
end
end
end MP
namespace MP
open PySem PySem.Spec PyProof.Rows L2
open Classical
noncomputable section
/-! ### the text's defs, as a generated text names them -/
structure DefF (K : PySem.W.Frag) (mg : Str → Option Value) (x qual : Str) (st : Stmt) (ps : List Str) where
  f : Addr
  fd : FuncData
  F : Fun K x qual st f fd
  m : mg x = some (.ref f)
  b : Binds K fd ps []
structure FnF (P : Program) (w : World) (K : PySem.W.Frag) (mg : Str → Option Value) (base : Heap) (x : Str) (ps : List Str) (k n : Nat) (den : List W → Store → Res W) where
  f : Addr
  fd : FuncData
  ok : FnOk P w K mg base (L2.CX P w) k f fd ps (SpM K mg n den)
  m : mg x = some (.ref f)
  kp : PySem.W.keepIn K (.ref f) = true
  b : Binds K fd ps []
/-- an error class of the text -/
structure ErF (P : Program) (w : World) (K : PySem.W.Frag) (mg : Str → Option Value) (base : Heap) (x : Str) where
  C : Addr
  f : Addr
  fd : FuncData
  T : ErrC K mg x C f
  ok : FnOk P w K mg base (L2.CX P w) 1 f fd ["self", "value"] (spExc K)
  b : Binds K fd ["self", "value"] []
theorem fn_stuck {P : Program} {w : World} {K : PySem.W.Frag} {mg : Str → Option Value} {base : Heap} {k n : Nat} {f : Addr} {fd : FuncData} {ps : List Str} : FnOk P w K mg base (L2.CX P w) k f fd ps (SpM K mg n fun _ _ => .stuck) :=
  ⟨fun vs H Q E ⟨_, _, _, _, _, _, z⟩ => z.elim, fun A outer s H args us vs Q E hr he hb hv ⟨_, _, _, _, _, _, z⟩ => z.elim⟩
section
variable {X : Cx} {ex : Option Exn} {Wx : WX} {pos p p' pos2 : Pos} {x : Str} {e : Expr} {es : List Expr} {ps : List Str} {k j n : Nat} {den : List W → Store → Res W}
theorem ie_int {i : Int} {q : Nat} : IE X ex Wx (.Constant (.int i) q pos) (dC (.int i)) := ie_c pe_int fun _ _ => by simp [VR]
theorem ie_str {i : Str} {q : Nat} : IE X ex Wx (.Constant (.str i) q pos) (dC (.str i)) := ie_c pe_str fun _ _ => by simp [VR]
theorem ie_bl {i : Bool} {q : Nat} : IE X ex Wx (.Constant (.bool i) q pos) (dC (.bl i)) := ie_c pe_bl fun _ _ => by simp [VR]
theorem ie_non {q : Nat} : IE X ex Wx (.Constant .none q pos) (dC .non) := ie_c pe_non fun _ _ => by simp [VR]
theorem ie_gint {i : Int} {t : Tok} (hm : X.mg x = some (.int i t)) (hg : Gl X x := by rfl) (hd : (x == ("__debug__" : Str)) = false := by decide) : IE X ex Wx (.Name x pos) (dC (.int i)) := ie_c (pe_glob (v := .int i) hg hm ⟨t, rfl⟩ hd) fun _ _ => by simp [VR]
theorem ie_gstr {i : Str} {t : Tok} (hm : X.mg x = some (.str i t)) (hg : Gl X x := by rfl) (hd : (x == ("__debug__" : Str)) = false := by decide) : IE X ex Wx (.Name x pos) (dC (.str i)) := ie_c (pe_glob (v := .str i) hg hm ⟨t, rfl⟩ hd) fun _ _ => by simp [VR]
theorem ie_callF {m : D (List W)} (G : FnF X.prog X.w X.K X.mg X.base x ps j n den) (hr : Room j X.A) (tk : Takes X Wx) (ha : IA X ex Wx (e :: es) m) (hg : Gl X x := by rfl) (hdb : (x == ("__debug__" : Str)) = false := by decide)
    (he : starEach (e :: es) X.env = (false, eval e X.env) :: starEach es X.env := by rfl) (hpl : (backTo pos (starEach es X.env)).any (·.1) = false := by rfl) : IE X ex Wx (.Call (.Name x p) (e :: es) [] pos) (dCall n den m) :=
  ie_call G.ok hr hg G.m G.kp G.b tk ha hdb he hpl
theorem ie_callF0 (G : FnF X.prog X.w X.K X.mg X.base x ps j n den) (hr : Room j X.A) (tk : Takes X Wx) (hg : Gl X x := by rfl) (hdb : (x == ("__debug__" : Str)) = false := by decide) : IE X ex Wx (.Call (.Name x p) [] [] pos) (dCall n den dNil) :=
  ie_call0 G.ok hr hg G.m G.kp G.b tk hdb
theorem ie_callFK {m : D (List W)} {kws : List Keyword} {ks : List Str} (G : FnF X.prog X.w X.K X.mg X.base x ps j n den) (hr : Room j X.A) (tk : Takes X Wx)
    (hb : ∀ (s : Shared) (ws : List Value), X.K.In s.heap → ws.length = ps.length → BindsTo s G.fd ⟨[], ks.zip ws⟩ (ps.zip ws)) (hkw : IK X ex Wx kws m) (hg : Gl X x := by rfl)
    (hall : (backToKw pos (keywordEach kws X.env)).all (·.1.isSome) = true := by rfl) (hks : (backToKw pos (keywordEach kws X.env)).filterMap (·.1) = ks := by rfl) (hdb : (x == ("__debug__" : Str)) = false := by decide)
    (hpl : ((backTo pos (starEach [] X.env)).any (·.1) || (backToKw pos (keywordEach kws X.env)).any (·.1.isNone)) = false := by rfl) : IE X ex Wx (.Call (.Name x p) [] kws pos) (dCall n den m) :=
  ie_callK G.ok hr hg G.m G.kp hb tk hkw hall hks hdb hpl
theorem is_raiseF {m : D (List W)} (G : ErF X.prog X.w X.K X.mg X.base x) (hr : Room 2 X.A) (tk : Takes X Wx) (ha : IA X ex Wx [e] m) (hc : X.calm = true := by rfl) (hg : Gl X x := by rfl) (hdb : (x == ("__debug__" : Str)) = false := by decide)
    (he : starEach [e] X.env = (false, eval e X.env) :: starEach [] X.env := by rfl) (hpl : (backTo pos (starEach [] X.env)).any (·.1) = false := by rfl) : IS X ex Wx (.Raise (some (.Call (.Name x p) [e] [] pos)) none pos2) (sRaise x m) :=
  is_raise hc tk G.T G.ok hr G.b hg ha hdb he hpl
/-! methods, by their names -/
theorem ie_join {o : Expr} {apos cpos : Pos} {mo : D W} {m : D (List W)} (ho : IE X ex Wx o mo) (ha : IA X ex Wx [e] m) (hbase : attributeBase o "join" X.env (eval o X.env) = eval o X.env := by rfl)
    (hfew : ((backTo cpos (starEach [e] X.env)).all (fun x => !x.1) && (backToKw cpos (keywordEach [] X.env)).all (fun x => x.1.isSome) && decide ([e].length + ([] : List Keyword).length + (if ([] : List Keyword).isEmpty then 0 else 1) < 30)) = true := by rfl)
    (hline : (apos.endLine == cpos.line) = true := by rfl) (hs : starEach [e] X.env = (false, eval e X.env) :: starEach [] X.env := by rfl) (hp : (backTo cpos (starEach [] X.env)).any (·.1) = false := by rfl) :
    IE X ex Wx (.Call (.Attribute o "join" apos) [e] [] cpos) (dBm tyS joinW mo m) := ie_bm PySem.F.plainAttrs_str PySem.F.slot_str_join PySem.F.type_str_join mt_join join_ok tyS_ok ho ha hbase hfew hline hs hp
theorem ie_strip {o : Expr} {apos cpos : Pos} {mo : D W} {m : D (List W)} (ho : IE X ex Wx o mo) (ha : IA X ex Wx [e] m) (hbase : attributeBase o "strip" X.env (eval o X.env) = eval o X.env := by rfl)
    (hfew : ((backTo cpos (starEach [e] X.env)).all (fun x => !x.1) && (backToKw cpos (keywordEach [] X.env)).all (fun x => x.1.isSome) && decide ([e].length + ([] : List Keyword).length + (if ([] : List Keyword).isEmpty then 0 else 1) < 30)) = true := by rfl)
    (hline : (apos.endLine == cpos.line) = true := by rfl) (hs : starEach [e] X.env = (false, eval e X.env) :: starEach [] X.env := by rfl) (hp : (backTo cpos (starEach [] X.env)).any (·.1) = false := by rfl) :
    IE X ex Wx (.Call (.Attribute o "strip" apos) [e] [] cpos) (dBm tyS stripW mo m) := ie_bm PySem.F.plainAttrs_str PySem.F.slot_str_strip PySem.F.type_str_strip mt_stripChars strip_ok tyS_ok ho ha hbase hfew hline hs hp
theorem ie_endswith {o : Expr} {apos cpos : Pos} {mo : D W} {m : D (List W)} (ho : IE X ex Wx o mo) (ha : IA X ex Wx [e] m) (hbase : attributeBase o "endswith" X.env (eval o X.env) = eval o X.env := by rfl)
    (hfew : ((backTo cpos (starEach [e] X.env)).all (fun x => !x.1) && (backToKw cpos (keywordEach [] X.env)).all (fun x => x.1.isSome) && decide ([e].length + ([] : List Keyword).length + (if ([] : List Keyword).isEmpty then 0 else 1) < 30)) = true := by rfl)
    (hline : (apos.endLine == cpos.line) = true := by rfl) (hs : starEach [e] X.env = (false, eval e X.env) :: starEach [] X.env := by rfl) (hp : (backTo cpos (starEach [] X.env)).any (·.1) = false := by rfl) :
    IE X ex Wx (.Call (.Attribute o "endswith" apos) [e] [] cpos) (dBm tyS endswithW mo m) := ie_bm PySem.F.plainAttrs_str PySem.F.slot_str_endswith PySem.F.type_str_endswith mt_endswith endswith_ok tyS_ok ho ha hbase hfew hline hs hp
theorem ie_split {o : Expr} {apos cpos : Pos} {mo : D W} {m : D (List W)} (ho : IE X ex Wx o mo) (ha : IA X ex Wx [e] m) (hbase : attributeBase o "split" X.env (eval o X.env) = eval o X.env := by rfl)
    (hfew : ((backTo cpos (starEach [e] X.env)).all (fun x => !x.1) && (backToKw cpos (keywordEach [] X.env)).all (fun x => x.1.isSome) && decide ([e].length + ([] : List Keyword).length + (if ([] : List Keyword).isEmpty then 0 else 1) < 30)) = true := by rfl)
    (hline : (apos.endLine == cpos.line) = true := by rfl) (hs : starEach [e] X.env = (false, eval e X.env) :: starEach [] X.env := by rfl) (hp : (backTo cpos (starEach [] X.env)).any (·.1) = false := by rfl) :
    IE X ex Wx (.Call (.Attribute o "split" apos) [e] [] cpos) (dBm tyS splitW mo m) := ie_bm PySem.F.plainAttrs_str PySem.F.slot_str_split PySem.F.type_str_split mt_split split_ok tyS_ok ho ha hbase hfew hline hs hp
theorem ie_append {o : Expr} {apos cpos : Pos} {mo : D W} {m : D (List W)} (ho : IE X ex Wx o mo) (ha : IA X ex Wx [e] m) (hbase : attributeBase o "append" X.env (eval o X.env) = eval o X.env := by rfl)
    (hfew : ((backTo cpos (starEach [e] X.env)).all (fun x => !x.1) && (backToKw cpos (keywordEach [] X.env)).all (fun x => x.1.isSome) && decide ([e].length + ([] : List Keyword).length + (if ([] : List Keyword).isEmpty then 0 else 1) < 30)) = true := by rfl)
    (hline : (apos.endLine == cpos.line) = true := by rfl) (hs : starEach [e] X.env = (false, eval e X.env) :: starEach [] X.env := by rfl) (hp : (backTo cpos (starEach [] X.env)).any (·.1) = false := by rfl) :
    IE X ex Wx (.Call (.Attribute o "append" apos) [e] [] cpos) (dBm tyL appendW mo m) := ie_bm PySem.F.plainAttrs_list PySem.F.slot_list_append PySem.F.type_list_append mt_append append_ok tyL_ok ho ha hbase hfew hline hs hp
/-! xs[::-1] of a list -/
def revW (a : W) (st : Store) : Res W := match lstW st a with
  | some ws => .ok (.loc st.length) (st ++ [.lst ws.reverse])
  | none => .stuck
theorem ie_rev {m : D W} {kk : Nat} {p1 p2 p3 : Pos} (he : IE X ex Wx e m) : IE X ex Wx (.Subscript e (.Slice none none (some (.UnaryOp .USub (.Constant (.int 1) kk p1) p2)) p3) pos) (dUn revW m) :=
  PE.of (pe_revL he) fun σ H Q ⟨ρ, env, st, s, e, q⟩ => RG.bind s e q fun ρ1 H1 st1 a x g1 s1 e1 ra q1 => by
    unfold revW at q1
    split at q1
    · rename_i ws hs
      obtain ⟨q2, us, rfl, hq, rs⟩ := lstW_of s1 ra hs
      exact ⟨q2, us, rfl, hq, post_lst s1 rs.reverse q1⟩
    · exact q1.elim
/-! isinstance of the error that a suite holds -/
/-- what is asked of an error's class for that -/
structure ExcI (K : PySem.W.Frag) (C : Addr) : Prop where
  hc : (PySem.W.clsIn K C).isSome = true
  ha : PySem.W.findIn K (.ref C) "__class__" = some (some (.builtin "object.__class__"))
  hn : PySem.W.specialIn K (.builtin "object.__class__") "__get__" = some (some (.builtin "getset_descriptor.__get__"))
  ht : PySem.W.takesIn K (.builtin "object.__class__") = some true
  hm : PySem.W.mroIn K C (.type "object") = some true
theorem call_isExc {X : Cx} {a C dd : Addr} {oe : Obj} {pn : List (Addr × Obj)} {cv : Value} {b : Bool} (T : ExcI X.K C) (xf : XfC X.K C) (hz : Zc (.ref C) (some dd) oe) (hf : ∃ vs, oe.data = .fields vs) (hk : PySem.W.kitOne X.K (.ref C) cv = some b) :
    CallR (X.suite a ((a, oe) :: pn)) (.builtin "isinstance") (fun xs H Q => ∃ (c : V) (o : List (Str × V)), xs = [.ref a, c] ∧ (∀ u, RelV c u → u = cv) ∧ H dd = some (.xd o) ∧ Q (.bl b) H) := by
  intro pins s σ H xs us Q I r h
  obtain ⟨c, o, rfl, hcv, hdd, q⟩ := h
  obtain ⟨u1, u2, rfl, rx, rt⟩ := vals2 r
  cases rx
  have ec := hcv _ rt
  subst ec
  obtain ⟨hget, _⟩ := I.pin (a, oe) (List.mem_append.mpr (.inl List.mem_cons_self))
  obtain ⟨vs, hv⟩ := hf
  obtain ⟨mA, ⟨od, es, ep, hod, _⟩, _⟩ := I.hok dd _ hdd
  have J : PySem.W.InstAt s.heap a oe C (some od) := by
    obtain ⟨oc, odd, oda, osl⟩ := oe
    obtain ⟨h1, h2⟩ := hz
    dsimp only at h1 h2 hv
    subst h1 h2 hv
    exact ⟨hget, rfl, rfl, hod⟩
  exact PySem.W.kia_one (PySem.W.kitx_exc T.hc xf.ga xf.gg xf.exC T.ha T.hn T.ht T.hm) I.kIn J hk (fun z => nomatch z) fun tk => ⟨.bl b, H, I.kept (t' := tk) fun _ _ z => z, rfl, q⟩
def dIsExc (l : List (Str × Bool)) (c : Str) : D W := fun _ st => match l.lookup c with
  | some b => .ok (.bl b) st
  | none => .stuck
theorem lookup_ok {cv : Value} : ∀ {l : List (Str × Bool)}, (∀ q ∈ l, ∃ C, X.mg q.1 = some (.ref C) ∧ ExcI X.K C ∧ PySem.W.kitOne X.K (.ref C) cv = some q.2) → ∀ {c : Str} {b : Bool} {C : Addr}, l.lookup c = some b → X.mg c = some (.ref C) → ExcI X.K C ∧ PySem.W.kitOne X.K (.ref C) cv = some b
  | [], _, c, b, C, h, _ => by simp at h
  | (x, v) :: l, hl, c, b, C, h, hC => by
    rw [List.lookup_cons] at h
    split at h
    · rename_i hc
      cases h
      have : c = x := by simpa using hc
      subst this
      obtain ⟨C', m, e⟩ := hl _ List.mem_cons_self
      have m' : X.mg c = some (.ref C') := m
      rw [hC] at m'; cases m'
      exact e
    · exact lookup_ok (fun q m => hl q (List.mem_cons_of_mem _ m)) h hC
theorem ie_isExc {l : List (Str × Bool)} {a C dd : Addr} {y : V} {w : W} {i : Nat} {oe : Obj} {pn : List (Addr × Obj)} {n cn cN : Str} {q1 q2 : Pos} {cv : Value} {v : V} {sub : Str → Option Bool} (hg : Gl X "isinstance") (hm : X.mg "isinstance" = none) (xf : XfC X.K C)
    (hl : ∀ q ∈ l, ∃ C, X.mg q.1 = some (.ref C) ∧ ExcI X.K C ∧ PySem.W.kitOne X.K (.ref C) cv = some q.2) (hmN : X.mg cN = some (.ref C)) (hsN : sub cN = some true) (hz : Zc (.ref C) (some dd) oe) (hf : ∃ vs, oe.data = .fields vs)
    (hN : X.N[i]? = some n) (hv : Vis X.env.scope n) (ht : PE (X.suite a ((a, oe) :: pn)) (.Name cn q2) (tC v)) (hcv : ∀ u, RelV v u → u = cv) (hd : (n == ("__debug__" : Str)) = false := by decide) (hcd : (n == ("__classdict__" : Str)) = false := by decide)
    (he : starEach [.Name n q1, .Name cn q2] X.env = (false, eval (.Name n q1) X.env) :: starEach [.Name cn q2] X.env := by rfl) (he2 : starEach [.Name cn q2] X.env = (false, eval (.Name cn q2) X.env) :: starEach [] X.env := by rfl) (hpl : (backTo pos (starEach [.Name cn q2] X.env)).any (·.1) = false := by rfl) :
    IE (X.suite a ((a, oe) :: pn)) (some ⟨i, a, dd, y, w⟩) Wx (.Call (.Name "isinstance" p) [.Name n q1, .Name cn q2] [] pos) (dIsExc l cN) := by
  cases hlk : l.lookup cN with
  | none =>
    refine ⟨fun pins s σ H Q I h => ?_⟩
    obtain ⟨ρ, env, st, s1, e, q⟩ := h
    unfold dIsExc at q
    rw [hlk] at q
    exact q.elim
  | some b =>
    obtain ⟨T, hk⟩ := lookup_ok hl hlk hmN
    refine PE.of (pe_callB (call_isExc T xf hz hf hk) hg hm (by decide +kernel) (pa_cons (es := [.Name cn q2]) (pe_var (i := i) hN hv hd hcd) (pa_cons ht pa_nil he2) he) (by decide) (by decide) he hpl) fun σ H Q ⟨ρ, env, st, s, e, q⟩ => ?_
    obtain ⟨h1, h2, h3, h4⟩ := e.exc _ rfl
    unfold dIsExc at q
    rw [hlk] at q
    exact ⟨.ref a, h1, v, _, rfl, hcv, h2, post_bl (X := X) s q⟩
/-! which errors a clause takes, by a list -/
def subL (l : List (Str × Bool)) : Str → Option Bool := fun c => l.lookup c
theorem subL_ok {cv : Value} : ∀ {l : List (Str × Bool)}, (∀ q ∈ l, ∃ C, X.mg q.1 = some (.ref C) ∧ PySem.W.exmOne X.K (.ref C) cv = some q.2 ∧ XfC X.K C ∧ PySem.W.findIn X.K (.ref C) ("value" : Str) = some none) → SubOk X cv (subL l)
  | [], _, c, b, h => by simp [subL] at h
  | (x, v) :: l, hl, c, b, h => by
    unfold subL at h
    rw [List.lookup_cons] at h
    split at h
    · rename_i hc
      cases h
      intro C hC
      have : c = x := by simpa using hc
      subst this
      obtain ⟨C', m, e, xf, nv⟩ := hl _ List.mem_cons_self
      have m' : X.mg c = some (.ref C') := m
      rw [hC] at m'; cases m'
      exact ⟨e, fun _ => ⟨xf, nv⟩⟩
    · exact subL_ok (fun q m => hl q (List.mem_cons_of_mem _ m)) c b h
/-! name op= e -/
def sAug (i : Nat) (f : W → W → Store → Res W) (m : D W) : DS := fun env st => match env[i]? with
  | some (some a) => (m env st).then env fun b st1 => (f a b st1).then env fun c st2 => .go .nx (env.set i (some c)) st2
  | _ => .stuck
def addI (a b : W) (st : Store) : Res W := match a, b with
  | .int i, .int j => .ok (.int (i + j)) st
  | _, _ => .stuck
theorem is_augAdd {i : Nat} {e : Expr} {m : D W} (hN : X.N.Nodup) (hi : X.N[i]? = some x) (hx : Loc X.env.scope x) (he : IE X none Wx e m) (hf : X.fn x = true ∨ X.env.scope.names.lookup x = some .local := by first | exact .inl rfl | exact .inr rfl | assumption) :
    IS X none Wx (.AugAssign (.Name x p') .Add e pos) (sAug i addI m) :=
  PS.of (ps_aug hN hi hx he ip_add hf) fun De σ H ⟨ρ, env, st, s, en, q⟩ => by
    unfold sAug at q
    split at q
    · rename_i a ha
      obtain ⟨v, h1, h2⟩ := en.at_ i a ha
      refine ⟨v, h1, RS.step (rel := relV X.K) s en q fun ρ1 H1 st1 b y g s1 e1 r q1 => ?_⟩
      have h3 := VR.grow s.apart g a v h2
      unfold addI at q1
      split at q1
      · rw [int_of h3, int_of r]
        exact ⟨_, _, rfl, rfl, PostS.go_ (f := .nx) q1 s1 (e1.set .none (by simp [VR]))⟩
      · exact q1.elim
    · exact q.elim
end
/-! ### classes, from what the head finds -/
theorem cls_some {K : PySem.W.Frag} {C : Addr} (h : PySem.W.hasDictIn K C = true) : (PySem.W.clsIn K C).isSome = true := by
  obtain ⟨cd, hc, _⟩ := PySem.W.any_some h
  rw [hc]; rfl
theorem kit_ref {K : PySem.W.Frag} {C D : Addr} {b : Bool} (hd : PySem.W.hasDictIn K C = true) (ht : PySem.W.typeIn K (.ref C) = some (.type "type")) (hs : PySem.W.subIn K (.ref C) (.ref C) = some true) (h : PySem.W.subIn K (.ref D) (.ref C) = some b) : PySem.W.kitOne K (.ref D) (.ref C) = some b := by
  have e2 : ((PySem.W.clsIn K C).isSome && PySem.W.typeIn K (.ref C) == some (.type "type")) = true := by rw [cls_some hd, ht]; rfl
  show (if (Value.ref D == Value.ref C) = true then some true else if ((PySem.W.clsIn K C).isSome && PySem.W.typeIn K (.ref C) == some (.type "type")) = true then PySem.W.subIn K (.ref D) (.ref C) else none) = some b
  rw [if_pos e2]
  by_cases e : (Value.ref D == Value.ref C) = true
  · rw [if_pos e]
    have e' : D = C := Value.ref.inj (beq_iff_eq.mp e)
    subst e'
    rw [hs] at h
    exact h
  · rw [if_neg e]; exact h
theorem kit_type {K : PySem.W.Frag} {D : Addr} {T : String} {b : Bool} (hm : PySem.W.kitMeta T = true) (h : PySem.W.subIn K (.ref D) (.type T) = some b) : PySem.W.kitOne K (.ref D) (.type T) = some b := by
  show (if (Value.ref D == Value.type T) = true then some true else if PySem.W.kitMeta T = true then PySem.W.subIn K (.ref D) (.type T) else none) = some b
  rw [if_neg (by intro z; cases z), if_pos hm]
  exact h
/-! ### what holds of each entry of a written list -/
def allP {α : Type} (p : α → Prop) : List α → Prop
  | [] => True
  | a :: l => p a ∧ allP p l
theorem mem_all {α : Type} {p : α → Prop} : ∀ {l : List α}, allP p l → ∀ q ∈ l, p q
  | [], _, _, h => nomatch h
  | a :: l, h, q, m => by
    rcases List.mem_cons.mp m with rfl | m
    · exact h.1
    · exact mem_all h.2 q m
/-! ### the law's own end -/
/-- what the law promises at the head -/
def spLaw (K : PySem.W.Frag) : Sp := fun vs H Q _ => ∃ (a : Addr) (ns : List Int), vs = [.ref a] ∧ Only H ∧ SqL K H a (ns.map V.int) ∧ ns.length ≤ 63 ∧ (∀ z ∈ ns, Builtin.Int.intBits z ≤ 1048576) ∧ ∀ H', Q (.bl true) H'
theorem VRs.ofInts {K : PySem.W.Frag} {ρ : List Addr} {H : Hp} : ∀ (l : List Int), VRs K ρ H (l.map W.int) (l.map V.int)
  | [] => by simp [VRs]
  | x :: l => .cons' (by simp [VR]) (VRs.ofInts l)
theorem law_end {P : Program} {w : World} {K : PySem.W.Frag} {mg : Str → Option Value} {base : Heap} {k : Nat} {x s : Str} {den : List W → Store → Res W} (G : FnF P w K mg base x [s] k 1 den)
    (h : ∀ ns : List Int, ns.length ≤ 63 → (∀ z ∈ ns, Builtin.Int.intBits z ≤ 1048576) → den [.fro (ns.map W.int)] [] = .ok (.bl true) []) :
    FnOk P w K mg base (L2.CX P w) k G.f G.fd [s] (spLaw K) := by
  refine ⟨fun vs H Q E hs => ?_, fun A outer st H args us vs Q E hr e0 hb r hs => ?_⟩
  · obtain ⟨a, ns, rfl, _⟩ := hs; rfl
  · obtain ⟨a, ns, rfl, hO, hS, hl, hbits, q⟩ := hs
    refine G.ok.run A outer st H args us [.ref a] Q E hr e0 hb r ?_
    have hf : SqF K H a (ns.map V.int) := by
      rcases hS with (hS | ⟨o, hS⟩) | hS
      · rcases hO a with z | ⟨o, xs, z⟩
        · rw [z] at hS; cases hS
        · rw [z] at hS; cases hS
      · exact .inl ⟨o, hS⟩
      · exact .inr hS
    refine ⟨[], [.fro (ns.map W.int)], [], ⟨rfl, List.nodup_nil, fun n o e => by simp at e⟩, ?_, rfl, ?_⟩
    · refine .one ?_
      simp only [VR]
      exact ⟨a, _, rfl, hf, VRs.ofInts ns⟩
    · rw [h ns hl hbits]
      intro ρ' H' v g s' rv
      have : v = .bl true := by simpa only [relV, VR] using rv
      subst this
      exact q H'
end
end MP
namespace MP
open PySem PySem.Spec PyProof.Rows L2
/-! ### try with several clauses 'except X as n' -/
/-- a clause: its class, its name's slot, its suite -/
structure Cl where
  c : Value
  i : Nat
  ts : Addr → Value → Option Addr → TS
def wEach (K : PySem.W.Frag) (Wout : WX) (De : Ends) (l : List Cl) : WX := l.foldr (fun h r => wAs K h.c h.i h.ts r De) Wout
/-- the clauses as they stand in the text -/
inductive ClsOk (X : Cx) : List ExceptHandler → List Cl → Prop
  | nil : ClsOk X [] []
  | as_ {x n : Str} {h : Cl} {b₀ : Stmt} {suite : List Stmt} {np hp : Pos} {hds : List ExceptHandler} {l : List Cl} (hi : X.N[h.i]? = some n) (hln : X.env.kindOf n = some .local) (hc : Names X x h.c)
      (hsu : ∀ (a : Addr) (oe : Obj) (cls : Value) (d : Option Addr) (pn : List (Addr × Obj)), Zc cls d oe → (∃ vs, oe.data = .fields vs) → PSs (X.suite a ((a, oe) :: pn)) (b₀ :: suite) (h.ts a cls d)) (r : ClsOk X hds l) :
      ClsOk X (.ExceptHandler (some (.Name x np)) (some n) (b₀ :: suite) hp :: hds) (h :: l)
section
variable {X : Cx} {body : List Stmt} {h₀ : ExceptHandler} {hds : List ExceptHandler} {l : List Cl} {pos : Pos} {tb : WX → TS} {Wout : WX}
theorem ps_try_each (hs : X.stack = X.env :: X.outer) (hf : X.env.frame = some X.env.locals) (hN : X.N.Nodup) (tk : Takes X Wout)
    (hb : ∀ (V : WX) (pn : List (Addr × Obj)) (xe : Value → Shared → Prop), Takes (X.tr pn xe) V → PassesOwn (model X.prog X.w) X.A X.env xe → PSs (X.tr pn xe) body (tb V))
    (hh : ClsOk X (h₀ :: hds) l) : PS X (.Try body (h₀ :: hds) [] [] pos) (fun De σ H => tb (wEach X.K Wout De l) De σ H) := by
  refine ⟨fun pins s σ H De I h => ?_⟩
  have ok := I.ok
  refine wpAny_Try_except (wpAny_mono ((hb (wEach X.K Wout De l) (X.pn ++ pins) _ (fun u s' xx => ?_) PassesOwn.looking).run [] s σ H De (I.toTry _) h) (fun f s1 q => ?_) (fun e s1 he => he))
  · obtain ⟨a, B, sI, pins', σ', H', cls, d, rfl, J', nb, up, sky, na, os, ag, w⟩ := xx
    have J : Inv X pins σ' H' sI := J'.ofTry ok
    refine Sky.land Zc.steady (by rw [ok.frames, hs]) hf (by rw [← hs]; exact sky) fun h3 fl3 up3 => ?_
    have J3 : Inv X pins σ' H' { s' with heap := h3 } := J.landed nb fl3.1 (up.trans up3) os ag
    obtain ⟨oe3, vs3, he3, hz3, hd3⟩ := fl3.there
    have apart : a ∉ frs (X.env :: X.outer) := fun m => by
      obtain ⟨_, o', e', hnf⟩ := fl3.2.2.1.mem m
      rw [he3] at e'; cases e'
      exact hnf _ hd3
    have nL : a ≠ X.env.locals := fun z => apart (List.mem_filterMap.mpr ⟨X.env, List.mem_cons_self, by rw [hf, z]⟩)
    have nF : a ∉ X.fs := fun m => by
      obtain ⟨e, he, q⟩ := List.mem_filterMap.mp m
      exact apart (List.mem_filterMap.mpr ⟨e, List.mem_cons_of_mem _ he, q⟩)
    have S3 := J3.suite he3 hd3 na nL nF
    suffices go : ∀ (hds' : List ExceptHandler) (l' : List Cl), ClsOk X hds' l' → wEach X.K Wout De l' cls d σ' H' →
        wpAny (model X.prog X.w) X.A (handleBy (.ref a) X.env hds') (SP X pins De) X.xe { s' with heap := h3 } from go _ _ hh w
    intro hds' l' hk
    induction hk with
    | nil =>
      intro w
      obtain ⟨_, _, _, oe, vs, T, oT, ts', he, hz, hd, h1, hr⟩ := id fl3
      refine wpAny_handleBy_nil ?_
      unfold PySem.passOn
      refine wpAny_bind (wpAny_field he hd h1 ?_)
      have nn : ¬ ((Value.ref T == Value.none) = true) := by simp
      rw [if_neg nn]
      have out : wpAny (model X.prog X.w) X.A (setFlight (.ref a) X.env.frame) (fun _ s4 => wpAny (model X.prog X.w) X.A (throw (.ref a) : Sem Flow) (SP X pins De) X.xe s4) X.xe { s' with heap := h3 } := by
        rw [hf]
        exact HandSPX.setFlight_upZ fl3 fun h4 hh4 up4 => wpAny_throw (tk _ _ ⟨a, B, sI, pins, σ', H', cls, d, rfl, J, nb, (up.trans up3).trans up4, .inr (.inr (by rw [hs]; exact hh4)), na, os, ag, w⟩)
      first
        | exact wpAny_bind (wpAny_pure (wpAny_bind out))
        | exact wpAny_bind out
    | @as_ x n c1 b₀ suite np hp hds2 l2 hi hln hc hsu r ih =>
      intro w
      obtain ⟨b, hb1, hyes, hno⟩ := w
      refine wpAny_handleBy_cons (codeAny_handlers_test ?_) (by intro q; cases q)
      have LT : PySem.W.Looks (model X.prog X.w) h3 (typeOf (.ref a)) cls := fun A Q E s k q => wpAny_typeOf_ref (k _ _ he3) (by rw [hz3.1]; exact q)
      have LM := PySem.W.exm_one (M := model X.prog X.w) (J3.kIn) LT hb1
      have named : ∀ {Q E : Value → Shared → Prop}, Q c1.c { s' with heap := h3 } → wpAny (model X.prog X.w) (X.A.mark (some (.ref a))) (eval (.Name x np) X.env) Q E { s' with heap := h3 } := fun {Q E} q => by
        obtain ⟨hg, hdbg, hm | ⟨hm, hv, hnn⟩⟩ := hc
        · exact ld_glob (X := X.suite a ((a, oe3) :: (X.pn ++ pins))) S3 hg hm q hdbg
        · exact ld_blt (X := X.suite a ((a, oe3) :: (X.pn ++ pins))) S3 hg hm hv q hnn hdbg
      refine named (LM.here ?_)
      cases b with
      | false => exact ih (hno rfl)
      | true =>
        refine codeAny_handlers_suite_as (HandSPX.lands_againZ fl3 fun h4 fl4 up4 => ?_)
        have J4 : Inv X pins σ' H' { s' with heap := h4 } := J.landed nb fl4.1 ((up.trans up3).trans up4) os ag
        obtain ⟨oe4, vs4, he4, hz4, hd4⟩ := fl4.there
        have S4 := J4.suite he4 hd4 na nL nF
        refine store_ok (X := X.suite a ((a, oe4) :: (X.pn ++ pins))) (v := .ref a) S4 hN hi (.inl hln) rfl (fun s5 S5 => ?_) (.inr hln)
        refine wpAny_mono ((hsu a oe4 cls d (X.pn ++ pins) hz4 ⟨_, hd4⟩).run [] s5 _ H' _ S5 (hyes rfl a na)) (fun f s6 q => ?_) (fun _ _ z => False.elim z)
        have over : ∀ {σ6 : L2.St} {H6 : Hp} {Q : Shared → Prop}, Inv (X.suite a ((a, oe4) :: (X.pn ++ pins))) [] σ6 H6 s6 → (∀ s7, Inv X pins (σ6.set c1.i none) H6 s7 → Q s7) →
            wpAny (model X.prog X.w) X.A (do bindName X.env n .none; unbindBehindTheSuite X.env n hp) (fun _ s7 => Q s7) X.xe s6 := fun {σ6 H6 Q} S6 hq => gone_ok (S6.unsuite ok) hN hi hln hq
        cases f with
        | next => obtain ⟨σ6, H6, S6, q6⟩ := q; exact over S6 fun s7 J7 => ⟨_, _, J7, q6⟩
        | brk => obtain ⟨σ6, H6, S6, q6⟩ := q; exact over S6 fun s7 J7 => ⟨_, _, J7, q6⟩
        | cont => obtain ⟨σ6, H6, S6, q6⟩ := q; exact over S6 fun s7 J7 => ⟨_, _, J7, q6⟩
        | ret u => obtain ⟨v6, σ6, H6, S6, r6, q6⟩ := q; exact over S6 fun s7 J7 => ⟨_, _, _, J7, r6, q6⟩
  · cases f with
    | next => obtain ⟨σ', H', J', q⟩ := q; exact wpAny_execs_nil ⟨σ', H', J'.ofTry ok, q⟩
    | brk => obtain ⟨σ', H', J', q⟩ := q; exact ⟨σ', H', J'.ofTry ok, q⟩
    | cont => obtain ⟨σ', H', J', q⟩ := q; exact ⟨σ', H', J'.ofTry ok, q⟩
    | ret u => obtain ⟨v, σ', H', J', r, q⟩ := q; exact ⟨v, σ', H', J'.ofTry ok, r, q⟩
end
section
variable {X : Cx} {Wx : WX}
/-- a clause of a denotation: its name's slot, which errors it takes, its suite -/
abbrev ClD := Nat × (Str → Option Bool) × (Str → W → DS)
def eachC : List ClD → Str → W → DS
  | [], c, w, env, st => .err c w env st
  | (i, sub, su) :: r, c, w, env, st => match sub c with
    | some true => if i < env.length then unAt i (su c w (env.set i none) st) else .stuck
    | some false => eachC r c w env st
    | none => .stuck
def kEach (l : List ClD) : RsS → RsS
  | .err c w env st => eachC l c w env st
  | r => r
def sTryEach (b : DS) (l : List ClD) : DS := fun env st => kEach l (b env st)
inductive CDs (X : Cx) : List ExceptHandler → List ClD → Prop
  | nil : CDs X [] []
  | as_ {x n : Str} {c : Value} {i : Nat} {sub : Str → Option Bool} {su : Str → W → DS} {b₀ : Stmt} {suite : List Stmt} {np hp : Pos} {hds : List ExceptHandler} {l : List ClD} (hi : X.N[i]? = some n) (hln : X.env.kindOf n = some .local) (hc : Names X x c)
      (hsub : SubOk X c sub) (hsu : SuOk X i (b₀ :: suite) sub su) (r : CDs X hds l) : CDs X (.ExceptHandler (some (.Name x np)) (some n) (b₀ :: suite) hp :: hds) ((i, sub, su) :: l)
theorem unset_env {ex : Option Exn} {ρ : List Addr} {H : Hp} {env : EnvW} {σ : L2.St} {i : Nat} {v : Option V} (e : EnvR X.K ex ρ H env σ) (hx : ∀ x, ex = some x → False) : EnvR X.K none ρ H (env.set i none) (σ.set i v) :=
  ⟨by simp [e.len], fun j w' h => by
    by_cases hj : i = j
    · subst hj
      rw [List.getElem?_set] at h
      split at h
      · first | cases h | (split at h <;> cases h)
      · rename_i z; exact absurd rfl z
    · rw [List.getElem?_set_ne hj] at h
      obtain ⟨u, h1, h2⟩ := e.at_ j w' h
      exact ⟨u, by rw [List.getElem?_set_ne hj]; exact h1, h2⟩, fun _ h => nomatch h⟩
theorem each_post {hds : List ExceptHandler} {l : List ClD} (hk : CDs X hds l) : ∃ l', ClsOk X hds l' ∧ ∀ (De : Ends) (ρ : List Addr) (H : Hp) (c1 : Str) (w : W) (env1 : EnvW) (st1 : Store) (ρ' : List Addr) (H' : Hp) (σ' : L2.St) (cls : Value) (d : Option Addr),
    PostS X.K none X.mg Wx De ρ H (eachC l c1 w env1 st1) → Grow ρ H ρ' H' → StR X.K ρ' H' st1 → EnvR X.K none ρ' H' env1 σ' → ErR X.K X.mg ρ' H' c1 w cls d → wEach X.K Wx De l' cls d σ' H' := by
  induction hk with
  | nil => exact ⟨[], .nil, fun De ρ H c1 w env1 st1 ρ' H' σ' cls d q g s e er => q ρ' H' σ' cls d g s e er⟩
  | @as_ x n c i sub su b₀ suite np hp hds l hi hln hc hsub hsu r ih =>
    obtain ⟨l', ok, run⟩ := ih
    refine ⟨⟨c, i, fun a cls d De σ H => ∃ (c1 : Str) (C dd : Addr) (y : V) (w : MP.W), (sub c1 = some true ∧ X.mg c1 = some (.ref C) ∧ cls = .ref C ∧ d = some dd ∧ XfC X.K C ∧ PySem.W.findIn X.K (.ref C) ("value" : Str) = some none) ∧ RS X (some ⟨i, a, dd, y, w⟩) W0 (su c1 w) De σ H⟩ :: l', .as_ hi hln hc ?_ ok, ?_⟩
    · intro a oe cls d pn hz hfv
      refine pss_ex fun c1 => pss_ex fun C => pss_ex fun dd => pss_ex fun y => pss_ex fun w => pss_and fun h => ?_
      obtain ⟨hs1, hm1, rfl, rfl, xf, nv⟩ := h
      exact hsu c1 C dd a y w oe pn hs1 hm1 xf nv hz hfv
    · intro De ρ H c1 w env1 st1 ρ' H' σ' cls d q g s' e' er
      obtain ⟨C, dd, y, hm, rfl, rfl, hx, ndd, rw⟩ := id er
      unfold eachC at q
      cases hsb : sub c1 with
      | none => rw [hsb] at q; exact q.elim
      | some bb =>
        rw [hsb] at q
        obtain ⟨hb1, hb2⟩ := hsub c1 bb hsb C hm
        refine ⟨bb, hb1, fun hbt a na => ?_, fun hbf => ?_⟩
        · subst hbt
          simp only at q
          obtain ⟨xf, nv⟩ := hb2 rfl
          by_cases hil0 : i < env1.length
          case neg => rw [if_neg hil0] at q; exact q.elim
          rw [if_pos hil0] at q
          have e2 := unset_env (X := X) (i := i) (v := some (V.ref a)) e' (fun _ z => nomatch z)
          refine ⟨c1, C, dd, y, w, ⟨hsb, hm, rfl, rfl, xf, nv⟩, ρ', env1.set i none, st1, s', ⟨e2.len, e2.at_, fun x h => ?_⟩, ?_⟩
          · cases h
            refine ⟨?_, hx, ndd, rw⟩
            have hil : i < σ'.length := by rw [e'.len]; exact hil0
            show (σ'.set i (some (V.ref a)))[i]? = _
            rw [List.getElem?_set_self hil]
          · generalize su c1 w (env1.set i none) st1 = r2 at q
            have q := PostS.mono q g
            cases r2 with
            | stuck => exact q
            | err c2 w2 env2 st2 => exact q.elim
            | go f env2 st2 =>
              intro ρ2 H2 σ2 g2 s2 e3
              have e4 : EnvR X.K none ρ2 H2 (env2.set i none) (σ2.set i none) := ⟨by simp [e3.len], fun j w' h => by
                by_cases hj : i = j
                · subst hj
                  rw [List.getElem?_set] at h
                  split at h
                  · first | cases h | (split at h <;> cases h)
                  · rename_i z; exact absurd rfl z
                · rw [List.getElem?_set_ne hj] at h
                  obtain ⟨v, h1, h2⟩ := e3.at_ j w' h
                  exact ⟨v, by rw [List.getElem?_set_ne hj]; exact h1, h2⟩, fun _ h => nomatch h⟩
              have z := q ρ2 H2 (σ2.set i none) g2 s2 e4
              cases f with
              | nx => exact z
              | bk => exact z
              | ct => exact z
              | rt v => exact z
        · subst hbf
          simp only at q
          exact run De ρ H c1 w env1 st1 ρ' H' σ' _ _ q g s' e' er
theorem is_try_each {h₀ : ExceptHandler} {hds : List ExceptHandler} {l : List ClD} {body : List Stmt} {pos : Pos} {b : DS} (hs : X.stack = X.env :: X.outer) (hf : X.env.frame = some X.env.locals) (hN : X.N.Nodup) (tk : Takes X Wx)
    (hb : ∀ (V : WX) (pn : List (Addr × Obj)) (xe : Value → Shared → Prop), Takes (X.tr pn xe) V → PassesOwn (model X.prog X.w) X.A X.env xe → ISs (X.tr pn xe) none V body b) (hk : CDs X (h₀ :: hds) l) :
    IS X none Wx (.Try body (h₀ :: hds) [] [] pos) (sTryEach b l) := by
  obtain ⟨l', ok, run⟩ := each_post (Wx := Wx) hk
  refine PS.of (ps_try_each (tb := fun V => RS X none V b) hs hf hN tk hb ok) ?_
  intro De σ H ⟨ρ, env, st, s, e, q⟩
  refine ⟨ρ, env, st, s, e, ?_⟩
  unfold sTryEach at q
  generalize b env st = res at q
  cases res with
  | stuck => exact q
  | go f env1 st1 => exact q
  | err c1 w env1 st1 => exact fun ρ' H' σ' cls d g s' e' er => run De ρ H c1 w env1 st1 ρ' H' σ' cls d q g s' e' er
end
end MP
namespace MP
open PySem PySem.Spec PyProof.Rows L2
open Classical
noncomputable section
section
variable {X : Cx} {ex : Option Exn} {Wx : WX} {e : Expr} {es : List Expr} {p pos : Pos}
/-! a range that a name is to hold -/
def rngW (l : List W) (st : Store) : Res W := match l with
  | [.int i, .int j] => .ok (.rng i j) st
  | _ => .stuck
theorem rng_ok : CallOk X (fun vs H Q => ∃ i j, vs = [V.int i, V.int j] ∧ ∀ p, H p = none → Q (.ref p) (upd H p (.rng i j))) rngW := fun Wx ρ H st σ l vs Q s r q => by
  unfold rngW at q
  split at q
  · obtain ⟨x, y, rfl, ra, rb⟩ := vrs2 r
    rw [int_of ra, int_of rb]
    refine ⟨_, _, rfl, fun d hd => ?_⟩
    exact q ρ _ (.ref d) (grow_imm hd) (s.grow_imm hd) (by simp only [VR]; exact ⟨d, rfl, upd_same⟩)
  · exact q.elim
theorem ie_rng {m : D (List W)} (hg : Gl X "range") (hm : X.mg "range" = none) (ha : IA X ex Wx (e :: es) m) (he : starEach (e :: es) X.env = (false, eval e X.env) :: starEach es X.env := by rfl) (hpl : (backTo pos (starEach es X.env)).any (·.1) = false := by rfl) :
    IE X ex Wx (.Call (.Name "range" p) (e :: es) [] pos) (dApp rngW m) := ie_callTy cr_range2 rng_ok hg hm (by decide +kernel) ha (by decide) (by decide) he hpl
/-! the place of a text in a text -/
def sIndexW (a : W) (l : List W) (st : Store) : Res W := match a, l with
  | .str z, [.str b] => match Builtin.Str.occurrences z b 0 z.length 1 with
    | i :: _ => .ok (.int (i : Nat)) st
    | [] => .stuck
  | _, _ => .stuck
theorem sIndex_ok : MtOk X (fun x xs H Q => ∃ a b i rest, x = .str a ∧ xs = [.str b] ∧ Builtin.Str.occurrences a b 0 a.length 1 = i :: rest ∧ Q (.int (i : Nat)) H) sIndexW := fun Wx ρ H st σ a l x vs Q s ra r q => by
  unfold sIndexW at q
  split at q
  · obtain ⟨y, rfl, rb⟩ := vrs1 r
    split at q
    · rename_i i rest ho
      exact ⟨_, _, i, rest, str_of ra, by rw [str_of rb], ho, post_int s q⟩
    · exact q.elim
  · exact q.elim
theorem ie_sindex {o : Expr} {apos cpos : Pos} {mo : D W} {m : D (List W)} (ho : IE X ex Wx o mo) (ha : IA X ex Wx [e] m) (hbase : attributeBase o "index" X.env (eval o X.env) = eval o X.env := by rfl)
    (hfew : ((backTo cpos (starEach [e] X.env)).all (fun x => !x.1) && (backToKw cpos (keywordEach [] X.env)).all (fun x => x.1.isSome) && decide ([e].length + ([] : List Keyword).length + (if ([] : List Keyword).isEmpty then 0 else 1) < 30)) = true := by rfl)
    (hline : (apos.endLine == cpos.line) = true := by rfl) (hs : starEach [e] X.env = (false, eval e X.env) :: starEach [] X.env := by rfl) (hp : (backTo cpos (starEach [] X.env)).any (·.1) = false := by rfl) :
    IE X ex Wx (.Call (.Attribute o "index" apos) [e] [] cpos) (dBm tyS sIndexW mo m) := ie_bm PySem.F.plainAttrs_str PySem.F.slot_str_index PySem.F.type_str_index mt_sindex sIndex_ok tyS_ok ho ha hbase hfew hline hs hp
end
end
end MP
namespace MP
open PySem PySem.Spec PyProof.Rows L2
open Classical
noncomputable section
/-! ### <= of tuples whose items are whole numbers and texts -/
theorem rc_le_str {A : Around} {s : Shared} (a b : Str) (t u : Tok) : Ob.RcOp .LtE A s (.str a t) (.str b u) (!decide (b.cps.toList < a.cps.toList)) := fun _ _ _ _ h => PySem.P.le_str h
/-- two items at one place: whether they are equal, whether the first is not behind the second -/
def pairV : V → V → Option (Bool × Bool)
  | .int i, .int k => some (i == k, decide (i ≤ k))
  | .str x, .str y => some (x == y, !decide (y.cps.toList < x.cps.toList))
  | _, _ => none
def rLeM (K : PySem.W.Frag) : R2 := fun x y H Q => ∃ (a b : Addr) (xs ys : List V) (e r : Nat → Bool), x = .ref a ∧ y = .ref b ∧ SqT K H a xs ∧ SqT K H b ys ∧ (∀ j v w, xs[j]? = some v → ys[j]? = some w → pairV v w = some (e j, r j)) ∧
  Q (.bl (Ob.lexAt e r (decide (xs.length ≤ ys.length)) 0 (min xs.length ys.length))) H
theorem vals_at : ∀ {xs : List V} {its : List Value}, Vals xs its → ∀ (j : Nat) (u : Value), its[j]? = some u → ∃ v, xs[j]? = some v ∧ RelV v u
  | _, _, .nil, j, u, h => by simp at h
  | _, _, .cons r rs, 0, u, h => by simp at h; subst h; exact ⟨_, rfl, r⟩
  | _, _, .cons r rs, j + 1, u, h => by
    obtain ⟨v, hv, hr⟩ := vals_at rs j u (by simpa using h)
    exact ⟨v, by simpa using hv, hr⟩
theorem op_leM {X : Cx} (hu : X.A.units < cLine) : OpR X (compareOp .LtE) (rLeM X.K) := by
  intro pins s σ H x y v u Q I rx ry h
  obtain ⟨a, b, xs, ys, e, r, rfl, rfl, ha, hb, hp, q⟩ := h
  cases rx
  cases ry
  obtain ⟨its, r1, p1, _⟩ := I.tuple ha
  obtain ⟨its2, r2, p2, _⟩ := I.tuple hb
  have n1 : its.toArray.size = xs.length := by rw [List.size_toArray]; exact r1.length.symm
  have n2 : its2.toArray.size = ys.length := by rw [List.size_toArray]; exact r2.length.symm
  have both : ∀ j (h1 : j < its.toArray.size) (h2 : j < its2.toArray.size), (∃ i k t t', its.toArray[j] = .int i t ∧ its2.toArray[j] = .int k t' ∧ e j = (i == k) ∧ r j = decide (i ≤ k)) ∨ (∃ i k t t', its.toArray[j] = .str i t ∧ its2.toArray[j] = .str k t' ∧ e j = (i == k) ∧ r j = !decide (k.cps.toList < i.cps.toList)) := fun j h1 h2 => by
    have g1 : its[j]? = some its.toArray[j] := by simp at h1; simp [h1]
    have g2 : its2[j]? = some its2.toArray[j] := by simp at h2; simp [h2]
    obtain ⟨v, hv, rv⟩ := vals_at r1 j _ g1
    obtain ⟨w, hw, rw'⟩ := vals_at r2 j _ g2
    have pv := hp j v w hv hw
    unfold pairV at pv
    split at pv
    · injection pv with pv
      obtain ⟨t, et⟩ := rv
      obtain ⟨t', et'⟩ := rw'
      exact .inl ⟨_, _, t, t', et, et', (congrArg Prod.fst pv).symm, (congrArg Prod.snd pv).symm⟩
    · injection pv with pv
      obtain ⟨t, et⟩ := rv
      obtain ⟨t', et'⟩ := rw'
      exact .inr ⟨_, _, t, t', et, et', (congrArg Prod.fst pv).symm, (congrArg Prod.snd pv).symm⟩
    · cases pv
  have R := Ob.RcOp.tuples_le (A := X.A) (s := s) (e := e) (r := r) p1 p2 hu (fun j h1 h2 => by
    rcases both j h1 h2 with ⟨i, k, t, t', e1, e2, e3, _⟩ | ⟨i, k, t, t', e1, e2, e3, _⟩
    · rw [e1, e2, e3]; exact SeqAt.EqAt.int_int _ _ _ _
    · rw [e1, e2, e3]; exact SeqAt.EqAt.str_str _ _ _ _) (fun j h1 h2 _ => by
    rcases both j h1 h2 with ⟨i, k, t, t', e1, e2, _, e4⟩ | ⟨i, k, t, t', e1, e2, _, e4⟩
    · rw [e1, e2, e4]; exact Ob.RcOp.le_int _ _ _ _
    · rw [e1, e2, e4]; exact rc_le_str _ _ _ _)
  rw [n1, n2] at R
  exact R X.prog X.w X.xe (EP X pins σ Q) ⟨.bl _, H, I, rfl, q⟩
/-- the same of values -/
def pairW : W → W → Option (Bool × Bool)
  | .int i, .int k => some (i == k, decide (i ≤ k))
  | .str x, .str y => some (x == y, !decide (y.cps.toList < x.cps.toList))
  | _, _ => none
def pairsW : List W → List W → Option (List (Bool × Bool))
  | w :: ws, v :: vs => match pairW w v, pairsW ws vs with
    | some p, some ps => some (p :: ps)
    | _, _ => none
  | _, _ => some []
def leTW (a b : W) (st : Store) : Res W := match a, b with
  | .tup ws, .tup vs => match pairsW ws vs with
    | some ps => .ok (.bl (Ob.lexAt (fun j => (ps.getD j (false, false)).1) (fun j => (ps.getD j (false, false)).2) (decide (ws.length ≤ vs.length)) 0 (min ws.length vs.length))) st
    | none => .stuck
  | _, _ => .stuck
section
variable {X : Cx} {ex : Option Exn} {Wx : WX} {a b : Expr} {ma mb : D W} {pos : Pos}
theorem pairs_at {ρ : List Addr} {H : Hp} : ∀ {ws vs : List W} {xs ys : List V} {ps : List (Bool × Bool)}, VRs X.K ρ H ws xs → VRs X.K ρ H vs ys → pairsW ws vs = some ps → ∀ (j : Nat) (v w : V), xs[j]? = some v → ys[j]? = some w → pairV v w = some (ps.getD j (false, false))
  | [], _, xs, _, _, h1, _, _, j, v, w, hv, _ => by simp only [VRs] at h1; subst h1; simp at hv
  | _ :: _, [], _, ys, _, _, h2, _, j, v, w, _, hw => by simp only [VRs] at h2; subst h2; simp at hw
  | w :: ws, v :: vs, xs, ys, ps, h1, h2, hp, j, x, y, hx, hy => by
    simp only [VRs] at h1 h2
    obtain ⟨u, us, rfl, r, rs⟩ := h1
    obtain ⟨u', us', rfl, r', rs'⟩ := h2
    unfold pairsW at hp
    split at hp
    · rename_i p ps' hp1 hp2
      cases hp
      cases j with
      | zero =>
        simp at hx hy
        subst hx; subst hy
        unfold pairW at hp1
        split at hp1
        · rw [int_of r, int_of r']; simpa [pairV] using hp1
        · rw [str_of r, str_of r']; simpa [pairV] using hp1
        · cases hp1
      | succ j => simpa using pairs_at rs rs' hp2 j x y (by simpa using hx) (by simpa using hy)
    · cases hp
theorem leT_ok : OpOk X (rLeM X.K) leTW := fun Wx ρ H st σ a b x y Q s ra rb p => by
  unfold leTW at p
  split at p
  · rename_i ws vs
    split at p
    · rename_i ps hps
      obtain ⟨d1, xs, rfl, ht, rs⟩ := tup_of ra
      obtain ⟨d2, ys, rfl, ht', rs'⟩ := tup_of rb
      rw [VRs.length rs, VRs.length rs'] at p
      exact ⟨d1, d2, xs, ys, _, _, rfl, rfl, ht.sq, ht'.sq, fun j v w hv hw => pairs_at rs rs' hps j v w hv hw, post_bl s p⟩
    · exact p.elim
  · exact p.elim
theorem ie_leT (hu : X.A.units + 64 < cLine) (ha : IE X ex Wx a ma) (hb : IE X ex Wx b mb) : IE X ex Wx (.Compare a [.LtE] [b] pos) (dOp leTW ma mb) := ie_cmp (op_leM (Nat.lt_of_le_of_lt (Nat.le_add_right _ _) hu)) leT_ok ha hb (nomark _)
theorem it_leT (hu : X.A.units + 64 < cLine) (ha : IE X ex Wx a ma) (hb : IE X ex Wx b mb) : IT X ex Wx (.Compare a [.LtE] [b] pos) (dBool (dOp leTW ma mb)) := it_cmp (op_leM (Nat.lt_of_le_of_lt (Nat.le_add_right _ _) hu)) leT_ok ha hb (nomark _)
end
end
end MP
namespace MP
open PySem PySem.Spec PyProof.Rows L2
open Classical
noncomputable section
/-! ### list(x), x a text or a sequence -/
def sgnV (x : Str) : List V := x.cps.toList.map fun c => .str ⟨#[c]⟩
theorem cr_listS {X : Cx} (hcalm : X.calm = true) : CallR X (.type "list") (fun xs H Q => ∃ x, xs = [V.str x] ∧ x.length ≤ sizeLine ∧ ∀ q, H q = none → Q (.ref q) (upd H q (.lst (sgnV x)))) := by
  intro pins s σ H xs us Q I r h
  obtain ⟨x, rfl, hz, q⟩ := h
  obtain ⟨u, rfl, ru⟩ := vals1 r
  obtain ⟨t, rfl⟩ := ru
  refine PySem.call_list_str (I.ok.hd hcalm) x t (fun h' tk acc c' hk e hi => ?_) (hn := hz)
  refine ⟨.ref s.heap.objs.size, upd H s.heap.objs.size (.lst (sgnV x)), I.laid hk (Nat.le_refl _) ⟨by simp [sgnV]; exact hz, acc.toList, c', ?_, by rw [Array.toArray_toList]; exact e⟩, rfl, q _ (I.hok.fresh (Nat.le_refl _))⟩
  refine vals_of_idx _ _ (by rw [Array.length_toList, hi.1]; simp [sgnV]) fun j u hj => ?_
  obtain ⟨c, t', hc, rfl⟩ := hi.2 j u (by rw [← Array.getElem?_toList]; exact hj)
  exact ⟨.str ⟨#[c]⟩, by simp [sgnV, hc], ⟨_, rfl⟩⟩
def listAW (l : List W) (st : Store) : Res W := match l with
  | [.str z] => if z.length ≤ sizeLine then .ok (.loc st.length) (st ++ [.lst (signs z)]) else .stuck
  | l => listW l st
theorem vrs_signs {K : PySem.W.Frag} {ρ : List Addr} {H : Hp} : ∀ (l : List Nat), VRs K ρ H (l.map fun c => W.str ⟨#[c]⟩) (l.map fun c => V.str ⟨#[c]⟩)
  | [] => by simp [VRs]
  | c :: l => .cons' (by simp [VR]) (vrs_signs l)
theorem listA_ok {X : Cx} : CallOk X (fun xs H Q => (∃ x, xs = [V.str x] ∧ x.length ≤ sizeLine ∧ ∀ q, H q = none → Q (.ref q) (upd H q (.lst (sgnV x)))) ∨ ∃ p ys, xs = [.ref p] ∧ (SqL X.K H p ys ∨ SqT X.K H p ys) ∧ ∀ l, H l = none → Q (.ref l) (upd H l (.lst ys))) listAW := fun Wx ρ H st σ l vs Q s r q => by
  unfold listAW at q
  split at q
  · rename_i z
    obtain ⟨x, rfl, ra⟩ := vrs1 r
    split at q
    · rename_i hz
      rw [str_of ra]
      exact .inl ⟨z, rfl, hz, post_lst s (vrs_signs _) q⟩
    · exact q.elim
  · exact .inr (list_ok Wx ρ H st σ _ vs Q s r q)
section
variable {X : Cx} {ex : Option Exn} {Wx : WX} {e : Expr} {es : List Expr} {p pos : Pos}
theorem ie_listA {m : D (List W)} (hc : X.calm = true) (hg : Gl X "list") (hm : X.mg "list" = none) (ha : IA X ex Wx (e :: es) m) (he : starEach (e :: es) X.env = (false, eval e X.env) :: starEach es X.env := by rfl) (hpl : (backTo pos (starEach es X.env)).any (·.1) = false := by rfl) :
    IE X ex Wx (.Call (.Name "list" p) (e :: es) [] pos) (dApp listAW m) := ie_callTy ((cr_listS hc).or call_list_of) listA_ok hg hm (by decide +kernel) ha (by decide) (by decide) he hpl
end
end
end MP
namespace MP
open PySem PySem.Spec PyProof.Rows L2
open Classical
noncomputable section
/-! ### repr of whole numbers, truths, None -/
def reprW (l : List W) (st : Store) : Res W := match l with
  | [.int i] => if i.natAbs.log2 < 1920 then .ok (.str (Str.ofString (toString i))) st else .stuck
  | [.bl b] => .ok (.str (if b then "True" else "False")) st
  | [.non] => .ok (.str "None") st
  | _ => .stuck
section
variable {X : Cx}
def rRepr : List V → Hp → VK → Prop := fun xs H Q => ∃ x, xs = [x] ∧ ((∃ i, x = .int i ∧ i.natAbs.log2 < 1920 ∧ Q (.str (Str.ofString (toString i))) H) ∨ ((∃ b, x = .bl b ∧ Q (.str (if b then "True" else "False")) H) ∨ (x = .non ∧ Q (.str "None") H)))
theorem cr_repr : CallR X (.builtin "repr") rRepr := by
  intro pins s σ H xs us Q I r h
  obtain ⟨x, rfl, h⟩ := h
  obtain ⟨u, rfl, ru⟩ := vals1 r
  rcases h with ⟨i, rfl, hz, q⟩ | ⟨b, rfl, q⟩ | ⟨rfl, q⟩
  · obtain ⟨t, rfl⟩ := ru
    exact PySem.P.repr_of_int hz ⟨.str _, H, I.tok _, ⟨_, rfl⟩, q⟩
  · cases (show u = Value.bool b from ru)
    exact PySem.P.repr_of_bool ⟨.str _, H, I.tok _, ⟨_, rfl⟩, q⟩
  · cases (show u = Value.none from ru)
    exact PySem.P.repr_of_none ⟨.str _, H, I.tok _, ⟨_, rfl⟩, q⟩
theorem repr_ok : CallOk X rRepr reprW := fun Wx ρ H st σ l vs Q s r q => by
  unfold reprW at q
  split at q
  · obtain ⟨x, rfl, ra⟩ := vrs1 r
    split at q
    · rename_i hz
      rw [int_of ra]; exact ⟨_, rfl, .inl ⟨_, rfl, hz, post_str s q⟩⟩
    · exact q.elim
  · obtain ⟨x, rfl, ra⟩ := vrs1 r
    rw [bl_of ra]; exact ⟨_, rfl, .inr (.inl ⟨_, rfl, post_str s q⟩)⟩
  · obtain ⟨x, rfl, ra⟩ := vrs1 r
    rw [non_of ra]; exact ⟨_, rfl, .inr (.inr ⟨rfl, post_str s q⟩)⟩
  · exact q.elim
/-! ### is, is not, of truths -/
def isBW (neg : Bool) (a b : W) (st : Store) : Res W := match b with
  | .bl c => match a with
    | .bl d => .ok (.bl (if neg then !decide (d = c) else decide (d = c))) st
    | _ => .stuck
  | _ => .stuck
theorem isB_ok : OpOk X (fun x y H Q => ∃ a b, x = .bl a ∧ y = .bl b ∧ Q (.bl (decide (a = b))) H) (isBW false) := fun Wx ρ H st σ a b x y Q s ra rb p => by
  unfold isBW at p
  split at p
  · split at p
    · exact ⟨_, _, bl_of ra, bl_of rb, post_bl s p⟩
    · exact p.elim
  · exact p.elim
theorem isNotB_ok : OpOk X (fun x y H Q => ∃ a b, x = .bl a ∧ y = .bl b ∧ Q (.bl (!decide (a = b))) H) (isBW true) := fun Wx ρ H st σ a b x y Q s ra rb p => by
  unfold isBW at p
  split at p
  · split at p
    · exact ⟨_, _, bl_of ra, bl_of rb, post_bl s p⟩
    · exact p.elim
  · exact p.elim
end
section
variable {X : Cx} {ex : Option Exn} {Wx : WX} {e : Expr} {es : List Expr} {p pos : Pos}
theorem ie_repr {m : D (List W)} (hg : Gl X "repr") (hm : X.mg "repr" = none) (ha : IA X ex Wx (e :: es) m) (he : starEach (e :: es) X.env = (false, eval e X.env) :: starEach es X.env := by rfl) (hpl : (backTo pos (starEach es X.env)).any (·.1) = false := by rfl) :
    IE X ex Wx (.Call (.Name "repr" p) (e :: es) [] pos) (dApp reprW m) := ie_callB cr_repr repr_ok hg hm (by decide +kernel) ha (by decide) (by decide) he hpl
theorem ie_isB {a b : Expr} {ma mb : D W} (ha : IE X ex Wx a ma) (hb : IE X ex Wx b mb) : IE X ex Wx (.Compare a [.Is] [b] pos) (dOp (isBW false) ma mb) := ie_cmp op_is_bl isB_ok ha hb (nomark _)
theorem ie_isNotB {a b : Expr} {ma mb : D W} (ha : IE X ex Wx a ma) (hb : IE X ex Wx b mb) : IE X ex Wx (.Compare a [.IsNot] [b] pos) (dOp (isBW true) ma mb) := ie_cmp op_isnot_bl isNotB_ok ha hb (nomark _)
theorem it_isB {a b : Expr} {ma mb : D W} (ha : IE X ex Wx a ma) (hb : IE X ex Wx b mb) : IT X ex Wx (.Compare a [.Is] [b] pos) (dBool (dOp (isBW false) ma mb)) := it_cmp op_is_bl isB_ok ha hb (nomark _)
theorem it_isNotB {a b : Expr} {ma mb : D W} (ha : IE X ex Wx a ma) (hb : IE X ex Wx b mb) : IT X ex Wx (.Compare a [.IsNot] [b] pos) (dBool (dOp (isBW true) ma mb)) := it_cmp op_isnot_bl isNotB_ok ha hb (nomark _)
/-! ### keywords in any order -/
def permL {α : Type} (ix : List Nat) (l : List α) : List α := ix.filterMap fun i => l[i]?
theorem perm_vals : ∀ {ix : List Nat} {zs : List V} {ws : List Value}, Vals zs ws → Vals (permL ix zs) (permL ix ws)
  | [], _, _, _ => .nil
  | i :: ix, zs, ws, r => by
    have ih := perm_vals (ix := ix) r
    unfold permL at ih ⊢
    have hl := r.length
    by_cases h : i < zs.length
    · have h' : i < ws.length := by rw [← hl]; exact h
      simp only [List.filterMap_cons, List.getElem?_eq_getElem h, List.getElem?_eq_getElem h']
      refine .cons ?_ ih
      obtain ⟨v, e, rv⟩ := vals_at r i ws[i] (List.getElem?_eq_getElem h')
      rw [List.getElem?_eq_getElem h] at e
      rw [Option.some.inj e]; exact rv
    · have h' : ¬ i < ws.length := by rw [← hl]; exact h
      simp only [List.filterMap_cons, List.getElem?_eq_none (Nat.le_of_not_lt h), List.getElem?_eq_none (Nat.le_of_not_lt h')]
      exact ih
theorem perm_vrs {K : PySem.W.Frag} {ρ : List Addr} {H : Hp} : ∀ {ix : List Nat} {ws : List W} {vs : List V}, VRs K ρ H ws vs → VRs K ρ H (permL ix ws) (permL ix vs)
  | [], _, _, _ => by simp [permL, VRs]
  | i :: ix, ws, vs, r => by
    have ih := perm_vrs (ix := ix) r
    unfold permL at ih ⊢
    have hl := VRs.length r
    by_cases h : i < ws.length
    · have h' : i < vs.length := by rw [← hl]; exact h
      simp only [List.filterMap_cons, List.getElem?_eq_getElem h, List.getElem?_eq_getElem h']
      obtain ⟨v, e, rv⟩ := r.get (List.getElem?_eq_getElem h)
      rw [List.getElem?_eq_getElem h'] at e
      rw [Option.some.inj e]; exact .cons' rv ih
    · have h' : ¬ i < vs.length := by rw [← hl]; exact h
      simp only [List.filterMap_cons, List.getElem?_eq_none (Nat.le_of_not_lt h), List.getElem?_eq_none (Nat.le_of_not_lt h')]
      exact ih
def tCallP (ix : List Nat) (n : Nat) (sp : Sp) (E : L2.St → XK) (tk : TA) : TE := fun σ H Q => tk σ H fun vs H1 => vs.length = n ∧ sp (permL ix vs) H1 Q (E σ)
theorem pe_callKP {k n : Nat} {f : Addr} {fd : FuncData} {ps : List Str} {x : Str} {ix : List Nat} {sp : Sp} {E : L2.St → XK} {CX : CXT} {kws : List Keyword} {tk : TA} {ks : List Str} (F : FnOk X.prog X.w X.K X.mg X.base CX k f fd ps sp) (hn : n = ps.length) (hr : Room k X.A) (hg : Gl X x) (hm : X.mg x = some (.ref f)) (hk : PySem.W.keepIn X.K (.ref f) = true)
    (hb : ∀ (s : Shared) (ws : List Value), X.K.In s.heap → ws.length = ps.length → BindsTo s fd ⟨[], ks.zip ws⟩ (ps.zip (permL ix ws))) (hx : ∀ σ, PassesAt CX X σ (E σ)) (hkw : PK X kws tk)
    (hall : (backToKw pos (keywordEach kws X.env)).all (·.1.isSome) = true := by rfl) (hks : (backToKw pos (keywordEach kws X.env)).filterMap (·.1) = ks := by rfl) (hdb : (x == ("__debug__" : Str)) = false := by decide)
    (hpl : ((backTo pos (starEach [] X.env)).any (·.1) || (backToKw pos (keywordEach kws X.env)).any (·.1.isNone)) = false := by rfl) :
    PE X (.Call (.Name x p) [] kws pos) (tCallP ix n sp E tk) := by
  refine ⟨fun pins s σ H Q I h => ?_⟩
  refine wpAny_Call_Name_kw (ld_glob I hg hm ?_ hdb)
  refine PySem.W.callWith_KW0 (h₀ := X.base) I.ok.mod.kin hk hall (thn (hkw.run pos pins s σ H _ I h) fun ws s1 ⟨zs, H1, I1, rz, hl0, q⟩ => ⟨I1.kIn, ?_⟩) hpl
  rw [hks]
  have hl : ws.length = ps.length := by rw [← rz.length, ← hn]; exact hl0
  refine wpAny_call (codeAny_mono (F.run X.A X.stack s1 H1 ⟨[], ks.zip ws⟩ (permL ix ws) (permL ix zs) Q (E σ) hr I1.env0 (hb s1 ws I1.kIn hl) (perm_vals rz) q) fun r s' hq => ?_)
  cases r with
  | error e => exact hx σ pins H1 s1 e s' I1 hq
  | ok fl =>
    cases fl with
    | ret u => exact I1.after hq
    | next => exact False.elim hq
    | brk => exact False.elim hq
    | cont => exact False.elim hq
def dCallP (n : Nat) (ix : List Nat) (den : List W → Store → Res W) (m : D (List W)) : D W := fun env st => (m env st).bind fun l st1 => if l.length = n ∧ (permL ix l).length = n then den (permL ix l) st1 else .stuck
theorem ie_callFKP {ps : List Str} {j n : Nat} {x : Str} {den : List W → Store → Res W} {ix : List Nat} {m : D (List W)} {kws : List Keyword} {ks : List Str} (G : FnF X.prog X.w X.K X.mg X.base x ps j n den) (hr : Room j X.A) (tk : Takes X Wx)
    (hb : ∀ (s : Shared) (ws : List Value), X.K.In s.heap → ws.length = ps.length → BindsTo s G.fd ⟨[], ks.zip ws⟩ (ps.zip (permL ix ws))) (hkw : IK X ex Wx kws m) (hn : n = ps.length := by rfl) (hg : Gl X x := by rfl)
    (hall : (backToKw pos (keywordEach kws X.env)).all (·.1.isSome) = true := by rfl) (hks : (backToKw pos (keywordEach kws X.env)).filterMap (·.1) = ks := by rfl) (hdb : (x == ("__debug__" : Str)) = false := by decide)
    (hpl : ((backTo pos (starEach [] X.env)).any (·.1) || (backToKw pos (keywordEach kws X.env)).any (·.1.isNone)) = false := by rfl) : IE X ex Wx (.Call (.Name x p) [] kws pos) (dCallP n ix den m) :=
  PE.of (pe_callKP (n := n) G.ok hn hr hg G.m G.kp hb (fun σ => passAt tk σ) hkw hall hks hdb hpl) fun σ H Q ⟨ρ, env, st, s, e, q⟩ => RG.bind s e q fun ρ1 H1 st1 l vs g s1 e1 r p1 => by
    split at p1
    · rename_i hl
      exact ⟨by rw [← VRs.length r]; exact hl.1, sp_of s1 (perm_vrs r) hl.2 p1⟩
    · exact p1.elim
end
/-! ### zip of two lists, in a for -/
structure ItG where
  items : List W
  chk : Store → Prop
section
variable {X : Cx} {ex : Option Exn} {Wx : WX} {pos : Pos}
def relG (X : Cx) : List Addr → Hp → ItG → It → Prop := fun ρ0 H0 it J =>
  ∀ ρ H st, Grow ρ0 H0 ρ H → StR X.K ρ H st → it.chk st → ∀ i, (∀ w, it.items[i]? = some w → J.go i H ∧ ∀ x H', J.yld i H x H' → Grow ρ H ρ H' ∧ StR X.K ρ H' st ∧ VR X.K ρ H' w x) ∧ (it.items.length ≤ i → J.stop i H)
abbrev IIG (X : Cx) (ex : Option Exn) (Wx : WX) (tg e : Expr) (m : D ItG) : Prop := PI X tg e (RG X ex Wx (relG X) m)
def sForG (m : D ItG) (t : DT) (b : DS) : DS := fun env st => (m env st).then env fun it st1 => forW it.chk t b it.items env st1
theorem is_forG {vs : List Nat} {tg iter : Expr} {body : List Stmt} {m : D ItG} {t : DT} {b : DS} (hp : PassesOwn (model X.prog X.w) X.A X.env X.xe) (hc : X.calm = true) (hi : IIG X ex Wx tg iter m) (hg : IG X ex vs tg t) (hb : ISs X ex Wx body b) (hs : ∀ x, foldedSetIterable iter X.env x = pure x := by intro _; rfl) : IS X ex Wx (.For tg iter body [] pos) (sForG m t b) :=
  PS.of (ps_for hp hc hi hg hb hs) fun De σ H ⟨ρ, env, st, s, e, p⟩ => RS.step (rel := relG X) s e p fun ρ1 H1 st1 it J g s1 e1 r q => by
    refine ⟨fun i m σ H => m = it.items.length - i ∧ i ≤ it.items.length ∧ ∃ ρ env st, Grow ρ1 H1 ρ H ∧ StR X.K ρ H st ∧ EnvR X.K ex ρ H env σ ∧ PostS X.K ex X.mg Wx De ρ H (forW it.chk t b (it.items.drop i) env st),
      ⟨_, rfl, Nat.zero_le _, ρ1, env, st1, .refl, s1, e1, q⟩, ?_⟩
    rintro i m σ' H' ⟨rfl, hi, ρ', env', st', g', s', e', q'⟩
    by_cases hlt : i < it.items.length
    · rw [List.drop_eq_getElem_cons hlt] at q'
      unfold forW at q'
      split at q'
      · rename_i ck
        obtain ⟨go, stop⟩ := r ρ' H' st' g' s' ck i
        obtain ⟨hgo, hy⟩ := go _ (List.getElem?_eq_getElem hlt)
        refine .inr ⟨hgo, fun σ2 H2 => ∃ ρ env st, Grow ρ1 H1 ρ H2 ∧ StR X.K ρ H2 st ∧ EnvR X.K ex ρ H2 env σ2 ∧ PostS X.K ex X.mg Wx De ρ H2 (forW it.chk t b (it.items.drop (i + 1)) env st), fun σ2 H2 n => ⟨_, by omega, rfl, hlt, n⟩, fun x H2 y => ?_⟩
        obtain ⟨g2, s2, rv⟩ := hy x H2 y
        have e2 := e'.grow s'.apart g2
        cases ht : t it.items[i] env' st' with
        | none => rw [ht] at q'; exact q'.elim
        | some pr =>
          obtain ⟨env3, st3⟩ := pr
          rw [ht] at q'
          refine ⟨ρ', env', st', _, s2, e2, rv, env3, st3, ht, fun ρ3 H3 σ3 g3 s3 e3 _ => ⟨ρ3, env3, st3, s3, e3, ?_⟩⟩
          simp only at q'
          have gg := g'.trans (g2.trans g3)
          have q3 := PostS.mono q' (g2.trans g3)
          generalize hbr : b env3 st3 = br at q3
          cases br with
          | stuck => exact q3
          | err c fs env4 st4 => exact q3
          | go f env4 st4 =>
            cases f with
            | nx => exact fun ρ4 H4 σ4 g4 s4 e4 => ⟨ρ4, env4, st4, gg.trans g4, s4, e4, PostS.mono q3 g4⟩
            | ct => exact fun ρ4 H4 σ4 g4 s4 e4 => ⟨ρ4, env4, st4, gg.trans g4, s4, e4, PostS.mono q3 g4⟩
            | bk => exact q3
            | rt v => exact q3
      · exact q'.elim
    · have : i = it.items.length := by omega
      subst this
      rw [List.drop_length] at q'
      unfold forW at q'
      split at q'
      · rename_i ck
        exact .inl ⟨(r ρ' H' st' g' s' ck _).2 (Nat.le_refl _), PostS.go_ (f := .nx) q' s' e'⟩
      · exact q'.elim
def zipW (xs ys : List W) : List W := List.zipWith (fun x y => W.tup [x, y]) xs ys
def zipOf (l : List W) (st : Store) : Res ItG := match l with
  | [.loc m, .loc n] => match lst2 st m n with
    | some (xs, ys) => .ok ⟨zipW xs ys, fun st => st[m]? = some (.lst xs) ∧ st[n]? = some (.lst ys)⟩ st
    | none => .stuck
  | _ => .stuck
def dZip (m : D (List W)) : D ItG := fun env st => (m env st).bind zipOf
theorem ob_at {ρ ρ' : List Addr} {H H' : Hp} {st : Store} {n : Nat} {a : Addr} {ws : List W} (g : Grow ρ H ρ' H') (s : StR X.K ρ' H' st) (hn : ρ[n]? = some a) (h : st[n]? = some (.lst ws)) : ∃ us, H' a = some (.lst us) ∧ VRs X.K ρ' H' ws us := by
  obtain ⟨m, e, _⟩ := g.pre
  subst e
  obtain ⟨b, hb, us, hu, r⟩ := s.ob n (.lst ws) h
  have : b = a := by
    rw [List.getElem?_append_left (List.getElem?_eq_some_iff.mp hn).1, hn] at hb
    exact (Option.some.inj hb).symm
  subst this
  exact ⟨us, hu, r⟩
theorem relG_zip {ρ : List Addr} {H : Hp} {xs ys : List W} {m n : Nat} {a b : Addr} (hm : ρ[m]? = some a) (hn : ρ[n]? = some b) : relG X ρ H ⟨zipW xs ys, fun st => st[m]? = some (.lst xs) ∧ st[n]? = some (.lst ys)⟩ (Itz X.K a b) := by
  intro ρ' H' st' g s' ck i
  obtain ⟨us, hu, ru⟩ := ob_at g s' hm ck.1
  obtain ⟨vs, hv, rv⟩ := ob_at g s' hn ck.2
  have su : SqL X.K H' a us := .inl (.inl hu)
  have sv : SqL X.K H' b vs := .inl (.inl hv)
  refine ⟨fun w e => ?_, fun h => ⟨us, vs, su, sv, ?_⟩⟩
  · have e : (zipW xs ys)[i]? = some w := e
    unfold zipW at e
    rw [List.getElem?_zipWith] at e
    cases hx : xs[i]? with
    | none => rw [hx] at e; simp at e
    | some x =>
      cases hy : ys[i]? with
      | none => rw [hx, hy] at e; simp at e
      | some y =>
        rw [hx, hy] at e
        simp only [Option.some.injEq] at e
        subst e
        obtain ⟨u, e1, r1⟩ := ru.get hx
        obtain ⟨v, e2, r2⟩ := rv.get hy
        refine ⟨⟨us, vs, u, v, su, sv, e1, e2⟩, fun z H2 ⟨T, x', y', ez, hT, eH, fx, fy⟩ => ?_⟩
        have h1 := fx us su
        rw [e1] at h1; cases h1
        have h2 := fy vs sv
        rw [e2] at h2; cases h2
        subst ez; subst eH
        exact ⟨grow_imm hT, s'.grow_imm hT, tup_new s' (.cons' r1 (.one r2)) hT⟩
  · have h : (zipW xs ys).length ≤ i := h
    unfold zipW at h
    rw [List.length_zipWith, VRs.length ru, VRs.length rv] at h
    omega
theorem iig_zip {e e2 : Expr} {m : D (List W)} {p tpos : Pos} {elts : List Expr} {kk : Nat} (hg : Gl X "zip") (hm : X.mg "zip" = none) (ha : IA X ex Wx [e, e2] m)
    (hs : starEach [e, e2] X.env = (false, eval e X.env) :: starEach [e2] X.env := by rfl) (hpl : (backTo pos (starEach [e2] X.env)).any (·.1) = false := by rfl) :
    IIG X ex Wx (.Tuple elts kk tpos) (.Call (.Name "zip" p) [e, e2] [] pos) (dZip m) :=
  ⟨fun pins s σ H R I h => (pi_zip hg hm ha hs hpl).run pins s σ H R I (by
    obtain ⟨ρ, env, st, s, e, q⟩ := h
    refine RG.bind s e q fun ρ1 H1 st1 l vs g s1 e1 r p1 => ?_
    unfold zipOf at p1
    split at p1
    · split at p1
      · rename_i xs ys h2
        obtain ⟨x, y, rfl, ra, rb⟩ := vrs2 r
        obtain ⟨hx, hy⟩ := lst2_of h2
        obtain ⟨a1, us, hm1, rfl, hu, _⟩ := loc_lst s1 ra hx
        obtain ⟨b1, vs, hn1, rfl, hv, _⟩ := loc_lst s1 rb hy
        exact ⟨a1, b1, us, vs, rfl, .inl (.inl hu), .inl (.inl hv), p1 ρ1 H1 _ .refl s1 (relG_zip hm1 hn1)⟩
      · exact p1.elim
    · exact p1.elim)⟩
end
end
end MP
namespace MP
open PySem PySem.Spec PyProof.Rows L2
noncomputable section
/-! ### tuples of texts that the module holds -/
/-- the name stands for a tuple of these texts, of the written part -/
def GTup (K : PySem.W.Frag) (mg : Str → Option Value) (x : Str) (ss : List Str) : Prop :=
  ∃ (a : Addr) (o : Obj) (its : Array Value) (n : Nat), mg x = some (.ref a) ∧ K.lookup a = some o ∧ o.cls = .type "tuple" ∧ o.data = .seq its n ∧ its.size ≤ sizeLine ∧ Vals (ss.map V.str) its.toList
theorem vrs_strs {K : PySem.W.Frag} {ρ : List Addr} {H : Hp} : ∀ (l : List Str), VRs K ρ H (l.map W.str) (l.map V.str)
  | [] => by simp [VRs]
  | c :: l => .cons' (by simp [VR]) (vrs_strs l)
theorem vals_strs : ∀ {ss : List Str} {us : List Value}, (∀ p ∈ ss.zip us, ∃ t, p.2 = .str p.1 t) → ss.length = us.length → Vals (ss.map V.str) us
  | [], [], _, _ => .nil
  | s :: ss, u :: us, h, hl => by
    obtain ⟨t, e⟩ := h (s, u) (by simp)
    simp only at e
    refine .cons ⟨t, e⟩ (vals_strs (fun p hp => h p (by simp [hp])) (by simpa using hl))
  | [], _ :: _, _, hl => by simp at hl
  | _ :: _, [], _, hl => by simp at hl
section
variable {X : Cx} {ex : Option Exn} {Wx : WX} {pos : Pos} {x : Str}
/-- the number of a sign -/
def ordFW (l : List W) (st : Store) : Res W := match l with
  | [.str z] => if z.length = 1 then .ok (.int (z.cps.getD 0 0 : Nat)) st else .stuck
  | _ => .stuck
theorem ordF_ok : CallOk X (fun xs H Q => ∃ x, xs = [V.str x] ∧ x.length = 1 ∧ Q (.int (x.cps.getD 0 0 : Nat)) H) ordFW := fun Wx ρ H st σ l vs Q s r p => by
  unfold ordFW at p
  split at p
  · rename_i z
    obtain ⟨x, rfl, ra⟩ := vrs1 r
    split at p
    · rename_i hz
      rw [str_of ra]
      exact ⟨z, rfl, hz, post_int s p⟩
    · exact p.elim
  · exact p.elim
theorem ie_ord {e : Expr} {es : List Expr} {p : Pos} {m : D (List W)} (hg : Gl X "ord") (hm : X.mg "ord" = none) (ha : IA X ex Wx (e :: es) m) (he : starEach (e :: es) X.env = (false, eval e X.env) :: starEach es X.env := by rfl) (hpl : (backTo pos (starEach es X.env)).any (·.1) = false := by rfl) :
    IE X ex Wx (.Call (.Name "ord" p) (e :: es) [] pos) (dApp ordFW m) := ie_callB call_ord ordF_ok hg hm (by decide +kernel) ha (by decide) (by decide) he hpl
/-- two names at once -/
def kPar (i j : Nat) (env : EnvW) (l : List W) (st : Store) : RsS := match l with
  | [a, b] => .go .nx ((env.set i (some a)).set j (some b)) st
  | _ => .stuck
def sPar (i j : Nat) (m : D (List W)) : DS := fun env st => (m env st).then env (kPar i j env)
@[simp] theorem sPar_ap {i j : Nat} {m : D (List W)} {env : EnvW} {st : Store} : sPar i j m env st = (m env st).then env (kPar i j env) := rfl
@[simp] theorem kPar_ap {i j : Nat} {a b : W} {env : EnvW} {st : Store} : kPar i j env [a, b] st = .go .nx ((env.set i (some a)).set j (some b)) st := rfl
theorem is_par {i j : Nat} {x y : Str} {a b : Expr} {m : D (List W)} {px py pt pt2 : Pos} {kt k2 : Nat} (hc : X.calm = true) (hN : X.N.Nodup) (hi : X.N[i]? = some x) (hj : X.N[j]? = some y) (hij : i ≠ j) (hx : X.env.scope.names.lookup x = some .local) (hy : X.env.scope.names.lookup y = some .local)
    (hx0 : ExOk ex i) (hy0 : ExOk ex j) (ha : IA X ex Wx [a, b] m) (hw : swappedStores [.Tuple [.Name x px, .Name y py] kt pt] (.Tuple [a, b] k2 pt2) X.env = pure (some [x, y]) := by rfl)
    (hs : swapsWithSole [.Tuple [.Name x px, .Name y py] kt pt] (.Tuple [a, b] k2 pt2) pos.line X.env = pure false := by rfl) : IS X ex Wx (.Assign [.Tuple [.Name x px, .Name y py] kt pt] (.Tuple [a, b] k2 pt2) pos) (sPar i j m) :=
  PS.of (ps_par hc hN hi hj hij hx hy ha hw hs) fun D σ H ⟨ρ, env, st, s, e, p⟩ => RS.step s e p fun ρ1 H1 st1 l xs g s1 e1 r p1 => by
    unfold kPar at p1
    split at p1
    · obtain ⟨u, v, rfl, ra, rb⟩ := vrs2 r
      exact ⟨u, v, rfl, PostS.go_ p1 s1 ((e1.set hx0 ra).set hy0 rb)⟩
    · exact p1.elim
/-- a text of a whole number, or of a text -/
def strW (l : List W) (st : Store) : Res W := match l with
  | [.int i] => if i.natAbs.log2 < 1920 then .ok (.str (Str.ofString (toString i))) st else .stuck
  | [.str x] => .ok (.str x) st
  | _ => .stuck
theorem strF_ok : CallOk X (fun xs H Q => (∃ i, xs = [V.int i] ∧ i.natAbs.log2 < 1920 ∧ Q (.str (Str.ofString (toString i))) H) ∨ ∃ a, xs = [V.str a] ∧ Q (.str a) H) strW := fun Wx ρ H st σ l vs Q s r p => by
  unfold strW at p
  split at p
  · obtain ⟨x, rfl, ra⟩ := vrs1 r
    split at p
    · rename_i hz
      rw [int_of ra]
      exact .inl ⟨_, rfl, hz, post_str s p⟩
    · exact p.elim
  · obtain ⟨x, rfl, ra⟩ := vrs1 r
    rw [str_of ra]
    exact .inr ⟨_, rfl, post_str s p⟩
  · exact p.elim
theorem ie_strOf {e : Expr} {es : List Expr} {p : Pos} {m : D (List W)} (hg : Gl X "str") (hm : X.mg "str" = none) (ha : IA X ex Wx (e :: es) m) (he : starEach (e :: es) X.env = (false, eval e X.env) :: starEach es X.env := by rfl) (hpl : (backTo pos (starEach es X.env)).any (·.1) = false := by rfl) :
    IE X ex Wx (.Call (.Name "str" p) (e :: es) [] pos) (dApp strW m) := ie_callTy (call_str_int.or SkE.call_str_str) strF_ok hg hm (by decide +kernel) ha (by decide) (by decide) he hpl
theorem ie_gtup {ss : List Str} (h : GTup X.K X.mg x ss) (hg : Gl X x := by rfl) (hd : (x == ("__debug__" : Str)) = false := by decide) : IE X ex Wx (.Name x pos) (dC (.tup (ss.map W.str))) := by
  obtain ⟨a, o, its, n, hm, hl, hc, hs, hz, hv⟩ := h
  exact ie_c (pe_glob (v := .ref a) hg hm rfl hd) fun ρ H => by
    simp only [VR]
    exact ⟨a, _, rfl, .inr ⟨o, its, n, hl, hc, hs, hz, hv⟩, vrs_strs ss⟩
end
/-! ### < of numbers, texts, and tuples of such, also nested -/
theorem rc_lt_str {A : Around} {s : Shared} (a b : Str) (t u : Tok) : Ob.RcOp .Lt A s (.str a t) (.str b u) (decide (a.cps.toList < b.cps.toList)) := fun _ _ _ _ h => PySem.P.lt_str h
mutual
def ordUW (st : Store) : Nat → W → W → Option Bool
  | 0, _, _ => none
  | n + 1, a, b => match a, b with
    | .int i, .int k => some (decide (i < k))
    | .str x, .str y => some (decide (x.cps.toList < y.cps.toList))
    | .tup xs, .tup ys => match ordsUW st n xs ys with
      | some ps => some (Ob.lexAt (fun j => (ps.getD j (false, false)).1) (fun j => (ps.getD j (false, false)).2) (decide (xs.length < ys.length)) 0 (min xs.length ys.length))
      | none => none
    | _, _ => none
def ordsUW (st : Store) : Nat → List W → List W → Option (List (Bool × Bool))
  | n, x :: xs, y :: ys => match datF st 66 x, datF st 66 y with
    | some d, some e => if SeqAt.shaped d = true ∧ SeqAt.shaped e = true then
        match (if d.eqv e = true then some false else ordUW st n x y), ordsUW st n xs ys with
        | some r, some ps => some ((d.eqv e, r) :: ps)
        | _, _ => none
      else none
    | _, _ => none
  | _, _, _ => some []
end
def ltUW (a b : W) (st : Store) : Res W := match ordUW st 8 a b with
  | some r => .ok (.bl r) st
  | none => .stuck
def rLtU (X : Cx) : R2 := fun x y H Q => ∃ (ρ : List Addr) (st : Store) (a b : W) (r : Bool), StR X.K ρ H st ∧ VR X.K ρ H a x ∧ VR X.K ρ H b y ∧ ordUW st 8 a b = some r ∧ Q (.bl r) H
theorem shaped_d {d : PyData} (h : SeqAt.shaped d = true) : d.canLay0 = true ∧ d.depth ≤ 64 := by
  rw [SeqAt.shaped.eq_1] at h
  simpa using h
section
variable {X : Cx} {pins : List (Addr × Obj)} {σ : L2.St} {H : Hp} {s : Shared} {ρ : List Addr} {st : Store}
theorem vrs_get {K : PySem.W.Frag} : ∀ {ws : List W} {us : List V} {j : Nat} {v : V}, VRs K ρ H ws us → us[j]? = some v → ∃ w, ws[j]? = some w ∧ VR K ρ H w v
  | [], us, j, v, h, e => by simp only [VRs] at h; subst h; simp at e
  | w :: ws, us, 0, v, h, e => by
    simp only [VRs] at h
    obtain ⟨u, us', rfl, r, rs⟩ := h
    simp at e; subst e
    exact ⟨w, rfl, r⟩
  | w :: ws, us, j + 1, v, h, e => by
    simp only [VRs] at h
    obtain ⟨u, us', rfl, r, rs⟩ := h
    obtain ⟨w', e', r'⟩ := vrs_get rs (by simpa using e)
    exact ⟨w', by simpa using e', r'⟩
theorem ords_get : ∀ {n : Nat} {xs ys : List W} {ps : List (Bool × Bool)} {j : Nat} {x y : W}, ordsUW st n xs ys = some ps → xs[j]? = some x → ys[j]? = some y → ∃ d e, datF st 66 x = some d ∧ datF st 66 y = some e ∧ SeqAt.shaped d = true ∧ SeqAt.shaped e = true ∧ (ps.getD j (false, false)).1 = d.eqv e ∧ (d.eqv e = false → ordUW st n x y = some (ps.getD j (false, false)).2)
  | n, [], ys, ps, j, x, y, _, h, _ => by simp at h
  | n, _ :: _, [], ps, j, x, y, _, _, h => by simp at h
  | n, a :: xs, b :: ys, ps, j, x, y, h, hx, hy => by
    unfold ordsUW at h
    split at h
    · rename_i d e hd he
      split at h
      · rename_i hz
        split at h
        · rename_i r qs hr hq
          cases h
          cases j with
          | zero =>
            simp at hx hy; subst hx; subst hy
            refine ⟨d, e, hd, he, hz.1, hz.2, rfl, fun q => ?_⟩
            rw [q] at hr
            simpa using hr
          | succ j =>
            obtain ⟨d', e', h1, h2, h3, h4, h5, h6⟩ := ords_get hq (by simpa using hx) (by simpa using hy)
            exact ⟨d', e', h1, h2, h3, h4, by simpa using h5, by simpa using h6⟩
        · cases h
      · cases h
    · cases h
theorem rc_ord (I : L2.Inv X pins σ H s) (S : StR X.K ρ H st) : ∀ (n : Nat) (A : Around) (a b : W) (x y : V) (u v : Value) (r : Bool), VR X.K ρ H a x → VR X.K ρ H b y → L2.RelV x u → L2.RelV y v → ordUW st n a b = some r → A.units + n + 66 < cLine → Ob.RcOp .Lt A s u v r
  | 0, A, a, b, x, y, u, v, r, _, _, _, _, h, _ => by simp [ordUW] at h
  | n + 1, A, a, b, x, y, u, v, r, ra, rb, ru, rv, h, hu => by
    unfold ordUW at h
    split at h
    · rw [int_of ra] at ru
      rw [int_of rb] at rv
      obtain ⟨t, rfl⟩ := ru
      obtain ⟨t', rfl⟩ := rv
      cases h
      exact Ob.RcOp.lt_int _ _ _ _
    · rw [str_of ra] at ru
      rw [str_of rb] at rv
      obtain ⟨t, rfl⟩ := ru
      obtain ⟨t', rfl⟩ := rv
      cases h
      exact rc_lt_str _ _ _ _
    · rename_i xs ys
      split at h
      · rename_i ps hps
        cases h
        obtain ⟨d1, us, rfl, ht, rs⟩ := tup_of ra
        obtain ⟨d2, vs, rfl, ht', rs'⟩ := tup_of rb
        cases ru
        cases rv
        obtain ⟨its, r1, p1, _⟩ := I.tuple ht.sq
        obtain ⟨its2, r2, p2, _⟩ := I.tuple ht'.sq
        have n1 : its.toArray.size = xs.length := by rw [List.size_toArray, VRs.length rs]; exact r1.length.symm
        have n2 : its2.toArray.size = ys.length := by rw [List.size_toArray, VRs.length rs']; exact r2.length.symm
        have both : ∀ j (h1 : j < its.toArray.size) (h2 : j < its2.toArray.size), SeqAt.EqAt A.in1 s its.toArray[j] its2.toArray[j] (ps.getD j (false, false)).1 ∧ ((ps.getD j (false, false)).1 = false → Ob.RcOp .Lt A.in1 s its.toArray[j] its2.toArray[j] (ps.getD j (false, false)).2) := fun j h1 h2 => by
          have g1 : its[j]? = some its.toArray[j] := by simp at h1; simp [h1]
          have g2 : its2[j]? = some its2.toArray[j] := by simp at h2; simp [h2]
          obtain ⟨v1, hv1, rv1⟩ := vals_at r1 j _ g1
          obtain ⟨v2, hv2, rv2⟩ := vals_at r2 j _ g2
          obtain ⟨w1, hw1, rw1⟩ := vrs_get rs hv1
          obtain ⟨w2, hw2, rw2⟩ := vrs_get rs' hv2
          obtain ⟨d, e, hd, he, sd, se, e1, e2⟩ := ords_get hps hw1 hw2
          rw [e1]
          have D1 := datF_dp S 66 w1 v1 d rw1 hd
          have D2 := datF_dp S 66 w2 v2 e rw2 he
          obtain ⟨as, R1⟩ := L2.Dp.reads I d v1 _ D1 rv1
          obtain ⟨bs, R2⟩ := L2.Dp.reads I e v2 _ D2 rv2
          refine ⟨SeqAt.eqAt_reads d e A.in1 s _ _ as bs R1 R2 (shaped_d sd).1 (shaped_d se).1 ?_, fun q => ?_⟩
          · have := (shaped_d sd).2
            show A.units + 1 + min d.depth e.depth < cLine
            omega
          · exact rc_ord I S n A.in1 w1 w2 v1 v2 _ _ _ rw1 rw2 rv1 rv2 (e2 q) (by show A.units + 1 + n + 66 < cLine; omega)
        have R := Ob.RcOp.tuples_lt (A := A) (s := s) (e := fun j => (ps.getD j (false, false)).1) (r := fun j => (ps.getD j (false, false)).2) p1 p2 (by omega) (fun j h1 h2 => (both j h1 h2).1) (fun j h1 h2 q => (both j h1 h2).2 q)
        rw [n1, n2] at R
        exact R
      · cases h
    · cases h
theorem op_ltU (hu : X.A.units + 200 < cLine) : OpR X (compareOp .Lt) (rLtU X) := by
  intro pins s σ H x y v u Q I rx ry h
  obtain ⟨ρ, st, a, b, r, S, ra, rb, ho, q⟩ := h
  exact rc_ord I S 8 X.A a b x y v u r ra rb rx ry ho (by omega) X.prog X.w X.xe (EP X pins σ Q) ⟨.bl _, H, I, rfl, q⟩
theorem ltU_ok : OpOk X (rLtU X) ltUW := fun Wx ρ H st σ a b x y Q s ra rb p => by
  unfold ltUW at p
  split at p
  · rename_i r hr
    exact ⟨ρ, st, a, b, r, s, ra, rb, hr, post_bl s p⟩
  · exact p.elim
end
section
variable {X : Cx} {ex : Option Exn} {Wx : WX} {a b : Expr} {ma mb : D W} {pos : Pos} {k : Nat}
theorem ie_ltU (hr : Room k X.A) (ha : IE X ex Wx a ma) (hb : IE X ex Wx b mb) : IE X ex Wx (.Compare a [.Lt] [b] pos) (dOp ltUW ma mb) := ie_cmp (op_ltU (by have := hr.un; omega)) ltU_ok ha hb (nomark _)
theorem it_ltU (hr : Room k X.A) (ha : IE X ex Wx a ma) (hb : IE X ex Wx b mb) : IT X ex Wx (.Compare a [.Lt] [b] pos) (dBool (dOp ltUW ma mb)) := it_cmp (op_ltU (by have := hr.un; omega)) ltU_ok ha hb (nomark _)
end
/-! ### in a list of data -/
def inDW (a b : W) (st : Store) : Res W := match datF st 66 a, datF st 66 b with
  | some d, some (.list ds) => if SeqAt.shaped d = true ∧ SeqAt.shaped (.list ds) = true then .ok (.bl (ds.any fun z => PyData.eqv z d)) st else .stuck
  | _, _ => .stuck
section
variable {X : Cx} {ex : Option Exn} {Wx : WX} {a b : Expr} {ma mb : D W} {pos : Pos} {k : Nat}
theorem inD_ok : OpOk X (rInD X.K) inDW := fun Wx ρ H st σ a b x y Q s ra rb p => by
  unfold inDW at p
  split at p
  · rename_i d ds hd he
    split at p
    · rename_i hz
      exact ⟨d, ds, datF_dp s 66 a x d ra hd, datF_dp s 66 b y _ rb he, hz.1, hz.2, post_bl s p⟩
    · exact p.elim
  · exact p.elim
theorem ie_inD (hr : Room k X.A) (ha : IE X ex Wx a ma) (hb : IE X ex Wx b mb) (hm : behindInMarks .In b = false := by with_unfolding_all rfl) : IE X ex Wx (.Compare a [.In] [b] pos) (dOp inDW ma mb) := ie_cmp (op_inD (by have := hr.un; omega)) inD_ok ha hb hm
theorem it_inD (hr : Room k X.A) (ha : IE X ex Wx a ma) (hb : IE X ex Wx b mb) (hm : behindInMarks .In b = false := by with_unfolding_all rfl) : IT X ex Wx (.Compare a [.In] [b] pos) (dBool (dOp inDW ma mb)) := it_cmp (op_inD (by have := hr.un; omega)) inD_ok ha hb hm
end
/-! ### [::-1] of a list or a tuple -/
theorem places_rev (n : Nat) : Builtin.Slice.slicePlaces ((n : Int) - 1) (-1) (-1) = n := by
  unfold Builtin.Slice.slicePlaces
  rw [if_neg (by decide)]
  by_cases h : n = 0
  · subst h; rfl
  · rw [if_pos (by omega)]
    have : ((n : Int) - 1 - -1 - 1) / - -1 = (n : Int) - 1 := by
      rw [show (- -1 : Int) = 1 from rfl, Int.ediv_one]; omega
    rw [this]; omega
theorem applied_rev {prog : Program} {w : World} {A : Around} {E : Value → Shared → Prop} {s : Shared} {sl : Addr} {t : Tok} {n : Nat} {Q : Int × Int × Nat → Shared → Prop} (hs : s.heap.IsSliceOf sl .none .none (.int (-1) t)) (h : Q ((n : Int) - 1, -1, n) s) : wpAny (model prog w) A (Builtin.Slice.sliceApplied (.ref sl) (pure (n : Int))) Q E s := by
  obtain ⟨os, hos, hcs, hds⟩ := hs
  unfold Builtin.Slice.sliceApplied Builtin.Slice.sliceFields
  refine wpAny_bind (wpAny_bind (wpAny_field hos hds rfl (wpAny_bind (wpAny_field hos hds rfl (wpAny_bind (wpAny_field hos hds rfl (wpAny_pure ?_)))))))
  refine wpAny_bind (HT.slicePart_ (.int (-1) t) ?_)
  show wpAny (model prog w) A (if ((-1 : Int) == 0) = true then _ else _) Q E s
  rw [if_neg (by decide)]
  refine wpAny_bind (HT.slicePart_ .none (wpAny_bind (HT.slicePart_ .none (wpAny_bind (wpAny_pure ?_)))))
  rw [show Builtin.Slice.sliceAdjust none none ((some (-1 : Int)).getD 1) (n : Int) = ((n : Int) - 1, -1) from rfl]
  show wpAny (model prog w) A (pure ((n : Int) - 1, -1, Builtin.Slice.slicePlaces ((n : Int) - 1) (-1) (-1))) Q E s
  rw [places_rev]
  exact wpAny_pure h
theorem filterMap_cg {α β : Type} {f g : α → Option β} : ∀ {l : List α}, (∀ a ∈ l, f a = g a) → List.filterMap f l = List.filterMap g l
  | [], _ => rfl
  | a :: l, h => by
    rw [List.filterMap_cons, List.filterMap_cons, h a List.mem_cons_self, filterMap_cg fun b m => h b (List.mem_cons_of_mem _ m)]
theorem pick_rev (items : Array Value) : (List.filterMap (fun k : Nat => items[((items.size : Int) - 1 + (k : Int) * -1).toNat]?) (List.range items.size)).toArray = items.toList.reverse.toArray := by
  have h := HT.pick_gen items.toList.reverse.toArray 0 items.size
  have e : List.filterMap (fun k : Nat => items[((items.size : Int) - 1 + (k : Int) * -1).toNat]?) (List.range items.size) = List.filterMap (fun m : Nat => items.toList.reverse.toArray[(((0 : Nat) : Int) + (m : Int) * 1).toNat]?) (List.range items.size) := by
    refine filterMap_cg fun k hk => ?_
    have hk := List.mem_range.mp hk
    have e1 : ((items.size : Int) - 1 + (k : Int) * -1).toNat = items.size - 1 - k := by omega
    have e2 : (((0 : Nat) : Int) + (k : Int) * 1).toNat = k := by omega
    rw [e1, e2]
    rw [← Array.getElem?_toList, ← Array.getElem?_toList, List.toList_toArray]
    rw [List.getElem?_reverse (by simpa using hk)]
    simp
  rw [e, h, List.drop_zero, List.take_of_length_le (by simp)]
theorem getItem_tuple_rev {prog : Program} {w : World} {A : Around} {E : Value → Shared → Prop} {s : Shared} {t sl : Addr} {items : Array Value} {tk : Tok} {Q : Value → Shared → Prop} (ht : IsTup s.heap t items) (hs : s.heap.IsSliceOf sl .none .none (.int (-1) tk))
    (h : Q (.ref s.heap.objs.size) { s with heap := s.heap.push { cls := .type "tuple", data := .seq items.toList.reverse.toArray } }) (hsz : items.size ≤ sizeLine) : wpAny (model prog w) A (getItem (.ref t) (.ref sl)) Q E s := by
  have hTs : s.TypeIs (.ref sl) "slice" := by
    obtain ⟨os, hos, hcs, hds⟩ := hs
    exact ⟨os, hos, hcs⟩
  unfold getItem
  refine wpAny_holding (wpAny_bind (wpAny_sequenceKey (IsTup.typeIs ht) (by decide) (wpAny_bind (wpAny_callSpecial?_slot (IsTup.typeIs ht) slot_tuple_getitem (wpAny_call_entry slot_tuple_getitem (IsTup.typeIs ht) entry_tuple_getitem ?_ (args_tuple_getitem _ _))))))
  show wpAny (model prog w) A.in1 (Builtin.Tuple.tupleItemsOf (.ref t) >>= _) _ E s
  refine wpAny_bind (tupleItemsOf_ ht ?_)
  refine wpAny_bind (wpAny_typeOf hTs ?_)
  rw [if_pos (by decide)]
  refine wpAny_bind (applied_rev hs ?_)
  show wpAny (model prog w) A.in1 (if (((items.size : Int) - 1 == 0 && (-1 : Int) == 1 && items.size == items.size) = true) then _ else _) _ E s
  rw [if_neg (by simp)]
  show wpAny (model prog w) A.in1 (Builtin.Tuple.tupleExact (List.filterMap (fun k : Nat => items[((items.size : Int) - 1 + (k : Int) * -1).toNat]?) (List.range items.size)).toArray >>= _) _ E s
  rw [pick_rev]
  refine wpAny_bind ?_
  unfold Builtin.Tuple.tupleExact
  refine wpAny_newObj_type ?_ (by show items.toList.reverse.toArray.size ≤ sizeLine; simpa using hsz)
  exact wpAny_pure ⟨_, rfl, wpAny_pure h⟩

/-- [::-1] of a list or a tuple -/
def tRev2 (K : PySem.W.Frag) (te : TE) : TE := fun σ H Q => te σ H fun x H1 => ∃ a xs, x = V.ref a ∧ ((SqL K H1 a xs ∧ ∀ p, H1 p = none → Q (V.ref p) (upd H1 p (.lst xs.reverse))) ∨ (SqT K H1 a xs ∧ ∀ p, H1 p = none → Q (V.ref p) (upd H1 p (.tup xs.reverse))))
theorem pe_rev2 {X : Cx} {e : Expr} {te : TE} {k : Nat} {p1 p2 p3 pos : Pos} (he : PE X e te) : PE X (.Subscript e (.Slice none none (some (.UnaryOp .USub (.Constant (.int 1) k p1) p2)) p3) pos) (tRev2 X.K te) :=
  ⟨fun pins s σ H Q I h => Subscript_ (thn (he.run pins s σ H _ I h) fun v s1 ⟨x, H1, I1, r1, q1⟩ => by
    obtain ⟨a, xs, rfl, hx⟩ := q1
    cases r1
    have hst := po_some (pe_un (pos := p2) un_neg (pe_int (X := X) (i := 1) (j := k) (pos := p1)))
    refine wpAny_Slice (thn (po_none.run pins s1 σ H1 (fun o H2 => o = none ∧ H2 = H1) I1 ⟨rfl, rfl⟩) fun vl s2 ⟨l, H2, I2, pl, el, e2⟩ => ?_)
    subst el e2
    refine thn (po_none.run pins s2 σ H2 (fun o H3 => o = none ∧ H3 = H2) I2 ⟨rfl, rfl⟩) fun vu s3 ⟨u, H3, I3, pu, eu, e3⟩ => ?_
    subst eu e3
    refine thn (hst.run pins s3 σ H3 (fun o H4 => o = some (-1) ∧ H4 = H3) I3 ?_) fun vk s4 ⟨o, H4, I4, pk, eo, e4⟩ => ?_
    · exact ⟨1, rfl, -1, rfl, rfl, rfl⟩
    subst eo e4
    cases pl; cases pu; cases pk with
    | int _ tk =>
    have I5 := Inv.kept (t' := s4.toks) I4 fun b ob q => Heap.get?_push_of_some { cls := Value.type "slice", data := Data.fields #[Value.none, Value.none, Value.int (-1) tk] } q
    have hsl := Heap.IsSliceOf.new s4.heap Value.none Value.none (Value.int (-1) tk)
    rcases hx with ⟨hx, q⟩ | ⟨hx, q⟩
    · obtain ⟨its, r1, p1, hz⟩ := I5.list hx
      refine tail_any p1.isList.typeIs slot_list_getitem.lookup (wpAny_getItem_list_slice p1.isList hsl .none .none (.int (-1) tk) (by decide) ?_ (by rw [List.size_toArray, ← r1.length]; exact hz)) rfl
      rw [PySem.W.krv_pick]
      refine ⟨.ref _, upd H4 _ (.lst xs.reverse), I5.laid (fun b u q => Heap.get?_push_of_some _ q) (Nat.le_refl _) ?_, rfl, q _ (I5.hok.fresh (Nat.le_refl _))⟩
      exact ⟨by simpa using hz, its.reverse, _, r1.reverse, Heap.get?_push_size _ (by first | rfl | decide | simp)⟩
    · obtain ⟨its, r1, p1, hz⟩ := I5.tuple hx
      refine tail_any (IsTup.typeIs p1) slot_tuple_getitem.lookup (getItem_tuple_rev p1 hsl ?_ (by rw [List.size_toArray, ← r1.length]; exact hz)) rfl
      refine ⟨.ref _, upd H4 _ (.tup xs.reverse), I5.laid (fun b u q => Heap.get?_push_of_some _ q) (Nat.le_refl _) ?_, rfl, q _ (I5.hok.fresh (Nat.le_refl _))⟩
      exact ⟨by simpa using hz, its.reverse, r1.reverse, IsTup.new _ _⟩)⟩

def rev2W (a : W) (st : Store) : Res W := match a with
  | .tup ws => .ok (.tup ws.reverse) st
  | a => revW a st
section
variable {X : Cx} {ex : Option Exn} {Wx : WX} {pos : Pos} {e : Expr}
theorem ie_rev2 {m : D W} {kk : Nat} {p1 p2 p3 : Pos} (he : IE X ex Wx e m) : IE X ex Wx (.Subscript e (.Slice none none (some (.UnaryOp .USub (.Constant (.int 1) kk p1) p2)) p3) pos) (dUn rev2W m) :=
  PE.of (pe_rev2 he) fun σ H Q ⟨ρ, env, st, s, e, q⟩ => RG.bind s e q fun ρ1 H1 st1 a x g1 s1 e1 ra q1 => by
    unfold rev2W at q1
    split at q1
    · obtain ⟨a1, us, rfl, ht, rs⟩ := tup_of ra
      exact ⟨a1, us, rfl, .inr ⟨ht.sq, post_tup s1 rs.reverse q1⟩⟩
    · unfold revW at q1
      split at q1
      · rename_i ws hs
        obtain ⟨q2, us, rfl, hq, rs⟩ := lstW_of s1 ra hs
        exact ⟨q2, us, rfl, .inl ⟨hq, post_lst s1 rs.reverse q1⟩⟩
      · exact q1.elim
end
/-! ### a tuple, none or one time -/
theorem tup_exact {prog : Program} {w : World} {A : Around} {E : Value → Shared → Prop} {s : Shared} {l : Addr} {items : Array Value} {Q : Bool → Shared → Prop} (ht : IsTup s.heap l items) (h : Q true s) : wpAny (model prog w) A (Builtin.Tuple.tupleIsExact (.ref l)) Q E s := by
  unfold Builtin.Tuple.tupleIsExact
  refine wpAny_bind (wpAny_typeOf (IsTup.typeIs ht) ?_)
  exact wpAny_pure h
theorem as_index {prog : Program} {w : World} {A : Around} {E : Value → Shared → Prop} {s : Shared} {i : Int} {tk : Tok} {Q : Int → Shared → Prop} (h : Q i s) : wpAny (model prog w) A (asIndex (.int i tk)) Q E s := by
  unfold asIndex
  exact wpAny_pure h
theorem rule_ok {prog : Program} {w : World} {A : Around} {E : Value → Shared → Prop} {s : Shared} {x : String} {Q : Unit → Shared → Prop} (h : Q () s) : wpAny (model prog w) A (rule x) Q E s := by
  first | exact wpAny_rule h | exact PySem.wpAny_rule h | (unfold rule; exact wpAny_of_eq rfl h)
theorem tup_mul1 {prog : Program} {w : World} {A : Around} {E : Value → Shared → Prop} {s : Shared} {l : Addr} {items : Array Value} {tk : Tok} {Q : Value → Shared → Prop} (ht : IsTup s.heap l items) (h : Q (.ref l) s) : wpAny (model prog w) A (call (.builtin "tuple.__mul__") [.ref l, .int 1 tk]) Q E s := by
  refine wpAny_call_entry F.slot_tuple_mul (IsTup.typeIs ht) F.entry_tuple_mul ?_ (F.args_tuple_mul_2 _ _)
  show wpAny (model prog w) A.in1 (asIndex (.int 1 tk) >>= _) _ E s
  refine wpAny_bind (as_index ?_)
  simp only []
  rw [if_neg (by decide)]
  refine wpAny_bind (tupleItemsOf_ ht ?_)
  rw [if_pos (by simp)]
  refine wpAny_bind (tup_exact ht ?_)
  rw [if_pos rfl]
  refine wpAny_bind (rule_ok ?_)
  exact wpAny_pure ⟨_, rfl, h⟩
theorem tup_mul0 {prog : Program} {w : World} {A : Around} {E : Value → Shared → Prop} {s : Shared} {l : Addr} {items : Array Value} {tk : Tok} {Q : Value → Shared → Prop} (ht : IsTup s.heap l items) (hne : items.isEmpty = false) (h : Q (.ref s.heap.objs.size) { s with heap := s.heap.push { cls := .type "tuple", data := .seq #[] } }) : wpAny (model prog w) A (call (.builtin "tuple.__mul__") [.ref l, .int 0 tk]) Q E s := by
  refine wpAny_call_entry F.slot_tuple_mul (IsTup.typeIs ht) F.entry_tuple_mul ?_ (F.args_tuple_mul_2 _ _)
  show wpAny (model prog w) A.in1 (asIndex (.int 0 tk) >>= _) _ E s
  refine wpAny_bind (as_index ?_)
  simp only []
  rw [if_neg (by decide)]
  refine wpAny_bind (tupleItemsOf_ ht ?_)
  rw [if_neg (by rw [hne]; decide), if_pos (by simp)]
  unfold Builtin.Tuple.tupleExact
  refine wpAny_bind (wpAny_newObj_type ?_ (by show (#[] : Array Value).size ≤ sizeLine; decide))
  exact wpAny_pure ⟨_, rfl, h⟩

def rRep01 (K : PySem.W.Frag) : R2 := fun x y H Q => ∃ (l : Addr) (k : Int) (xs : List V), x = .ref l ∧ y = .int k ∧ SqT K H l xs ∧ xs ≠ [] ∧ ((k = 1 ∧ Q (.ref l) H) ∨ (k = 0 ∧ ∀ p, H p = none → Q (.ref p) (upd H p (.tup []))))
theorem op_rep01 {X : Cx} : OpR X (binaryOp .Mult) (rRep01 X.K) := by
  intro pins s σ H x y v u Q I rx ry h
  obtain ⟨l, k, xs, rfl, rfl, hT, hne, h⟩ := h
  cases rx
  obtain ⟨t, rfl⟩ := ry
  obtain ⟨its, r, ht, hs⟩ := I.tuple hT
  have ht' := ht
  obtain ⟨⟨cls, dd, data, sl⟩, ho, hc, n, hd⟩ := ht'
  simp only at hc hd
  subst hc hd
  refine wpAny_binaryOp_repeat_ref (T := "tuple") (U := "int") (by decide) (IsTup.typeIs ht) (fun s' => typeIs_int _ _ _) noFill_tuple_mul F.fills_int_mul F.slot_int_rmul repeat_tuple F.slot_int_index.lookup ?_
  refine call_meets F.slot_int_rmul (typeIs_int _ _ _) F.entry_int_rmul (F.args_int_rmul_2 _ _) (int_rmul_tuple k t l its.toArray n dd sl) ⟨ho, ?_⟩
  refine ⟨rfl, IsTup.typeIs ht, ?_⟩
  rcases h with ⟨rfl, q⟩ | ⟨rfl, q⟩
  · exact tup_mul1 ht ⟨.ref l, H, I, rfl, q⟩
  · refine tup_mul0 ht ?_ ⟨.ref _, upd H _ (.tup []), I.laid (fun b u q => Heap.get?_push_of_some _ q) (Nat.le_refl _) ⟨by simp, [], .nil, IsTup.new _ _⟩, rfl, q _ (I.hok.fresh (Nat.le_refl _))⟩
    cases its with
    | nil => cases r; exact absurd rfl hne
    | cons a l => rfl
def mulTW (a b : W) (st : Store) : Res W := match a, b with
  | .tup ws, .int k => if ws ≠ [] ∧ k = 1 then .ok (.tup ws) st else if ws ≠ [] ∧ k = 0 then .ok (.tup []) st else .stuck
  | _, _ => .stuck
section
variable {X : Cx} {ex : Option Exn} {Wx : WX} {a b : Expr} {ma mb : D W} {pos : Pos}
theorem mulT_ok : OpOk X (rRep01 X.K) mulTW := fun Wx ρ H st σ a b x y Q s ra rb p => by
  unfold mulTW at p
  split at p
  · rename_i ws k
    obtain ⟨d1, xs, rfl, ht, rs⟩ := tup_of ra
    have hn : ws ≠ [] → xs ≠ [] := fun h e => by
      have := VRs.length rs
      rw [e] at this
      exact h (List.eq_nil_of_length_eq_zero this)
    split at p
    · rename_i hk
      rw [int_of rb]
      obtain ⟨h1, rfl⟩ := hk
      exact ⟨d1, 1, xs, rfl, rfl, ht.sq, hn h1, .inl ⟨rfl, p.ok_ s (by simp only [VR]; exact ⟨d1, xs, rfl, ht, rs⟩)⟩⟩
    · split at p
      · rename_i hk
        rw [int_of rb]
        obtain ⟨h1, rfl⟩ := hk
        exact ⟨d1, 0, xs, rfl, rfl, ht.sq, hn h1, .inr ⟨rfl, post_tup s (by simp [VRs]) p⟩⟩
      · exact p.elim
  · exact p.elim
theorem ie_mulT (ha : IE X ex Wx a ma) (hb : IE X ex Wx b mb) : IE X ex Wx (.BinOp a .Mult b pos) (dOp mulTW ma mb) := ie_op op_rep01 mulT_ok ha hb
end
end
end MP
namespace MP
open PySem PySem.Spec PyProof.Rows L2
open Classical
noncomputable section
/-! ### how a denotation is worked out: each step by its own row, what comes later stays folded -/
def kOp1 (f : W → W → Store → Res W) (mb : D W) (env : EnvW) (a : W) (st : Store) : Res W := (mb env st).bind (f a)
def kIf (ma mb : D W) (env : EnvW) (b : Bool) (st : Store) : Res W := if b = true then ma env st else mb env st
def kCons1 (r : D (List W)) (env : EnvW) (a : W) (st : Store) : Res (List W) := (r env st).bind fun l st2 => .ok (a :: l) st2
def kTup (l : List W) (st : Store) : Res W := if l.length ≤ sizeLine then .ok (.tup l) st else .stuck
def kLst (l : List W) (st : Store) : Res W := if l.length ≤ sizeLine then .ok (.loc st.length) (st ++ [.lst l]) else .stuck
def kBool (a : W) (st : Store) : Res Bool := match a with
  | .bl b => .ok b st
  | _ => .stuck
def kAnd (b : D Bool) (env : EnvW) (c : Bool) (st : Store) : Res Bool := if c = true then b env st else .ok false st
def kOr (b : D Bool) (env : EnvW) (c : Bool) (st : Store) : Res Bool := if c = true then .ok true st else b env st
def kNot (c : Bool) (st : Store) : Res Bool := .ok (!c) st
def kAndV (b : D W) (env : EnvW) (x : W) (st : Store) : Res W := match x with
  | .bl c => if c = true then b env st else .ok (.bl false) st
  | _ => .stuck
def kOrV (b : D W) (env : EnvW) (x : W) (st : Store) : Res W := match x with
  | .bl c => if c = true then .ok (.bl true) st else b env st
  | _ => .stuck
def kNotV (x : W) (st : Store) : Res W := match x with
  | .bl c => .ok (.bl (!c)) st
  | _ => .stuck
def kCh1 (f g : W → W → Store → Res W) (mb mc : D W) (env : EnvW) (a : W) (st : Store) : Res W := (mb env st).bind fun b st2 => (f a b st2).bind fun x st3 => match x with
  | .bl true => (mc env st3).bind fun c st4 => g b c st4
  | .bl false => .ok (.bl false) st3
  | _ => .stuck
def kCall (n : Nat) (den : List W → Store → Res W) (l : List W) (st : Store) : Res W := if l.length = n then den l st else .stuck
def kBm (ty : W → Store → Bool) (g : W → List W → Store → Res W) (m : D (List W)) (env : EnvW) (a : W) (st : Store) : Res W := if ty a st = true then (m env st).bind (g a) else .stuck
def kSl1 (lo hi : D (Option Int)) (env : EnvW) (a : W) (st : Store) : Res W := (lo env st).bind fun l st2 => (hi env st2).bind fun h st3 => slW a l h st3
def kPart (a : W) (st : Store) : Res (Option Int) := match a with
  | .int i => .ok (some i) st
  | _ => .stuck
def kLc (env : EnvW) (t : DT) (c : D Bool) (e : D W) (it : ItW) (st : Store) : Res W := match lcW it.Chk env t c e it.items [] st with
  | some (acc, st2) => .ok (.loc st2.length) (st2 ++ [.lst acc])
  | none => .stuck
def kR1 (l : List W) (st : Store) : Res ItW := match l with
  | [.int j] => rangeW 0 j st
  | _ => .stuck
def kR2 (l : List W) (st : Store) : Res ItW := match l with
  | [.int i, .int j] => rangeW i j st
  | _ => .stuck
section
variable {α β : Type} {f g : W → W → Store → Res W} {ma mb mc : D W} {r : D (List W)} {env : EnvW} {st st1 : Store} {a b : W}
@[simp] theorem dC_ap (w : W) : dC w env st = .ok w st := rfl
@[simp] theorem dExc_ap (w : W) : dExc w env st = .ok w st := rfl
@[simp] theorem dVar_ap (i : Nat) : dVar i env st = (match env[i]? with | some (some w) => .ok w st | _ => .stuck) := rfl
@[simp] theorem dOp_ap : dOp f ma mb env st = (ma env st).bind (kOp1 f mb env) := rfl
@[simp] theorem kOp1_ap : kOp1 f mb env a st = (mb env st).bind (f a) := rfl
@[simp] theorem dUn_ap (u : W → Store → Res W) : dUn u ma env st = (ma env st).bind u := rfl
@[simp] theorem dIf_ap (c : D Bool) : dIf c ma mb env st = (c env st).bind (kIf ma mb env) := rfl
@[simp] theorem kIf_t : kIf ma mb env true st = ma env st := rfl
@[simp] theorem kIf_f : kIf ma mb env false st = mb env st := rfl
@[simp] theorem dNil_ap : dNil env st = .ok [] st := rfl
@[simp] theorem dCons_ap : dCons ma r env st = (ma env st).bind (kCons1 r env) := rfl
def kCons2 (a : W) (l : List W) (st : Store) : Res (List W) := .ok (a :: l) st
@[simp] theorem kCons1_ap : kCons1 r env a st = (r env st).bind (kCons2 a) := rfl
@[simp] theorem kCons2_ap (l : List W) : kCons2 a l st = .ok (a :: l) st := rfl
@[simp] theorem dTup_ap : dTup r env st = (r env st).bind kTup := rfl
@[simp] theorem dLst_ap : dLst r env st = (r env st).bind kLst := rfl
theorem kTup_ok {l : List W} (h : l.length ≤ sizeLine) : kTup l st = .ok (.tup l) st := if_pos h
theorem kLst_ok {l : List W} (h : l.length ≤ sizeLine) : kLst l st = .ok (.loc st.length) (st ++ [.lst l]) := if_pos h
@[simp] theorem dApp_ap (m : List W → Store → Res W) : dApp m r env st = (r env st).bind m := rfl
@[simp] theorem dBool_ap : dBool ma env st = (ma env st).bind kBool := rfl
@[simp] theorem kBool_ap (c : Bool) : kBool (.bl c) st = .ok c st := rfl
@[simp] theorem dAnd_ap (x y : D Bool) : dAnd x y env st = (x env st).bind (kAnd y env) := rfl
@[simp] theorem kAnd_t (y : D Bool) : kAnd y env true st = y env st := rfl
@[simp] theorem kAnd_f (y : D Bool) : kAnd y env false st = .ok false st := rfl
@[simp] theorem dOr_ap (x y : D Bool) : dOr x y env st = (x env st).bind (kOr y env) := rfl
@[simp] theorem kOr_t (y : D Bool) : kOr y env true st = .ok true st := rfl
@[simp] theorem kOr_f (y : D Bool) : kOr y env false st = y env st := rfl
@[simp] theorem dNot_ap (x : D Bool) : dNot x env st = (x env st).bind kNot := rfl
@[simp] theorem kNot_ap (c : Bool) : kNot c st = .ok (!c) st := rfl
@[simp] theorem dAndV_ap : dAndV ma mb env st = (ma env st).bind (kAndV mb env) := rfl
@[simp] theorem kAndV_t : kAndV mb env (.bl true) st = mb env st := rfl
@[simp] theorem kAndV_f : kAndV mb env (.bl false) st = .ok (.bl false) st := rfl
@[simp] theorem dOrV_ap : dOrV ma mb env st = (ma env st).bind (kOrV mb env) := rfl
@[simp] theorem kOrV_t : kOrV mb env (.bl true) st = .ok (.bl true) st := rfl
@[simp] theorem kOrV_f : kOrV mb env (.bl false) st = mb env st := rfl
@[simp] theorem dNotV_ap : dNotV ma env st = (ma env st).bind kNotV := rfl
@[simp] theorem kNotV_ap (c : Bool) : kNotV (.bl c) st = .ok (.bl (!c)) st := rfl
@[simp] theorem dChain_ap : dChain f g ma mb mc env st = (ma env st).bind (kCh1 f g mb mc env) := rfl
def kCh2 (f g : W → W → Store → Res W) (mc : D W) (env : EnvW) (a b : W) (st : Store) : Res W := (f a b st).bind fun x st3 => match x with
  | .bl true => (mc env st3).bind fun c st4 => g b c st4
  | .bl false => .ok (.bl false) st3
  | _ => .stuck
def kCh3 (g : W → W → Store → Res W) (mc : D W) (env : EnvW) (b x : W) (st3 : Store) : Res W := match x with
  | .bl true => (mc env st3).bind fun c st4 => g b c st4
  | .bl false => .ok (.bl false) st3
  | _ => .stuck
@[simp] theorem kCh1_ap : kCh1 f g mb mc env a st = (mb env st).bind (kCh2 f g mc env a) := rfl
@[simp] theorem kCh2_ap : kCh2 f g mc env a b st = (f a b st).bind (kCh3 g mc env b) := rfl
@[simp] theorem kCh3_t : kCh3 g mc env b (.bl true) st = (mc env st).bind (g b) := rfl
@[simp] theorem kCh3_f : kCh3 g mc env b (.bl false) st = .ok (.bl false) st := rfl
@[simp] theorem dCall_ap (n : Nat) (den : List W → Store → Res W) : dCall n den r env st = (r env st).bind (kCall n den) := rfl
@[simp] theorem kCall_1 (den : List W → Store → Res W) : kCall 1 den [a] st = den [a] st := rfl
@[simp] theorem kCall_2 (den : List W → Store → Res W) : kCall 2 den [a, b] st = den [a, b] st := rfl
@[simp] theorem dBm_ap (ty : W → Store → Bool) (m : W → List W → Store → Res W) : dBm ty m ma r env st = (ma env st).bind (kBm ty m r env) := rfl
@[simp] theorem kBm_s (m : W → List W → Store → Res W) (x : Str) : kBm tyS m r env (.str x) st = (r env st).bind (m (.str x)) := rfl
theorem kBm_l (m : W → List W → Store → Res W) {n : Nat} {ws : List W} (h : st[n]? = some (.lst ws)) : kBm tyL m r env (.loc n) st = (r env st).bind (m (.loc n)) := by
  unfold kBm tyL; simp only [h, Option.isSome_some, if_true]
@[simp] theorem dSl_ap (lo hi : D (Option Int)) : dSl ma lo hi env st = (ma env st).bind (kSl1 lo hi env) := rfl
def kSl2 (hi : D (Option Int)) (env : EnvW) (a : W) (l : Option Int) (st : Store) : Res W := (hi env st).bind fun h st3 => slW a l h st3
@[simp] theorem kSl1_ap (lo hi : D (Option Int)) : kSl1 lo hi env a st = (lo env st).bind (kSl2 hi env a) := rfl
@[simp] theorem kSl2_ap (hi : D (Option Int)) (l : Option Int) : kSl2 hi env a l st = (hi env st).bind (slW a l) := rfl
@[simp] theorem dNoPart_ap : dNoPart env st = .ok none st := rfl
@[simp] theorem dPart_ap : dPart ma env st = (ma env st).bind kPart := rfl
@[simp] theorem kPart_ap (i : Int) : kPart (.int i) st = .ok (some i) st := rfl
@[simp] theorem dIt_ap : dIt ma env st = (ma env st).bind itOf := rfl
@[simp] theorem dLc_ap (m : D ItW) (vs : List Nat) (t : DT) (c : D Bool) (e : D W) : dLc m vs t c e env st = (m env st).bind (kLc (wipeW env vs) t c e) := rfl
@[simp] theorem dRange1_ap : dRange1 r env st = (r env st).bind kR1 := by
  unfold dRange1 dRange
  dsimp only
  cases h : r env st with
  | ok l st1 =>
    simp only [Res.bind_ok]
    unfold kR1
    split
    · rfl
    · rename_i hx
      simp only [Res.bind_stuck]
      try (split; · exact (hx _ rfl).elim; · rfl)
  | err => rfl
  | stuck => rfl
@[simp] theorem dRange2_ap : dRange2 r env st = (r env st).bind kR2 := by
  unfold dRange2 dRange
  dsimp only
  cases h : r env st with
  | ok l st1 =>
    simp only [Res.bind_ok]
    unfold kR2
    split
    · rfl
    · rename_i hx
      simp only [Res.bind_stuck]
      try (split; · exact (hx _ _ rfl).elim; · rfl)
  | err => rfl
  | stuck => rfl
theorem kR1_ok {j : Int} (h : -(2 ^ 62) ≤ j) (h' : j < 2 ^ 62) : kR1 [.int j] st = .ok ⟨intsW 0 j.toNat, none⟩ st := by
  show rangeW 0 j st = _
  unfold rangeW
  rw [if_pos ⟨by decide, by decide, h, h'⟩, Int.sub_zero]
theorem kR2_ok {i j : Int} (h0 : 0 ≤ i) (h1 : i < 2 ^ 62) (h : 0 ≤ j) (h' : j < 2 ^ 62) : kR2 [.int i, .int j] st = .ok ⟨intsW i (j - i).toNat, none⟩ st := by
  show rangeW i j st = _
  unfold rangeW
  rw [if_pos ⟨by omega, h1, by omega, h'⟩]
@[simp] theorem itOf_tup (ws : List W) : itOf (.tup ws) st = .ok ⟨ws, none⟩ st := rfl
@[simp] theorem itOf_fro (ws : List W) : itOf (.fro ws) st = .ok ⟨ws, none⟩ st := rfl
@[simp] theorem itOf_str (x : Str) : itOf (.str x) st = .ok ⟨signs x, none⟩ st := rfl
theorem itOf_loc {n : Nat} {ws : List W} (h : st[n]? = some (.lst ws)) : itOf (.loc n) st = .ok ⟨ws, some n⟩ st := by
  unfold itOf; simp only [h]
end
/-! statements -/
def kExpr (env : EnvW) (_ : W) (st : Store) : RsS := .go .nx env st
def kRet (env : EnvW) (a : W) (st : Store) : RsS := .go (.rt a) env st
def kSIf (a b : DS) (env : EnvW) (k : Bool) (st : Store) : RsS := if k = true then a env st else b env st
def kAsg (t : DT) (env : EnvW) (a : W) (st : Store) : RsS := match t a env st with
  | some (env', st2) => .go .nx env' st2
  | none => .stuck
def kFor (t : DT) (b : DS) (env : EnvW) (it : ItW) (st : Store) : RsS := forW it.Chk t b it.items env st
def kRaise (x : Str) (env : EnvW) (l : List W) (st : Store) : RsS := match l with
  | [w] => .err x w env st
  | _ => .stuck
def kTry (i : Nat) (sub : Str → Option Bool) (su : Str → W → DS) : RsS → RsS
  | .err c w env1 st1 => match sub c with
    | some true => if i < env1.length then unAt i (su c w (env1.set i none) st1) else .stuck
    | some false => .err c w env1 st1
    | none => .stuck
  | r => r
section
variable {env : EnvW} {st st1 : Store} {m : D W} {a b : DS}
@[simp] theorem sSeq_ap : sSeq a b env st = (a env st).next b := rfl
@[simp] theorem RsS.next_er (c : Str) (w : W) (k) : (RsS.err c w env st).next k = .err c w env st := rfl
@[simp] theorem sNil_ap : sNil env st = .go .nx env st := rfl
@[simp] theorem sExpr_ap : sExpr m env st = (m env st).then env (kExpr env) := rfl
@[simp] theorem kExpr_ap (w : W) : kExpr env w st = .go .nx env st := rfl
@[simp] theorem sRet_ap : sRet m env st = (m env st).then env (kRet env) := rfl
@[simp] theorem kRet_ap (w : W) : kRet env w st = .go (.rt w) env st := rfl
@[simp] theorem sIf_ap (c : D Bool) : sIf c a b env st = (c env st).then env (kSIf a b env) := rfl
@[simp] theorem kSIf_t : kSIf a b env true st = a env st := rfl
@[simp] theorem kSIf_f : kSIf a b env false st = b env st := rfl
@[simp] theorem sAsg_ap (t : DT) : sAsg m t env st = (m env st).then env (kAsg t env) := rfl
@[simp] theorem kAsg_n (i : Nat) (w : W) : kAsg (tName i) env w st = .go .nx (env.set i (some w)) st := rfl
@[simp] theorem tName_ap (i : Nat) (w : W) : tName i w env st = some (env.set i (some w), st) := rfl
@[simp] theorem sFor_ap (m : D ItW) (t : DT) : sFor m t b env st = (m env st).then env (kFor t b env) := rfl
@[simp] theorem sRaise_ap (x : Str) (m : D (List W)) : sRaise x m env st = (m env st).then env (kRaise x env) := rfl
@[simp] theorem kRaise_ap (x : Str) (w : W) : kRaise x env [w] st = .err x w env st := rfl
@[simp] theorem sTryAs_ap (i : Nat) (sub : Str → Option Bool) (su : Str → W → DS) : sTryAs i b sub su env st = kTry i sub su (b env st) := by
  unfold sTryAs kTry
  cases b env st <;> rfl
@[simp] theorem kTry_go (i : Nat) (sub : Str → Option Bool) (su : Str → W → DS) (f : Fl) : kTry i sub su (.go f env st) = .go f env st := rfl
theorem kTry_err {i : Nat} {sub : Str → Option Bool} {su : Str → W → DS} {c : Str} {w : W} (h : sub c = some true) (hi : i < env.length) : kTry i sub su (.err c w env st) = unAt i (su c w (env.set i none) st) := by
  unfold kTry; simp only [h, if_pos hi]
@[simp] theorem unAt_go (i : Nat) (f : Fl) : unAt i (.go f env st) = .go f (env.set i none) st := rfl
/-! a def's end -/
def fnR (st0 : Store) : RsS → Res W
  | .go (.rt v) _ st' => gc st0 v st'
  | .go .nx _ st' => gc st0 .non st'
  | .err c w _ st' => .err c w st'
  | _ => .stuck
theorem fnDen_ap (k : Nat) (ws : List W) : fnDen k b ws st = fnR st (b (ws.map some ++ List.replicate (k - ws.length) none) st) := by
  unfold fnDen fnR
  split <;> rename_i h <;> simp only [h]
@[simp] theorem fnR_rt (v : W) : fnR st1 (.go (.rt v) env st) = gc st1 v st := rfl
@[simp] theorem fnR_nx : fnR st1 (.go .nx env st) = gc st1 .non st := rfl
@[simp] theorem fnR_err (c : Str) (w : W) : fnR st1 (.err c w env st) = .err c w st := rfl
end
/-! stores -/
/-- later, but for the list at p: what was there is there -/
structure Ext (p : Nat) (st st' : Store) : Prop where
  le : st.length ≤ st'.length
  keep : ∀ i, i < st.length → i ≠ p → st'[i]? = st[i]?
/-- the same, and nothing new -/
structure Kp (p : Nat) (st st' : Store) : Prop where
  len : st'.length = st.length
  keep : ∀ i, i ≠ p → st'[i]? = st[i]?
theorem Kp.ext {p : Nat} {st st' : Store} (h : Kp p st st') : Ext p st st' := ⟨by rw [h.len]; exact Nat.le_refl _, fun i _ hp => h.keep i hp⟩
theorem Ext.refl {p : Nat} {st : Store} : Ext p st st := ⟨Nat.le_refl _, fun _ _ _ => rfl⟩
theorem Kp.refl {p : Nat} {st : Store} : Kp p st st := ⟨rfl, fun _ _ => rfl⟩
theorem Ext.trans {p : Nat} {a b c : Store} (h : Ext p a b) (h' : Ext p b c) : Ext p a c :=
  ⟨Nat.le_trans h.le h'.le, fun i hi hp => (h'.keep i (Nat.lt_of_lt_of_le hi h.le) hp).trans (h.keep i hi hp)⟩
theorem Kp.trans {p : Nat} {a b c : Store} (h : Kp p a b) (h' : Kp p b c) : Kp p a c :=
  ⟨h'.len.trans h.len, fun i hp => (h'.keep i hp).trans (h.keep i hp)⟩
theorem Ext.app {p : Nat} {st : Store} (g : Store) : Ext p st (st ++ g) := ⟨by simp, fun i hi _ => List.getElem?_append_left hi⟩
theorem Ext.get {p i : Nat} {o : Ob} {st st' : Store} (h : Ext p st st') (e : st[i]? = some o) (hp : i ≠ p) : st'[i]? = some o := by
  rw [h.keep i (List.getElem?_eq_some_iff.mp e).1 hp, e]
theorem get_app {i : Nat} {o : Ob} {st : Store} (g : Store) (e : st[i]? = some o) : (st ++ g)[i]? = some o := by
  rw [List.getElem?_append_left (List.getElem?_eq_some_iff.mp e).1, e]
@[simp] theorem get_here (st : Store) (o : Ob) (g : Store) : (st ++ o :: g)[st.length]? = some o := by simp
@[simp] theorem get_here1 (st : Store) (o o1 : Ob) (g : Store) : (st ++ o :: o1 :: g)[st.length + 1]? = some o1 := by simp
@[simp] theorem get_here2 (st : Store) (o o1 o2 : Ob) (g : Store) : (st ++ o :: o1 :: o2 :: g)[st.length + 2]? = some o2 := by simp
/-- a list whose items need no store -/
def flatO : Ob → Prop | .lst ws => ∀ n, clBs n ws = true
theorem flatO.cl {o : Ob} (h : flatO o) (n : Nat) : clO n o = true := by
  cases o with
  | lst ws => exact h n
theorem gcx_ok {p : Nat} {st st' : Store} {v : W} (h : Ext p st st') (hp : ∀ o, p < st.length → st'[p]? = some o → flatO o) (hv : clB st.length v = true) : gc st v st' = .ok v (st'.take st.length) := by
  have g : GcOk st st' := fun i hi => by
    by_cases e : i = p
    · subst e
      have hl : i < st'.length := Nat.lt_of_lt_of_le hi h.le
      exact .inr ⟨st'[i], List.getElem?_eq_getElem hl, (hp _ hi (List.getElem?_eq_getElem hl)).cl _⟩
    · exact .inl (h.keep i hi e)
  unfold gc; rw [if_pos g, if_pos hv]
theorem Ext.take {p : Nat} {st st' : Store} (h : Ext p st st') : Kp p st (st'.take st.length) :=
  ⟨by simp [h.le], fun i hp => by
    rw [List.getElem?_take]
    split
    · rename_i hi; exact h.keep i hi hp
    · rename_i hi; rw [List.getElem?_eq_none (Nat.le_of_not_lt hi)]⟩
theorem gc_app {st g : Store} {v : W} (hv : clB st.length v = true) : gc st v (st ++ g) = .ok v st := by
  have e : GcOk st (st ++ g) := fun i hi => .inl (List.getElem?_append_left hi)
  unfold gc; rw [if_pos e, if_pos hv, List.take_left]
theorem gc_same {st : Store} {v : W} (hv : clB st.length v = true) : gc st v st = .ok v st := by
  have := gc_app (g := []) hv; rwa [List.append_nil] at this
theorem gc_new {p m : Nat} {st st' : Store} {ws : List W} (h : Ext p st st') (hp : ∀ o, p < st.length → st'[p]? = some o → flatO o) (hm : st.length ≤ m) (e : st'[m]? = some (.lst ws)) (hw : clBs st.length ws = true) : gc st (.loc m) st' = .ok (.loc st.length) (st'.take st.length ++ [.lst ws]) := by
  have g : GcOk st st' := fun i hi => by
    by_cases e : i = p
    · subst e
      have hl : i < st'.length := Nat.lt_of_lt_of_le hi h.le
      exact .inr ⟨st'[i], List.getElem?_eq_getElem hl, (hp _ hi (List.getElem?_eq_getElem hl)).cl _⟩
    · exact .inl (h.keep i hi e)
  have hv : ¬ clB st.length (.loc m) = true := by simp [clB]; omega
  unfold gc; rw [if_pos g, if_neg hv]
  simp only [e, if_pos hw]
theorem gc_newA {m : Nat} {st g : Store} {ws : List W} (hm : st.length ≤ m) (e : (st ++ g)[m]? = some (.lst ws)) (hw : clBs st.length ws = true) : gc st (.loc m) (st ++ g) = .ok (.loc st.length) (st ++ [.lst ws]) := by
  have := gc_new (p := st.length) (Ext.app g) (fun o h _ => absurd h (Nat.lt_irrefl _)) hm e hw
  rwa [List.take_left] at this
/-! loops -/
theorem forW_ok {chk : Store → Prop} {t : DT} {b : DS} (I : Nat → EnvW → Store → Prop) (hc : ∀ i env st, I i env st → chk st) : ∀ (ws : List W) (k : Nat) (env : EnvW) (st : Store),
    (∀ i w env st, ws[i]? = some w → I (k + i) env st → ∃ env1 st1 env2 st2, t w env st = some (env1, st1) ∧ b env1 st1 = .go .nx env2 st2 ∧ I (k + i + 1) env2 st2) → I k env st →
    ∃ env' st', forW chk t b ws env st = .go .nx env' st' ∧ I (k + ws.length) env' st'
  | [], k, env, st, _, h => ⟨env, st, by unfold forW; rw [if_pos (hc _ _ _ h)], h⟩
  | w :: ws, k, env, st, hs, h => by
    obtain ⟨env1, st1, env2, st2, e1, e2, h2⟩ := hs 0 w env st rfl h
    obtain ⟨env', st', e3, h3⟩ := forW_ok I hc ws (k + 1) env2 st2 (fun i w env st hw hI => by
      have := hs (i + 1) w env st (by simpa using hw) (by rwa [show k + (i + 1) = k + 1 + i by omega])
      rwa [show k + (i + 1) + 1 = k + 1 + i + 1 by omega] at this) h2
    refine ⟨env', st', ?_, ?_⟩
    · unfold forW
      rw [if_pos (hc _ _ _ h), e1]
      dsimp only
      rw [e2]; exact e3
    · rw [List.length_cons, show k + (ws.length + 1) = k + 1 + ws.length by omega]; exact h3
theorem lcW_ok {chk : Store → Prop} {env : EnvW} {t : DT} {e : D W} (J : Nat → List W → Store → Prop) (hc : ∀ i acc st, J i acc st → chk st) : ∀ (ws acc : List W) (st : Store),
    (∀ i w acc st, ws[i]? = some w → acc.length + ws.length ≤ acc.length + ws.length → J i acc st → ∃ env1 st1 y st3, t w env st = some (env1, st1) ∧ e env1 st1 = .ok y st3 ∧ J (i + 1) (acc ++ [y]) st3) → acc.length + ws.length ≤ sizeLine → J 0 acc st →
    ∃ l st', lcW chk env t dYes e ws acc st = some (acc ++ l, st') ∧ l.length = ws.length ∧ J ws.length (acc ++ l) st'
  | [], acc, st, _, _, h => ⟨[], st, by unfold lcW; rw [if_pos (hc _ _ _ h), List.append_nil], rfl, by simpa using h⟩
  | w :: ws, acc, st, hs, hl, h => by
    obtain ⟨env1, st1, y, st3, e1, e2, h2⟩ := hs 0 w acc st rfl (Nat.le_refl _) h
    simp only [List.length_cons] at hl
    obtain ⟨l, st', e3, hn, h3⟩ := lcW_ok (fun i => J (i + 1)) (fun i => hc (i + 1)) ws (acc ++ [y]) st3 (fun i w acc st hw _ hI => hs (i + 1) w acc st (by simpa using hw) (Nat.le_refl _) hI) (by simp; omega) h2
    refine ⟨y :: l, st', ?_, by simp [hn], ?_⟩
    · unfold lcW
      rw [if_pos (hc _ _ _ h), e1]
      dsimp only [dYes]
      rw [e2]
      dsimp only
      rw [if_pos (by omega), e3]; simp
    · simpa using h3
/-- each item by itself: the store stays -/
theorem lcW_map {chk : Store → Prop} {env : EnvW} {i : Nat} {e : D W} {st : Store} (f : W → W) (hc : chk st) {ws : List W} (hs : ∀ w ∈ ws, e (env.set i (some w)) st = .ok (f w) st) (hl : ws.length ≤ sizeLine) :
    lcW chk env (tName i) dYes e ws [] st = some (ws.map f, st) := by
  have key : ∀ (ws acc : List W), (∀ w ∈ ws, e (env.set i (some w)) st = .ok (f w) st) → acc.length + ws.length ≤ sizeLine → lcW chk env (tName i) dYes e ws acc st = some (acc ++ ws.map f, st) := by
    intro ws
    induction ws with
    | nil => intro acc _ _; unfold lcW; rw [if_pos hc]; simp
    | cons w ws ih =>
      intro acc hs hl
      simp only [List.length_cons] at hl
      unfold lcW
      rw [if_pos hc]
      dsimp only [tName, dYes]
      rw [hs w List.mem_cons_self]
      dsimp only
      rw [if_pos (by omega), ih (acc ++ [f w]) (fun w m => hs w (List.mem_cons_of_mem _ m)) (by simp; omega)]
      simp
  have := key ws [] hs (by simpa using hl)
  simpa using this
theorem kLc_map {env : EnvW} {i : Nat} {e : D W} {st : Store} {it : ItW} (f : W → W) (hc : it.Chk st) (hs : ∀ w ∈ it.items, e (env.set i (some w)) st = .ok (f w) st) (hl : it.items.length ≤ sizeLine) :
    kLc env (tName i) dYes e it st = .ok (.loc st.length) (st ++ [.lst (it.items.map f)]) := by
  unfold kLc; rw [lcW_map f hc hs hl]
theorem kLc_ok {env : EnvW} {i : Nat} {e : D W} {st : Store} {ws : List W} (J : Nat → List W → Store → Prop)
    (hs : ∀ k w acc st, ws[k]? = some w → J k acc st → ∃ y st3, e (env.set i (some w)) st = .ok y st3 ∧ J (k + 1) (acc ++ [y]) st3) (hl : ws.length ≤ sizeLine) (h : J 0 [] st) :
    ∃ l st', kLc env (tName i) dYes e ⟨ws, none⟩ st = .ok (.loc st'.length) (st' ++ [.lst l]) ∧ l.length = ws.length ∧ J ws.length l st' := by
  obtain ⟨l, st', e1, hn, h1⟩ := lcW_ok (chk := (ItW.mk ws none).Chk) (env := env) (t := tName i) (e := e) J (fun _ _ _ _ => by simp) ws [] st (fun k w acc st hw _ hJ => by
    obtain ⟨y, st3, e2, h2⟩ := hs k w acc st hw hJ
    exact ⟨_, _, y, st3, rfl, e2, h2⟩) (by simpa using hl) h
  refine ⟨l, st', ?_, hn, by simpa using h1⟩
  unfold kLc
  simp only [List.nil_append] at e1
  rw [e1]
theorem allO_of {α β : Type} (f : α → Option β) (g : α → β) : ∀ (l : List α), (∀ a ∈ l, f a = some (g a)) → allO (l.map f) = some (l.map g)
  | [], _ => rfl
  | a :: l, h => by
    show allO (f a :: l.map f) = _
    rw [h a List.mem_cons_self]
    show (allO (l.map f)).map _ = _
    rw [allO_of f g l (fun a m => h a (List.mem_cons_of_mem _ m))]; rfl
theorem allW_ok {st : Store} {n : Nat} {bs : List Bool} (h : st[n]? = some (.lst (bs.map W.bl))) : allW [.loc n] st = .ok (.bl (bs.all id)) st := by
  unfold allW bls lstW
  simp only [h, Option.bind_some, List.map_map]
  have e : allO (bs.map (blOf ∘ W.bl)) = some (bs.map id) := allO_of _ id _ fun _ _ => rfl
  rw [e]
  simp
end
end MP
namespace MP
open PySem PySem.Spec PyProof.Rows L2
open Classical
noncomputable section
/-! ### values without a store -/
def okS (x : Str) : Bool := decide (x.length ≤ 8192) && x.cps.toList.all (fun c => decide (c < 128))
theorem okS_iff {x : Str} : okS x = true ↔ x.length ≤ 8192 ∧ ∀ c ∈ x.cps.toList, c < 128 := by
  unfold okS; rw [Bool.and_eq_true, decide_eq_true_iff, List.all_eq_true]; simp only [decide_eq_true_eq]
theorem okS.ok {x : Str} (h : okS x = true) : PyData.strOk x = true := by
  obtain ⟨_, h⟩ := okS_iff.mp h
  unfold PyData.strOk
  rw [Array.all_eq_true]
  intro i hi
  have := h x.cps[i] (by simp)
  simp; omega
theorem okS.len {x : Str} (h : okS x = true) : x.length ≤ 8192 := (okS_iff.mp h).1
theorem okS.line {x : Str} (h : okS x = true) : x.length ≤ sizeLine := Nat.le_trans (okS_iff.mp h).1 (by decide)
def puB : Nat → W → Bool
  | 0, _ => false
  | n + 1, w => match w with
    | .non => true
    | .bl _ => true
    | .int _ => true
    | .str x => okS x
    | .tup ws => decide (ws.length ≤ 8192) && ws.all (puB n)
    | _ => false
def dat : Nat → W → PyData
  | 0, _ => .none
  | n + 1, w => match w with
    | .non => .none
    | .bl b => .bool b
    | .int i => .int i
    | .str x => .str x
    | .tup ws => .tuple (ws.map (dat n))
    | _ => .none
theorem datF_pu : ∀ (n : Nat) (w : W), puB n w = true → ∀ (m : Nat) (st : Store), n ≤ m → datF st m w = some (dat n w)
  | 0, _, h, _, _, _ => by simp [puB] at h
  | n + 1, w, h, 0, st, hm => by omega
  | n + 1, w, h, m + 1, st, hm => by
    cases w with
    | non => rfl
    | bl => rfl
    | int => rfl
    | str => rfl
    | tup ws =>
      simp only [puB, Bool.and_eq_true, List.all_eq_true] at h
      simp only [datF, dat]
      rw [allO_of _ (dat n) ws fun a ha => datF_pu n a (h.2 a ha) m st (by omega)]; rfl
    | fro ws => simp [puB] at h
    | loc k => simp [puB] at h
    | gl v => simp [puB] at h
    | rng i j => simp [puB] at h
theorem canAll {f : W → PyData} : ∀ {ws : List W}, (∀ w ∈ ws, (f w).canLay0 = true) → PyData.canLayAll0 (ws.map f) = true
  | [], _ => rfl
  | w :: ws, h => by
    rw [List.map_cons, PyData.canLayAll0.eq_2, h w List.mem_cons_self, canAll fun w m => h w (List.mem_cons_of_mem _ m)]; rfl
theorem depAll {f : W → PyData} {n : Nat} : ∀ {ws : List W}, (∀ w ∈ ws, (f w).depth ≤ n) → PyData.depthAll (ws.map f) ≤ n
  | [], _ => Nat.zero_le _
  | w :: ws, h => by
    rw [List.map_cons, PyData.depthAll.eq_2]
    exact Nat.max_le.mpr ⟨h w List.mem_cons_self, depAll fun w m => h w (List.mem_cons_of_mem _ m)⟩
theorem eqvAll_refl {f : W → PyData} : ∀ {ws : List W}, (∀ w ∈ ws, (f w).eqv (f w) = true) → PyData.eqvAll (ws.map f) (ws.map f) = true
  | [], _ => rfl
  | w :: ws, h => by
    rw [List.map_cons, PyData.eqvAll.eq_2, h w List.mem_cons_self, eqvAll_refl fun w m => h w (List.mem_cons_of_mem _ m)]; rfl
theorem can_pu : ∀ (n : Nat) (w : W), puB n w = true → (dat n w).canLay0 = true
  | 0, _, h => by simp [puB] at h
  | n + 1, w, h => by
    cases w with
    | str x => exact okS.ok h
    | tup ws =>
      simp only [puB, Bool.and_eq_true, List.all_eq_true] at h
      exact canAll fun a ha => can_pu n a (h.2 a ha)
    | _ => rfl
theorem dep_pu : ∀ (n : Nat) (w : W), puB n w = true → (dat n w).depth ≤ n
  | 0, _, h => by simp [puB] at h
  | n + 1, w, h => by
    cases w with
    | tup ws =>
      simp only [puB, Bool.and_eq_true, List.all_eq_true] at h
      simp only [dat]
      rw [PyData.depth.eq_2]
      exact Nat.succ_le_succ (depAll fun a ha => dep_pu n a (h.2 a ha))
    | _ => exact Nat.zero_le _
theorem eqv_pu : ∀ (n : Nat) (w : W), puB n w = true → (dat n w).eqv (dat n w) = true
  | 0, _, h => by simp [puB] at h
  | n + 1, w, h => by
    cases w with
    | tup ws =>
      simp only [puB, Bool.and_eq_true, List.all_eq_true] at h
      simp only [dat]
      rw [PyData.eqv.eq_8]
      exact eqvAll_refl fun a ha => eqv_pu n a (h.2 a ha)
    | bl b => simp only [dat]; rw [PyData.eqv.eq_2]; simp
    | int b => simp only [dat]; rw [PyData.eqv.eq_5]; simp
    | str b => simp only [dat]; rw [PyData.eqv.eq_6]; simp
    | non => rfl
    | _ => simp [puB] at h
mutual
theorem cl_pu (k : Nat) : ∀ (n : Nat) (w : W), puB n w = true → clB k w = true
  | 0, _, h => by simp [puB] at h
  | n + 1, w, h => by
    cases w with
    | tup ws =>
      simp only [puB, Bool.and_eq_true, List.all_eq_true] at h
      simp only [clB]
      exact cls_pu k n ws h.2
    | _ => first | rfl | simp [puB] at h
theorem cls_pu (k : Nat) : ∀ (n : Nat) (ws : List W), (∀ w ∈ ws, puB n w = true) → clBs k ws = true
  | n, [], _ => rfl
  | n, w :: ws, h => by
    simp only [clBs, Bool.and_eq_true]
    exact ⟨cl_pu k n w (h w List.mem_cons_self), cls_pu k n ws fun w m => h w (List.mem_cons_of_mem _ m)⟩
end
/-- depth enough for what the laws draw -/
abbrev pu (w : W) : Prop := puB 5 w = true
abbrev d5 (w : W) : PyData := dat 5 w
/-- u: the value w as it stands in the store -/
inductive Pic (st : Store) : W → W → Prop
  | pu (w : W) (h : pu w) : Pic st w w
  | ls (k : Nat) (ws : List W) (h : st[k]? = some (.lst ws)) (hl : ws.length ≤ 8192) (hw : ∀ w ∈ ws, pu w) : Pic st (.loc k) (.fro ws)
def dU : W → PyData
  | .fro ws => .list (ws.map d5)
  | w => d5 w
theorem dU_pu {w : W} (h : pu w) : dU w = d5 w := by cases w <;> first | rfl | exact nomatch (show false = true from h)
theorem Pic.dat {st : Store} {w u : W} (h : Pic st w u) (m : Nat) (hm : 6 ≤ m) : datF st m w = some (dU u) := by
  cases h with
  | pu _ h => rw [dU_pu h]; exact datF_pu 5 w h m st (by omega)
  | ls k ws h hl hw =>
    obtain ⟨m, rfl⟩ : ∃ m', m = m' + 1 := ⟨m - 1, by omega⟩
    simp only [datF, h, dU]
    rw [allO_of _ d5 ws fun a ha => datF_pu 5 a (hw a ha) m st (by omega)]; rfl
theorem Pic.shp {st : Store} {w u : W} (h : Pic st w u) : (dU u).canLay0 = true ∧ (dU u).depth ≤ 6 := by
  cases h with
  | pu _ h => rw [dU_pu h]; exact ⟨can_pu 5 w h, Nat.le_trans (dep_pu 5 w h) (by decide)⟩
  | ls k ws h hl hw =>
    simp only [dU]
    exact ⟨canAll fun a ha => can_pu 5 a (hw a ha), by rw [PyData.depth.eq_1]; exact Nat.succ_le_succ (depAll fun a ha => dep_pu 5 a (hw a ha))⟩
theorem Pic.refl {st : Store} {w u : W} (h : Pic st w u) : (dU u).eqv (dU u) = true := by
  cases h with
  | pu _ h => rw [dU_pu h]; exact eqv_pu 5 w h
  | ls k ws h hl hw =>
    simp only [dU]; rw [PyData.eqv.eq_7]
    exact eqvAll_refl fun a ha => eqv_pu 5 a (hw a ha)
theorem shaped_of {d : PyData} (h : d.canLay0 = true ∧ d.depth ≤ 64) : SeqAt.shaped d = true := by
  rw [SeqAt.shaped.eq_1, h.1]; simp [h.2]
theorem eqW_of {st : Store} {a b : W} {d e : PyData} (h : datF st 66 a = some d) (h' : datF st 66 b = some e) (s : SeqAt.shaped d = true) (s' : SeqAt.shaped e = true) : eqW a b st = .ok (.bl (d.eqv e)) st := by
  unfold eqW; simp only [h, h', if_pos (And.intro s s')]
theorem neW_of {st : Store} {a b : W} {d e : PyData} (h : datF st 66 a = some d) (h' : datF st 66 b = some e) (s : SeqAt.shaped d = true) (s' : SeqAt.shaped e = true) : neW a b st = .ok (.bl (!d.eqv e)) st := by
  unfold neW; simp only [h, h', if_pos (And.intro s s')]
theorem pic_eq {st : Store} {a b u v : W} (h : Pic st a u) (h' : Pic st b v) : eqW a b st = .ok (.bl ((dU u).eqv (dU v))) st :=
  eqW_of (h.dat 66 (by decide)) (h'.dat 66 (by decide)) (shaped_of ⟨h.shp.1, by have := h.shp.2; omega⟩) (shaped_of ⟨h'.shp.1, by have := h'.shp.2; omega⟩)
theorem pic_ne {st : Store} {a b u v : W} (h : Pic st a u) (h' : Pic st b v) : neW a b st = .ok (.bl (!(dU u).eqv (dU v))) st :=
  neW_of (h.dat 66 (by decide)) (h'.dat 66 (by decide)) (shaped_of ⟨h.shp.1, by have := h.shp.2; omega⟩) (shaped_of ⟨h'.shp.1, by have := h'.shp.2; omega⟩)
theorem pu_str {x : Str} (h : okS x = true) : pu (.str x) := h
theorem eqW_str {st : Store} {x y : Str} (h : okS x = true) (h' : okS y = true) : eqW (.str x) (.str y) st = .ok (.bl (x == y)) st := by
  rw [pic_eq (.pu _ (pu_str h)) (.pu _ (pu_str h'))]
  simp only [dU, d5, dat, PyData.eqv.eq_6]
theorem neW_str {st : Store} {x y : Str} (h : okS x = true) (h' : okS y = true) : neW (.str x) (.str y) st = .ok (.bl (!(x == y))) st := by
  rw [pic_ne (.pu _ (pu_str h)) (.pu _ (pu_str h'))]
  simp only [dU, d5, dat, PyData.eqv.eq_6]
@[simp] theorem eqW_int {st : Store} {x y : Int} : eqW (.int x) (.int y) st = .ok (.bl (x == y)) st := by
  rw [pic_eq (.pu _ rfl) (.pu _ rfl)]
  simp only [dU, d5, dat, PyData.eqv.eq_5]
@[simp] theorem eqW_bl {st : Store} {x y : Bool} : eqW (.bl x) (.bl y) st = .ok (.bl (x == y)) st := by
  rw [pic_eq (.pu _ rfl) (.pu _ rfl)]
  simp only [dU, d5, dat, PyData.eqv.eq_2]
@[simp] theorem neW_bl {st : Store} {x y : Bool} : neW (.bl x) (.bl y) st = .ok (.bl (!(x == y))) st := by
  rw [pic_ne (.pu _ rfl) (.pu _ rfl)]
  simp only [dU, d5, dat, PyData.eqv.eq_2]
/-! what is asked of a value -/
def tyU : W → String
  | .non => "NoneType"
  | .bl _ => "bool"
  | .int _ => "int"
  | .str _ => "str"
  | .tup _ => "tuple"
  | .rng _ _ => "NoneType"
  | _ => "list"
theorem Pic.ty {st : Store} {w u : W} (h : Pic st w u) : tyN st w = some (tyU u) := by
  cases h with
  | pu _ h => cases w <;> first | rfl | exact nomatch (show false = true from h)
  | ls k ws h hl hw => simp only [tyN, h, tyU]
theorem isi_of {st : Store} {w : W} {t n : String} {b : Bool} (h : tyN st w = some t) (hk : kitB t n = some b) : isiW [w, .gl (.ty n)] st = .ok (.bl b) st := by
  unfold isiW; simp only [h, hk]
theorem isi2_of {st : Store} {w : W} {t A B : String} {x y : Bool} (h : tyN st w = some t) (hA : kitB t A = some x) (hB : kitB t B = some y) : isi2W A B w st = .ok (.bl (x || y)) st := by
  unfold isi2W; simp only [h, hA, hB]
theorem kB_str (u : W) : kitB (tyU u) "str" = some (match u with | .str _ => true | _ => false) := by cases u <;> rfl
theorem kB_tup (u : W) : kitB (tyU u) "tuple" = some (match u with | .tup _ => true | _ => false) := by cases u <;> rfl
theorem kB_list (u : W) : kitB (tyU u) "list" = some (match u with | .fro _ => true | .loc _ => true | .gl _ => true | _ => false) := by cases u <;> rfl
theorem kB_bool (u : W) : kitB (tyU u) "bool" = some (match u with | .bl _ => true | _ => false) := by cases u <;> rfl
theorem kB_int (u : W) : kitB (tyU u) "int" = some (match u with | .bl _ => true | .int _ => true | _ => false) := by cases u <;> rfl
def isS : W → Bool | .str _ => true | _ => false
def isT : W → Bool | .tup _ => true | _ => false
def isL : W → Bool | .fro _ => true | .loc _ => true | .gl _ => true | _ => false
theorem pic_isS {st : Store} {w u : W} (h : Pic st w u) : isiW [w, .gl (.ty "str")] st = .ok (.bl (isS u)) st := isi_of h.ty (by rw [kB_str]; cases u <;> rfl)
theorem pic_isT {st : Store} {w u : W} (h : Pic st w u) : isiW [w, .gl (.ty "tuple")] st = .ok (.bl (isT u)) st := isi_of h.ty (by rw [kB_tup]; cases u <;> rfl)
theorem pic_isL {st : Store} {w u : W} (h : Pic st w u) : isiW [w, .gl (.ty "list")] st = .ok (.bl (isL u)) st := isi_of h.ty (by rw [kB_list]; cases u <;> rfl)
theorem pic_is2 {st : Store} {w u : W} (h : Pic st w u) : isi2W "tuple" "list" w st = .ok (.bl (isT u || isL u)) st := isi2_of h.ty (by rw [kB_tup]; cases u <;> rfl) (by rw [kB_list]; cases u <;> rfl)
/-! places -/
theorem atI_nat {α : Type} {l : List α} {i : Nat} (h : i < l.length) : atI l (i : Int) = l[i]? := by
  unfold atI ixN
  rw [if_pos (by omega), if_pos (by omega)]
  simp
theorem atI_int {α : Type} {l : List α} {i : Int} (h0 : 0 ≤ i) (h : i < l.length) : atI l i = l[i.toNat]? := by
  have := atI_nat (l := l) (i := i.toNat) (by omega)
  rwa [Int.toNat_of_nonneg h0] at this
theorem atI_last {α : Type} {l : List α} (h : 0 < l.length) : atI l (-1) = l[l.length - 1]? := by
  unfold atI ixN
  rw [if_neg (by omega), if_pos (by omega)]
  have : ((-1 : Int) + (l.length : Int)).toNat = l.length - 1 := by omega
  simp [this]
theorem ix_mem {st : Store} {a : W} {ws : List W} {i : Int} (h : seqW st a = some ws) (h0 : 0 ≤ i) (hi : i < ws.length) : ∃ w, w ∈ ws ∧ ws[i.toNat]? = some w ∧ ixW a (.int i) st = .ok w st := by
  have hl : i.toNat < ws.length := by omega
  refine ⟨ws[i.toNat], List.getElem_mem hl, List.getElem?_eq_getElem hl, ?_⟩
  unfold ixW
  cases a with
  | str z => simp [seqW] at h
  | _ => simp only [h, atI_int h0 hi, List.getElem?_eq_getElem hl]
theorem ix_str {x : Str} {i : Int} (hx : x.length ≤ sizeLine) (h0 : 0 ≤ i) (hi : i < x.length) : ∃ c, x.cps.toList[i.toNat]? = some c ∧ c ∈ x.cps.toList ∧ ∀ st, ixW (.str x) (.int i) st = .ok (.str ⟨#[c]⟩) st := by
  have hl : i.toNat < x.cps.toList.length := by simp [Str.length] at hi; simp; omega
  refine ⟨x.cps.toList[i.toNat], List.getElem?_eq_getElem hl, List.getElem_mem hl, fun st => ?_⟩
  have hi' : i < x.cps.toList.length := by omega
  unfold ixW
  simp only [if_pos hx, atI_int h0 hi', List.getElem?_eq_getElem hl]
theorem ix_strL {x : Str} (hx : x.length ≤ sizeLine) (h : 0 < x.length) : ∃ c, x.cps.toList[x.length - 1]? = some c ∧ c ∈ x.cps.toList ∧ ∀ st, ixW (.str x) (.int (-1)) st = .ok (.str ⟨#[c]⟩) st := by
  have e : x.cps.toList.length = x.length := by simp [Str.length]
  have hl : x.cps.toList.length - 1 < x.cps.toList.length := by omega
  refine ⟨x.cps.toList[x.cps.toList.length - 1], by rw [← e]; exact List.getElem?_eq_getElem hl, List.getElem_mem hl, fun st => ?_⟩
  unfold ixW
  simp only [if_pos hx, atI_last (l := x.cps.toList) (by omega), List.getElem?_eq_getElem hl]
theorem in_sign {st : Store} {c : Nat} {z : Str} : inW false (.str ⟨#[c]⟩) (.str z) st = .ok (.bl (decide (c ∈ z.cps.toList))) st := rfl
theorem len_str {st : Store} {x : Str} (h : x.length ≤ sizeLine) : lenW [.str x] st = .ok (.int x.length) st := by unfold lenW; simp only [if_pos h]
theorem len_seq {st : Store} {a : W} {ws : List W} (h : seqW st a = some ws) : lenW [a] st = .ok (.int ws.length) st := by
  unfold lenW
  cases a with
  | str z => simp [seqW] at h
  | _ => simp only [h]
theorem cut_to {ws : List W} {k : Nat} : cutW ws none (some (k : Int)) = ws.take k := by
  unfold cutW HT.sIx
  simp only [List.drop_zero, Nat.sub_zero]
  rw [if_neg (by omega)]
  simp only [Int.toNat_natCast]
  rw [← List.take_take, List.take_length]
theorem cut_from {ws : List W} {k : Nat} : cutW ws (some (k : Int)) none = ws.drop k := by
  unfold cutW HT.sIx
  simp only
  rw [if_neg (by omega)]
  simp only [Int.toNat_natCast]
  by_cases h : k ≤ ws.length
  · rw [Nat.min_eq_left h, List.take_of_length_le (by simp)]
  · rw [Nat.min_eq_right (by omega), List.drop_of_length_le (Nat.le_refl _), List.drop_of_length_le (by omega)]; simp
theorem lcW_mapB {β : Type} {chk : Store → Prop} {env : EnvW} {i : Nat} {e : D W} {st : Store} (k g : β → W) (hc : chk st) : ∀ (l : List β) (acc : List W), (∀ b ∈ l, e (env.set i (some (k b))) st = .ok (g b) st) → acc.length + l.length ≤ sizeLine →
    lcW chk env (tName i) dYes e (l.map k) acc st = some (acc ++ l.map g, st)
  | [], acc, _, _ => by unfold lcW; simp only [List.map_nil]; rw [if_pos hc]; simp
  | b :: l, acc, hs, hl => by
    simp only [List.length_cons] at hl
    simp only [List.map_cons]
    unfold lcW
    rw [if_pos hc]
    dsimp only [tName, dYes]
    rw [hs b List.mem_cons_self]
    dsimp only
    rw [if_pos (by omega), lcW_mapB k g hc l (acc ++ [g b]) (fun w m => hs w (List.mem_cons_of_mem _ m)) (by simp; omega)]
    simp
theorem kLc_mapB {β : Type} {env : EnvW} {i : Nat} {e : D W} {st : Store} {src : Option Nat} (k g : β → W) (l : List β) (hc : (ItW.mk (l.map k) src).Chk st) (hs : ∀ b ∈ l, e (env.set i (some (k b))) st = .ok (g b) st) (hl : l.length ≤ sizeLine) :
    kLc env (tName i) dYes e ⟨l.map k, src⟩ st = .ok (.loc st.length) (st ++ [.lst (l.map g)]) := by
  unfold kLc
  simp only
  rw [lcW_mapB k g hc l [] hs (by simpa using hl)]
  simp
theorem all_here {β : Type} {st : Store} {l : List β} {g : β → Bool} : allW [.loc st.length] (st ++ [.lst (l.map fun b => W.bl (g b))]) = .ok (.bl (l.all g)) (st ++ [.lst (l.map fun b => W.bl (g b))]) := by
  have : (st ++ [.lst (l.map fun b => W.bl (g b))])[st.length]? = some (.lst ((l.map g).map W.bl)) := by simp
  rw [allW_ok this]; simp [List.all_map]
theorem puB_mono : ∀ {n m : Nat} {w : W}, puB n w = true → n ≤ m → puB m w = true
  | 0, _, _, h, _ => by simp [puB] at h
  | n + 1, 0, _, _, hm => by omega
  | n + 1, m + 1, w, h, hm => by
    cases w with
    | tup ws =>
      simp only [puB, Bool.and_eq_true, List.all_eq_true] at h ⊢
      exact ⟨h.1, fun a ha => puB_mono (h.2 a ha) (by omega)⟩
    | str x => exact h
    | _ => first | rfl | simp [puB] at h
theorem pu_items {ws : List W} (h : pu (.tup ws)) : ws.length ≤ 8192 ∧ ∀ w ∈ ws, puB 4 w = true := by
  have h' : (decide (ws.length ≤ 8192) && ws.all (puB 4)) = true := h
  rw [Bool.and_eq_true, decide_eq_true_iff, List.all_eq_true] at h'
  exact h'
end
end MP
namespace MP
open PySem PySem.Spec PyProof.Rows L2
open Classical
noncomputable section
def star : Str := "*"
def fst0 (x : Str) : Nat := (x.cps.toList[0]?).getD 0
def lst0 (x : Str) : Nat := (x.cps.toList[x.length - 1]?).getD 0
section
variable {st : Store} {i j : Int}
@[simp] theorem addW_i : addW (.int i) (.int j) st = .ok (.int (i + j)) st := rfl
@[simp] theorem subW_i : subW (.int i) (.int j) st = .ok (.int (i - j)) st := rfl
@[simp] theorem leW_i : leW (.int i) (.int j) st = .ok (.bl (decide (i ≤ j))) st := rfl
@[simp] theorem ltW_i : ltW (.int i) (.int j) st = .ok (.bl (decide (i < j))) st := rfl
@[simp] theorem gtW_i : gtW (.int i) (.int j) st = .ok (.bl (decide (j < i))) st := rfl
@[simp] theorem negW_i : negW (.int i) st = .ok (.int (-i)) st := rfl
@[simp] theorem minW_i : minW [.int i, .int j] st = .ok (.int (if j < i then j else i)) st := rfl
@[simp] theorem maxW_i : maxW [.int i, .int j] st = .ok (.int (if j > i then j else i)) st := rfl
@[simp] theorem absW_i : absW [.int i] st = .ok (.int (if i < 0 then -i else i)) st := rfl
@[simp] theorem intOf_i : intOfW [.int i] st = .ok (.int i) st := rfl
@[simp] theorem intOf_b {b : Bool} : intOfW [.bl b] st = .ok (.int (if b then 1 else 0)) st := rfl
@[simp] theorem tuple_t {ws : List W} : tupleW [.tup ws] st = .ok (.tup ws) st := rfl
@[simp] theorem clB_b {n : Nat} {b : Bool} : clB n (.bl b) = true := rfl
@[simp] theorem clB_s {n : Nat} {b : Str} : clB n (.str b) = true := rfl
@[simp] theorem clB_i {n : Nat} : clB n (.int i) = true := rfl
@[simp] theorem clB_n {n : Nat} : clB n .non = true := rfl
@[simp] theorem gc_b {b : Bool} : gc st (.bl b) st = .ok (.bl b) st := gc_same rfl
@[simp] theorem gc_s {b : Str} : gc st (.str b) st = .ok (.str b) st := gc_same rfl
@[simp] theorem gc_i : gc st (.int i) st = .ok (.int i) st := gc_same rfl
@[simp] theorem gc_n : gc st .non st = .ok .non st := gc_same rfl
@[simp] theorem gc_ba {b : Bool} {g : Store} : gc st (.bl b) (st ++ g) = .ok (.bl b) st := gc_app rfl
@[simp] theorem gc_sa {b : Str} {g : Store} : gc st (.str b) (st ++ g) = .ok (.str b) st := gc_app rfl
@[simp] theorem gc_na {g : Store} : gc st .non (st ++ g) = .ok .non st := gc_app rfl
end
theorem ok_nil : okS ("" : Str) = true := by decide +kernel
theorem ok_star : okS ("*" : Str) = true := by decide +kernel
theorem ok_dash : okS ("-" : Str) = true := by decide +kernel
theorem ok_dot : okS ("." : Str) = true := by decide +kernel
theorem ok_one {c : Nat} (h : c < 128) : okS ⟨#[c]⟩ = true := by
  rw [okS_iff]; exact ⟨by show 1 ≤ _; decide, fun d hd => by simp at hd; omega⟩
theorem stripBy_mem {x y : Str} : ∀ c ∈ (Txt.stripChars x y).cps.toList, c ∈ x.cps.toList := fun c h => by
  rw [PySem.Txt.stripChars.eq_1, stripBy_eq] at h
  unfold PySem.Builtin.Str.strSub at h
  simp only [Array.toList_extract, List.extract] at h
  exact List.mem_of_mem_drop (List.mem_of_mem_take h)
theorem okS.strip {x y : Str} (h : okS x = true) : okS (Txt.stripChars x y) = true :=
  okS_iff.mpr ⟨Nat.le_trans (len_stripChars x y) (okS.len h), fun c hc => (okS_iff.mp h).2 c (stripBy_mem c hc)⟩
theorem fst0_of {x : Str} {c : Nat} (h : x.cps.toList[(0 : Int).toNat]? = some c) : fst0 x = c := by
  unfold fst0; rw [show (0 : Nat) = (0 : Int).toNat from rfl, h]; rfl
theorem lst0_of {x : Str} {c : Nat} (h : x.cps.toList[x.length - 1]? = some c) : lst0 x = c := by
  unfold lst0; rw [h]; rfl
def okU : W → Prop
  | .str x => okS x = true
  | _ => True
theorem Pic.str {st : Store} {w : W} {x : Str} (h : Pic st w (.str x)) : w = .str x ∧ okS x = true := by
  cases h with
  | pu _ h => exact ⟨rfl, h⟩
def GD : List Nat := ("abcdefghijklmnopqrstuvwxyz0123456789-" : Str).cps.toList
theorem beq_sign {c : Nat} : ((⟨#[c]⟩ : Str) == ("-" : Str)) = (c == 45) := by
  rw [Bool.eq_iff_iff, beq_iff_eq, beq_iff_eq]
  constructor
  · intro h
    have := congrArg (fun s : Str => s.cps.toList) h
    have h' : [c] = [45] := this
    simpa using h'
  · intro h; subst h; rfl
theorem eqv_str {n : Nat} {w : W} {x : Str} : (dat (n + 1) w).eqv (.str x) = (match w with | .str y => y == x | _ => false) := by
  cases w with
  | str y => simp only [dat, PyData.eqv.eq_6]
  | non => rfl
  | bl b => rfl
  | int b => rfl
  | tup ws => rfl
  | _ => rfl
def hdX (s : Str) : List W → Bool | .str x :: _ => x == s | _ => false
theorem line8 {n : Nat} (h : n ≤ 8192) : n ≤ sizeLine := Nat.le_trans h (by decide)
theorem head_ok {ws : List W} {st : Store} {s : Str} (h : pu (.tup ws)) (hs : okS s = true) : eqW (.tup (ws.take 1)) (.tup [.str s]) st = .ok (.bl (hdX s ws)) st := by
  obtain ⟨hl, hi⟩ := pu_items h
  have h1 : pu (.tup (ws.take 1)) := by
    show (decide ((ws.take 1).length ≤ 8192) && (ws.take 1).all (puB 4)) = true
    rw [Bool.and_eq_true, decide_eq_true_iff, List.all_eq_true]
    exact ⟨by simp; omega, fun a ha => hi a (List.mem_of_mem_take ha)⟩
  have h2 : pu (.tup [.str s]) := by
    show (decide (1 ≤ 8192) && (okS s && true)) = true
    rw [hs]; rfl
  rw [pic_eq (.pu _ h1) (.pu _ h2)]
  congr 2
  cases ws with
  | nil => rfl
  | cons w r =>
    show PyData.eqv (.tuple [dat 4 w]) (.tuple [.str s]) = _
    rw [PyData.eqv.eq_8, PyData.eqvAll.eq_2, PyData.eqvAll.eq_1, Bool.and_true, eqv_str]
    cases w <;> rfl
theorem nhead_ok {ws : List W} {st : Store} {s : Str} (h : pu (.tup ws)) (hs : okS s = true) : neW (.tup (ws.take 1)) (.tup [.str s]) st = .ok (.bl (!hdX s ws)) st := by
  have e := head_ok (st := st) h hs
  unfold eqW at e
  unfold neW
  split at e
  · split at e
    · rename_i d e' h1 h2 hs
      simp only [h1, h2, if_pos hs]
      injection e with e1 _
      injection e1 with e1
      rw [e1]
    · cases e
  · cases e
theorem pu_sub {ws : List W} (h : pu (.tup ws)) (r : List W) (hr : ∀ w ∈ r, w ∈ ws) (hl : r.length ≤ ws.length) : pu (.tup r) := by
  obtain ⟨hl', hi⟩ := pu_items h
  show (decide (r.length ≤ 8192) && r.all (puB 4)) = true
  rw [Bool.and_eq_true, decide_eq_true_iff, List.all_eq_true]
  exact ⟨by omega, fun a ha => hi a (hr a ha)⟩
@[simp] theorem sl_to {ws : List W} {st : Store} : slW (.tup ws) none (some 1) st = .ok (.tup (ws.take 1)) st := by
  show Res.ok (W.tup (cutW ws none (some ((1 : Nat) : Int)))) st = _
  rw [cut_to]
@[simp] theorem sl_from {ws : List W} {st : Store} : slW (.tup ws) (some 1) none st = .ok (.tup (ws.drop 1)) st := by
  show Res.ok (W.tup (cutW ws (some ((1 : Nat) : Int)) none)) st = _
  rw [cut_from]
theorem tup_one {s : Str} {st : Store} : kTup [.str s] st = .ok (.tup [.str s]) st := kTup_ok (Nat.le_trans (by simp : [W.str s].length ≤ 1) (by decide))
theorem range_all {β : Type} (l : List β) (f : Nat → Bool) (g : β → Bool) : (∀ i b, l[i]? = some b → f i = g b) → (List.range l.length).all f = l.all g := by
  intro h
  rw [Bool.eq_iff_iff, List.all_eq_true, List.all_eq_true]
  constructor
  · intro hf b hb
    obtain ⟨i, hi, rfl⟩ := List.getElem_of_mem hb
    rw [← h i _ (List.getElem?_eq_getElem hi)]
    exact hf i (List.mem_range.mpr hi)
  · intro hg i hi
    have hi := List.mem_range.mp hi
    rw [h i _ (List.getElem?_eq_getElem hi)]
    exact hg _ (List.getElem_mem hi)
theorem lt62 {n : Nat} (h : n ≤ 8192) : (n : Int) < 2 ^ 62 := Int.lt_of_le_of_lt (Int.ofNat_le.mpr h) (by decide)
theorem ints1 (n : Nat) : intsW 1 ((n : Int) - 1).toNat = (List.range (n - 1)).map fun i : Nat => W.int (1 + (i : Nat)) := by
  unfold intsW; rw [show ((n : Int) - 1).toNat = n - 1 by omega]
def dotS : Str := "."
def showT (xs : List Str) : Str := Txt.join ("" : Str) (xs.map fun x => x ++ dotS)
def shownS (xs : List Str) : Str := if xs.isEmpty = true then dotS else showT xs
abbrev cl (x : Str) : List Nat := x.cps.toList
theorem str_ext {x y : Str} (h : cl x = cl y) : x = y := by
  obtain ⟨x⟩ := x; obtain ⟨y⟩ := y
  have : x = y := Array.toList_inj.mp h
  rw [this]
theorem cl_app (x y : Str) : cl (x ++ y) = cl x ++ cl y := by
  show (x.cps ++ y.cps).toList = _
  simp [cl]
theorem len_cl (x : Str) : x.length = (cl x).length := by simp [Str.length, cl]
theorem fold_cl (s : Array Nat) : ∀ (r : List Str) (a : Array Nat), (r.foldl (fun acc p => acc ++ s ++ p.cps) a).toList = a.toList ++ (r.map fun p => s.toList ++ cl p).flatten
  | [], a => by simp
  | p :: r, a => by
    rw [List.foldl_cons, fold_cl s r]; simp [cl]
theorem join_cl (s : Str) (p : Str) (r : List Str) : cl (Txt.join s (p :: r)) = cl p ++ (r.map fun p => cl s ++ cl p).flatten := by
  show (List.foldl _ p.cps r).toList = _
  exact fold_cl s.cps r p.cps
theorem join_nil (s : Str) : cl (Txt.join s []) = [] := rfl
theorem join0 (ys : List Str) : cl (Txt.join ("" : Str) ys) = (ys.map cl).flatten := by
  cases ys with
  | nil => rfl
  | cons p r =>
    rw [join_cl]
    have : cl ("" : Str) = [] := rfl
    simp [this]
theorem dot_cl : cl dotS = [46] := rfl
theorem show_cl (xs : List Str) : cl (showT xs) = (xs.map fun x => cl x ++ [46]).flatten := by
  unfold showT
  rw [join0, List.map_map]
  refine congrArg List.flatten (List.map_congr_left fun x _ => ?_)
  show cl (x ++ dotS) = _
  rw [cl_app, dot_cl]
theorem show_join {xs : List Str} (h : xs ≠ []) : cl (showT xs) = cl (Txt.join dotS xs) ++ [46] := by
  rw [show_cl]
  cases xs with
  | nil => exact absurd rfl h
  | cons p r =>
    rw [join_cl, dot_cl]
    have key : ∀ (r : List Str) (a : List Nat), (a ++ [46]) ++ (r.map fun x => cl x ++ [46]).flatten = a ++ (r.map fun p => [46] ++ cl p).flatten ++ [46] := by
      intro r
      induction r with
      | nil => intro a; simp
      | cons x r ih =>
        intro a
        have := ih (a ++ [46] ++ cl x)
        simp only [List.map_cons, List.flatten_cons, List.append_assoc] at this ⊢
        exact this
    rw [List.map_cons, List.flatten_cons]
    exact key r (cl p)
def cutT (t : Str) : Str := cutS t none (some (-1))
theorem cutT_cl (t : Str) : cl (cutT t) = (cl t).take (t.length - 1) := by
  unfold cutT cutS HT.sIx
  simp only [List.drop_zero, Nat.sub_zero]
  rw [if_pos (by decide)]
  have : ((-1 : Int) + (t.length : Int)).toNat = t.length - 1 := by omega
  rw [this]
theorem cutT_law {t : Str} (h : 1 ≤ t.length) : cutS t none (some ((t.length : Int) - 1)) = cutT t := by
  apply str_ext
  rw [cutT_cl]
  unfold cutS HT.sIx
  simp only [List.drop_zero, Nat.sub_zero]
  rw [if_neg (by omega)]
  have : ((t.length : Int) - 1).toNat = t.length - 1 := by omega
  rw [this, Nat.min_eq_left (by omega)]
def lastDot (t : Str) : Bool := decide (1 ≤ t.length) && (lst0 t == 46)
theorem ends_dot (t : Str) : Txt.endswith t dotS = lastDot t := by
  unfold Txt.endswith lastDot
  have h1 : dotS.length = 1 := rfl
  rw [h1, Nat.zero_add]
  by_cases h : 1 ≤ t.length
  · rw [decide_eq_true h, Bool.true_and, Bool.true_and]
    unfold Builtin.Str.subAt lst0
    rw [h1]
    have hl : t.length - 1 < t.cps.toList.length := by rw [show t.cps.toList.length = t.length from (len_cl t).symm]; omega
    rw [List.getElem?_eq_getElem hl, Option.getD_some, Bool.eq_iff_iff, beq_iff_eq, beq_iff_eq]
    have e : (t.cps.extract (t.length - 1) (t.length - 1 + 1)).toList = [t.cps.toList[t.length - 1]] := by
      rw [Array.toList_extract]
      unfold List.extract
      rw [show t.length - 1 + 1 - (t.length - 1) = 1 by omega, List.drop_eq_getElem_cons hl]; simp
    constructor
    · intro hx
      have := congrArg Array.toList hx
      rw [e] at this
      have h2 : [t.cps.toList[t.length - 1]] = [46] := this
      simpa using h2
    · intro hx
      apply Array.toList_inj.mp
      rw [e, hx]; rfl
  · rw [decide_eq_false h]; rfl
theorem last_cl {t : Str} (h : lastDot t = true) : cl t = cl (cutT t) ++ [46] := by
  unfold lastDot at h
  rw [Bool.and_eq_true, decide_eq_true_iff, beq_iff_eq] at h
  have hl : t.length - 1 < (cl t).length := by rw [← len_cl]; omega
  have h2 : (cl t)[t.length - 1] = 46 := by
    have := h.2
    unfold lst0 at this
    rw [List.getElem?_eq_getElem hl] at this
    simpa using this
  rw [cutT_cl]
  conv => lhs; rw [← List.take_append_drop (t.length - 1) (cl t)]
  rw [List.drop_eq_getElem_cons hl, h2, List.drop_of_length_le (by rw [← len_cl]; omega)]
def parts (t : Str) : List Str := Txt.split (cutT t) dotS
theorem parts_ne (t : Str) : parts t ≠ [] := fun h => by
  have := split_pos (cutT t) dotS
  rw [show Txt.split (cutT t) dotS = [] from h] at this
  simp at this
theorem parts_join (t : Str) : Txt.join dotS (parts t) = cutT t := (StrLaws.glued_eq_join dotS (parts t)).trans (StrLaws.join_split (cutT t) dotS)
theorem show_parts {t : Str} (h : lastDot t = true) : showT (parts t) = t := by
  apply str_ext
  rw [show_join (parts_ne t), parts_join, last_cl h]
theorem parts_show {xs : List Str} (h : xs ≠ []) (hd : ∀ x ∈ xs, ¬ 46 ∈ cl x) : parts (showT xs) = xs := by
  have e : cutT (showT xs) = Txt.join dotS xs := by
    apply str_ext
    rw [cutT_cl, show_join h, len_cl, show_join h]
    simp
  unfold parts
  rw [e]
  exact TL.split_join (y := dotS) (s := 46) (S := []) rfl (by decide +kernel) h hd
theorem show_last {xs : List Str} (h : xs ≠ []) : lastDot (showT xs) = true := by
  have e := show_join h
  unfold lastDot lst0
  have hl : (showT xs).length = (cl (Txt.join dotS xs)).length + 1 := by rw [len_cl, e]; simp
  rw [hl, decide_eq_true (by omega)]
  have e2 : (showT xs).cps.toList = cl (Txt.join dotS xs) ++ [46] := e
  rw [e2, Nat.add_sub_cancel]
  simp
theorem mem_join {s : Str} : ∀ {ys : List Str} {y : Str} {c : Nat}, y ∈ ys → c ∈ cl y → c ∈ cl (Txt.join s ys) := by
  intro ys y c hy hc
  cases ys with
  | nil => nomatch hy
  | cons p r =>
    rw [join_cl, List.mem_append]
    rcases List.mem_cons.mp hy with rfl | hy
    · exact .inl hc
    · exact .inr (List.mem_flatten.mpr ⟨_, List.mem_map_of_mem hy, List.mem_append.mpr (.inr hc)⟩)
theorem parts_ok {t : Str} (h : okS t = true) (hl : t.length ≤ 8000) : pu (.tup ((parts t).map W.str)) := by
  have hc : (cutT t).length ≤ t.length := by
    rw [len_cl, cutT_cl, len_cl]; simp
  show (decide (((parts t).map W.str).length ≤ 8192) && ((parts t).map W.str).all (puB 4)) = true
  rw [Bool.and_eq_true, decide_eq_true_iff, List.all_eq_true]
  refine ⟨?_, fun a ha => ?_⟩
  · have := split_le (cutT t) dotS
    rw [List.length_map]
    show (Txt.split (cutT t) dotS).length ≤ 8192
    omega
  · obtain ⟨p, hp, rfl⟩ := List.mem_map.mp ha
    show okS p = true
    rw [okS_iff]
    refine ⟨Nat.le_trans (part_short hp) (by omega), fun c hcp => (okS_iff.mp h).2 c ?_⟩
    have h1 : c ∈ cl (Txt.join dotS (parts t)) := mem_join hp hcp
    rw [parts_join, cutT_cl] at h1
    exact List.mem_of_mem_take h1
theorem show_len (xs : List Str) (h : ∀ x ∈ xs, x.length ≤ 20) : (showT xs).length ≤ 21 * xs.length := by
  rw [len_cl, show_cl]
  induction xs with
  | nil => simp
  | cons x r ih =>
    have h1 := h x List.mem_cons_self
    have h2 := ih fun y hy => h y (List.mem_cons_of_mem _ hy)
    rw [len_cl] at h1
    simp only [List.map_cons, List.flatten_cons, List.length_append, List.length_cons, List.length_nil] at h2 ⊢
    omega
theorem show_okS {xs : List Str} (h : ∀ x ∈ xs, okS x = true) (hl : (showT xs).length ≤ 8192) : okS (showT xs) = true := by
  rw [okS_iff]
  refine ⟨hl, fun c hc => ?_⟩
  have hc : c ∈ (xs.map fun x => cl x ++ [46]).flatten := by rw [← show_cl]; exact hc
  obtain ⟨l, hl, hcl⟩ := List.mem_flatten.mp hc
  obtain ⟨x, hx, rfl⟩ := List.mem_map.mp hl
  rcases List.mem_append.mp hcl with h1 | h1
  · exact (okS_iff.mp (h x hx)).2 c h1
  · have : c = 46 := by simpa using h1
    omega
theorem name_pu {st : Store} {w : W} {ws : List W} (h : Pic st w (.tup ws)) : w = .tup ws ∧ pu (.tup ws) := by
  cases h with
  | pu _ h => exact ⟨rfl, h⟩
theorem eq_empty {ws : List W} {st : Store} (h : pu (.tup ws)) : eqW (.tup ws) (.tup []) st = .ok (.bl ws.isEmpty) st := by
  rw [pic_eq (.pu _ h) (.pu _ rfl)]
  congr 2
  cases ws <;> rfl
theorem addW_s {x y : Str} {st : Store} (h : x.length + y.length ≤ sizeLine) : addW (.str x) (.str y) st = .ok (.str (x ++ y)) st := by
  show (if x.length + y.length ≤ sizeLine then _ else _) = _
  rw [if_pos h]
theorem join_here {st : Store} {ys : List Str} {z : Str} (h : (ys.map (·.length)).sum + ys.length * z.length ≤ 16777216) : joinW (.str z) [.loc st.length] (st ++ [.lst (ys.map W.str)]) = .ok (.str (Txt.join z ys)) (st ++ [.lst (ys.map W.str)]) := by
  have e : strsW (st ++ [.lst (ys.map W.str)]) (.loc st.length) = some ys := by
    unfold strsW seqW
    simp only [get_here, Option.bind_some, List.map_map]
    have := allO_of (stOf ∘ W.str) id ys (fun _ _ => rfl)
    rw [this]; simp
  show (match strsW (st ++ [.lst (ys.map W.str)]) (.loc st.length) with | some ys => _ | none => _) = _
  rw [e]
  exact if_pos h
theorem sum_le {xs : List Str} {f : Str → Nat} {k : Nat} (h : ∀ x ∈ xs, f x ≤ k) : (xs.map f).sum ≤ k * xs.length := by
  induction xs with
  | nil => simp
  | cons x r ih =>
    have h1 := h x List.mem_cons_self
    have h2 := ih fun y hy => h y (List.mem_cons_of_mem _ hy)
    simp only [List.map_cons, List.sum_cons, List.length_cons]
    rw [Nat.mul_add, Nat.mul_one]; omega
theorem len_add (x y : Str) : (x ++ y).length = x.length + y.length := by rw [len_cl, cl_app, List.length_append, ← len_cl, ← len_cl]
theorem dots_ok {env : EnvW} {src : Option Nat} {i : Nat} {xs : List Str} {st : Store} (hi : i < env.length) (hc : (ItW.mk (xs.map W.str) src).Chk st) (hx : ∀ x ∈ xs, x.length ≤ 100) (hl : xs.length ≤ 8192) :
    kLc env (tName i) dYes (dOp addW (dVar i) (dC (.str "."))) ⟨xs.map W.str, src⟩ st = .ok (.loc st.length) (st ++ [.lst ((xs.map fun x => x ++ dotS).map W.str)]) ∧
    joinW (.str "") [.loc st.length] (st ++ [.lst ((xs.map fun x => x ++ dotS).map W.str)]) = .ok (.str (showT xs)) (st ++ [.lst ((xs.map fun x => x ++ dotS).map W.str)]) := by
  constructor
  · have := kLc_mapB (env := env) (i := i) (e := dOp addW (dVar i) (dC (.str ("." : Str)))) (st := st) (src := src) W.str (fun x => W.str (x ++ dotS)) xs hc (fun b hb => by
      have h1 := hx b hb
      have ha : addW (.str b) (.str ".") st = .ok (.str (b ++ dotS)) st := addW_s (Nat.le_trans (Nat.add_le_add_right h1 _) (by decide +kernel))
      simp -implicitDefEqProofs [hi, ha]) (line8 hl)
    rw [this, List.map_map]; rfl
  · refine join_here ?_
    have h1 : ((xs.map fun x => x ++ dotS).map (·.length)).sum ≤ 101 * xs.length := by
      rw [List.map_map]
      exact sum_le fun x hx' => by
        show (x ++ dotS).length ≤ 101
        rw [len_add]
        have := hx x hx'
        have h2 : dotS.length = 1 := rfl
        omega
    have h2 : ("" : Str).length = 0 := rfl
    rw [h2, Nat.mul_zero]
    omega
theorem tuple_here {st : Store} {ws : List W} : tupleW [.loc st.length] (st ++ [.lst ws]) = .ok (.tup ws) (st ++ [.lst ws]) := by
  unfold tupleW lstW; simp
theorem split_here {t : Str} {st : Store} (h : (cutT t).length + 2 ≤ sizeLine) : splitW (.str (cutT t)) [.str "."] st = .ok (.loc st.length) (st ++ [.lst ((parts t).map W.str)]) := by
  show (if ((("." : Str).length == 0) = false ∧ (cutT t).length + 2 ≤ sizeLine) then _ else _) = _
  rw [if_pos ⟨rfl, h⟩]; rfl
theorem cut_len (t : Str) : (cutT t).length ≤ t.length := by
  rw [len_cl, cutT_cl, len_cl]; simp
theorem cut_okS {t : Str} (h : okS t = true) : okS (cutT t) = true := by
  rw [okS_iff]
  exact ⟨Nat.le_trans (cut_len t) (okS.len h), fun c hc => (okS_iff.mp h).2 c (by
    have : c ∈ cl (cutT t) := hc
    rw [cutT_cl] at this
    exact List.mem_of_mem_take this)⟩
theorem line2 {n : Nat} (h : n ≤ 8192) : n + 2 ≤ sizeLine := Nat.le_trans (Nat.add_le_add_right h 2) (by decide)
theorem sl_cut {t : Str} {st : Store} (h : okS t = true) : slW (.str t) none (some (-1)) st = .ok (.str (cutT t)) st := by
  show (if t.length ≤ sizeLine then _ else _) = _
  rw [if_pos (okS.line h)]; rfl
theorem sl_cutL {t : Str} {st : Store} (h : okS t = true) (h1 : 1 ≤ t.length) : slW (.str t) none (some ((t.length : Int) - 1)) st = .ok (.str (cutT t)) st := by
  show (if t.length ≤ sizeLine then _ else _) = _
  rw [if_pos (okS.line h), cutT_law h1]
theorem ends_ok {t : Str} {st : Store} : endswithW (.str t) [.str "."] st = .ok (.bl (lastDot t)) st := by
  show Res.ok (W.bl (Txt.endswith t dotS)) st = _
  rw [ends_dot]
theorem Pic.app {st : Store} {w u : W} (g : Store) (h : Pic st w u) : Pic (st ++ g) w u := by
  cases h with
  | pu _ h => exact .pu _ h
  | ls k ws h hl hw => exact .ls k ws (get_app g h) hl hw
theorem pair_data {a u : W} {s : Str} {st : Store} (h : Pic st a u) (hs : okS s = true) : datF st 66 (.tup [.str s, a]) = some (.tuple [.str s, dU u]) ∧ SeqAt.shaped (.tuple [.str s, dU u]) = true := by
  constructor
  · show ((allO [datF st 65 (.str s), datF st 65 a]).map PyData.tuple) = _
    rw [h.dat 65 (by decide)]; rfl
  · refine shaped_of ⟨?_, ?_⟩
    · show PyData.canLayAll0 [.str s, dU u] = true
      rw [PyData.canLayAll0.eq_2, PyData.canLayAll0.eq_2, h.shp.1]
      show (PyData.strOk s && _) = true
      rw [okS.ok hs]; rfl
    · rw [PyData.depth.eq_2, PyData.depthAll.eq_2, PyData.depthAll.eq_2]
      have := h.shp.2
      have h0 : PyData.depthAll [] = 0 := rfl
      have h1 : (PyData.str s).depth = 0 := rfl
      rw [h0, h1]; omega
theorem pair_eqv {d : PyData} {s : Str} (h : d.eqv d = true) : (PyData.tuple [.str s, d]).eqv (.tuple [.str s, d]) = true := by
  rw [PyData.eqv.eq_8, PyData.eqvAll.eq_2, PyData.eqvAll.eq_2, PyData.eqv.eq_6, h]
  show (s == s && (true && true)) = true
  simp
theorem pair_ne {a b u : W} {s : Str} {st : Store} (h : Pic st a u) (h' : Pic st b u) (hs : okS s = true) : neW (.tup [.str s, a]) (.tup [.str s, b]) st = .ok (.bl false) st := by
  rw [neW_of (pair_data h hs).1 (pair_data h' hs).1 (pair_data h hs).2 (pair_data h' hs).2, pair_eqv h.refl]; rfl
theorem pair_eq {a b u : W} {s : Str} {st : Store} (h : Pic st a u) (h' : Pic st b u) (hs : okS s = true) : eqW (.tup [.str s, a]) (.tup [.str s, b]) st = .ok (.bl true) st := by
  rw [eqW_of (pair_data h hs).1 (pair_data h' hs).1 (pair_data h hs).2 (pair_data h' hs).2, pair_eqv h.refl]
theorem ok_text : okS ("text" : Str) = true := by decide +kernel
theorem ok_refused : okS ("refused" : Str) = true := by decide +kernel
theorem ok_namew : okS ("name" : Str) = true := by decide +kernel
theorem two {a b : W} {st : Store} : kTup [a, b] st = .ok (.tup [a, b]) st := kTup_ok (Nat.le_trans (by simp : [a, b].length ≤ 2) (by decide))
theorem pair_cl {n : Nat} {s : Str} {w : W} (h : clB n w = true) : clB n (.tup [.str s, w]) = true := by
  simp only [clB, clBs, h]; rfl
theorem set_here (st : Store) (a b c : Ob) : (st ++ [a, b]).set (st.length + 1) c = st ++ [a, c] := by simp
def PotA (p n : Nat) (st : Store) : Prop := ∃ a b c : Int, st[p]? = some (.lst [.int a, .int b, .int c]) ∧ 0 ≤ b ∧ b < 10 ^ 34 ∧ 0 ≤ c ∧ c ≤ n
theorem PotA.lt {p n : Nat} {st : Store} (h : PotA p n st) : p < st.length := by
  obtain ⟨a, b, c, h, _⟩ := h
  exact (List.getElem?_eq_some_iff.mp h).1
theorem PotA.mono {p n m : Nat} {st : Store} (h : PotA p n st) (hm : n ≤ m) : PotA p m st := by
  obtain ⟨a, b, c, h, h1, h2, h3, h4⟩ := h
  exact ⟨a, b, c, h, h1, h2, h3, by omega⟩
theorem PotA.of {p n : Nat} {st st' : Store} (h : PotA p n st) (e : st'[p]? = st[p]?) : PotA p n st' := by
  obtain ⟨a, b, c, h, h1, h2, h3, h4⟩ := h
  exact ⟨a, b, c, by rw [e]; exact h, h1, h2, h3, h4⟩
theorem PotA.app {p n : Nat} {st : Store} (g : Store) (h : PotA p n st) : PotA p n (st ++ g) := h.of (List.getElem?_append_left h.lt)
theorem PotA.take {p n k : Nat} {st : Store} (h : PotA p n st) (hk : p < k) : PotA p n (st.take k) := h.of (by rw [List.getElem?_take, if_pos hk])
theorem PotA.set {p n k : Nat} {st : Store} {o : Ob} (h : PotA p n st) (hk : p ≠ k) : PotA p n (st.set k o) := h.of (List.getElem?_set_ne (Ne.symm hk))
theorem PotA.flat {p n : Nat} {st : Store} (h : PotA p n st) : ∀ (k : Nat) (o : Ob), p < k → st[p]? = some o → flatO o := by
  obtain ⟨a, b, c, h, _⟩ := h
  intro k o _ e
  rw [h] at e; cases e
  exact fun _ => rfl
theorem Ext.set {p k : Nat} {st st' : Store} {o : Ob} (h : Ext p st st') (hk : st.length ≤ k) : Ext p st (st'.set k o) :=
  ⟨by simp [h.le], fun i hi hp => by rw [List.getElem?_set_ne (by omega)]; exact h.keep i hi hp⟩
theorem gc_pot {p n : Nat} {st st' : Store} {v : W} (h : Ext p st st') (hp : PotA p n st') (hl : p < st.length) (hv : clB st.length v = true) : gc st v st' = .ok v (st'.take st.length) ∧ Kp p st (st'.take st.length) ∧ PotA p n (st'.take st.length) :=
  ⟨gcx_ok h (hp.flat _) hv, h.take, hp.take hl⟩
theorem gc_potL {p n m : Nat} {st st' : Store} {ws : List W} (h : Ext p st st') (hp : PotA p n st') (hl : p < st.length) (hm : st.length ≤ m) (e : st'[m]? = some (.lst ws)) (hw : clBs st.length ws = true) : gc st (.loc m) st' = .ok (.loc st.length) (st'.take st.length ++ [.lst ws]) ∧ Kp p st (st'.take st.length) ∧ PotA p n (st'.take st.length) :=
  ⟨gc_new h (hp.flat _) hm e hw, h.take, hp.take hl⟩
theorem kAsg_sub {env : EnvW} {st st3 : Store} {mo mi : D W} {o i v : W} (h1 : mo env st = .ok o st) (h2 : mi env st = .ok i st) (h3 : setW o i v st = some st3) : kAsg (MP.tSub mo mi) env v st = .go .nx env st3 := by
  have : MP.tSub mo mi v env st = some (env, st3) := by
    unfold MP.tSub; simp only [h1, h2, h3, Option.map_some]
  unfold kAsg; rw [this]
theorem setW_of {st : Store} {k : Nat} {i : Int} {j : Nat} {ws : List W} {v : W} (h : st[k]? = some (.lst ws)) (hi : ixN ws.length i = some j) : setW (.loc k) (.int i) v st = some (st.set k (.lst (ws.set j v))) := by
  unfold setW; simp only [h, hi]
theorem mod_okQ {i j : Int} {st : Store} (h : 0 < j) : modW (.int i) (.int j) st = .ok (.int (i % j)) st := if_pos h
theorem div_okG {i j : Int} {st : Store} (h : 0 < j) (h' : j.natAbs.log2 < 9000) : fdivW (.int i) (.int j) st = .ok (.int (i / j)) st := if_pos ⟨h, h'⟩
theorem div_ok {i j : Int} {st : Store} (h : 0 < j) (h' : j < 9000) : fdivW (.int i) (.int j) st = .ok (.int (i / j)) st := div_okG h (Nat.lt_of_le_of_lt (Nat.log2_le_self _) (by omega))
theorem div_big {i : Int} {st : Store} : fdivW (.int i) (.int 65537) st = .ok (.int (i / 65537)) st := if_pos ⟨by decide, by decide +kernel⟩
theorem mul_okQ {i j : Int} {st : Store} (h : IntMulOk i j) : mulW (.int i) (.int j) st = .ok (.int (i * j)) st := if_pos h
theorem pow_okQ {i j : Int} {st : Store} (h : CPowW i j) : powW (.int i) (.int j) st = .ok (.int (i ^ j.toNat)) st := if_pos h
theorem small_mul {i j : Int} (h : -2 ^ 64 < i) (h' : i < 2 ^ 64) : IntMulOk i j := IntMulOk.of_left (intBits_le_64 h h')
theorem pow10 (k : Int) (h0 : 0 ≤ k) (h : k ≤ 100) : CPowW 10 k := ⟨h0, by
  have : (Builtin.Int.intBits 10 : Int) = 4 := by decide +kernel
  rw [this]; omega⟩
def StL (b : Nat) (ws : List W) : Prop := ∀ w ∈ ws, ∃ y : Str, w = .str y ∧ okS y = true ∧ y.length ≤ b
theorem StL.app {b : Nat} {ws vs : List W} (h : StL b ws) (h' : StL b vs) : StL b (ws ++ vs) := fun w m => by
  rcases List.mem_append.mp m with m | m
  · exact h w m
  · exact h' w m
theorem StL.one {b : Nat} {y : Str} (h : okS y = true) (h' : y.length ≤ b) : StL b [.str y] := fun w m => by
  have : w = .str y := by simpa using m
  exact ⟨y, this, h, h'⟩
theorem StL.nil {b : Nat} : StL b [] := fun _ m => nomatch m
theorem StL.mono {b c : Nat} {ws : List W} (h : StL b ws) (hc : b ≤ c) : StL c ws := fun w m => by
  obtain ⟨y, e, h1, h2⟩ := h w m
  exact ⟨y, e, h1, Nat.le_trans h2 hc⟩
theorem StL.set {b i : Nat} {ws : List W} {y : Str} (h : StL b ws) (hy : okS y = true) (hl : y.length ≤ b) : StL b (ws.set i (.str y)) := fun w m => by
  rcases List.mem_or_eq_of_mem_set m with m | m
  · exact h w m
  · exact ⟨y, m, hy, hl⟩
theorem StL.strs {b : Nat} : ∀ {ws : List W}, StL b ws → ∃ ys : List Str, ws = ys.map W.str ∧ ∀ y ∈ ys, okS y = true ∧ y.length ≤ b
  | [], _ => ⟨[], rfl, fun _ m => nomatch m⟩
  | w :: ws, h => by
    obtain ⟨y, rfl, h1, h2⟩ := h w List.mem_cons_self
    obtain ⟨ys, rfl, h3⟩ := StL.strs fun w m => h w (List.mem_cons_of_mem _ m)
    exact ⟨y :: ys, rfl, fun z m => by
      rcases List.mem_cons.mp m with rfl | m
      · exact ⟨h1, h2⟩
      · exact h3 z m⟩
theorem StL.cl {b n : Nat} : ∀ {ws : List W}, StL b ws → clBs n ws = true
  | [], _ => rfl
  | w :: ws, h => by
    obtain ⟨y, rfl, _⟩ := h w List.mem_cons_self
    simp only [clBs, clB, Bool.true_and]
    exact StL.cl fun w m => h w (List.mem_cons_of_mem _ m)
theorem join_at {st : Store} {k : Nat} {ys : List Str} {z : Str} (e : st[k]? = some (.lst (ys.map W.str))) (h : (ys.map (·.length)).sum + ys.length * z.length ≤ 16777216) : joinW (.str z) [.loc k] st = .ok (.str (Txt.join z ys)) st := by
  have e : strsW st (.loc k) = some ys := by
    unfold strsW seqW
    simp only [e, Option.bind_some, List.map_map]
    have := allO_of (stOf ∘ W.str) id ys (fun _ _ => rfl)
    rw [this]; simp
  show (match strsW st (.loc k) with | some ys => _ | none => _) = _
  rw [e]
  exact if_pos h
theorem join_good {ys : List Str} {b : Nat} (h : ∀ y ∈ ys, okS y = true ∧ y.length ≤ b) (hl : b * ys.length ≤ 8192) : okS (Txt.join ("" : Str) ys) = true ∧ (Txt.join ("" : Str) ys).length ≤ b * ys.length := by
  have hlen : (Txt.join ("" : Str) ys).length ≤ b * ys.length := by
    rw [len_cl, join0]
    clear hl
    induction ys with
    | nil => simp
    | cons y r ih =>
      have h1 := (h y List.mem_cons_self).2
      have h2 := ih fun z m => h z (List.mem_cons_of_mem _ m)
      rw [len_cl] at h1
      simp only [List.map_cons, List.flatten_cons, List.length_append, List.length_cons]
      rw [Nat.mul_add, Nat.mul_one]; omega
  refine ⟨okS_iff.mpr ⟨by omega, fun c hc => ?_⟩, hlen⟩
  have hc : c ∈ (ys.map cl).flatten := by rw [← join0]; exact hc
  obtain ⟨l, hl', hcl⟩ := List.mem_flatten.mp hc
  obtain ⟨y, hy, rfl⟩ := List.mem_map.mp hl'
  exact (okS_iff.mp (h y hy).1).2 c hcl
theorem join_StL {st : Store} {k b : Nat} {ws : List W} (e : st[k]? = some (.lst ws)) (h : StL b ws) (hl : b * ws.length ≤ 8192) : ∃ x : Str, joinW (.str "") [.loc k] st = .ok (.str x) st ∧ okS x = true ∧ x.length ≤ b * ws.length := by
  obtain ⟨ys, rfl, hy⟩ := h.strs
  rw [List.length_map] at hl ⊢
  obtain ⟨h1, h2⟩ := join_good hy hl
  refine ⟨_, join_at e ?_, h1, h2⟩
  have : ("" : Str).length = 0 := rfl
  rw [this, Nat.mul_zero]
  have := sum_le (f := (·.length)) (k := b) (xs := ys) fun y m => (hy y m).2
  omega
theorem ok_app {x y : Str} (h : okS x = true) (h' : okS y = true) (hl : x.length + y.length ≤ 8192) : okS (x ++ y) = true := by
  rw [okS_iff]
  refine ⟨by rw [len_add]; exact hl, fun c hc => ?_⟩
  have hc : c ∈ cl x ++ cl y := by rw [← cl_app]; exact hc
  rcases List.mem_append.mp hc with hc | hc
  · exact (okS_iff.mp h).2 c hc
  · exact (okS_iff.mp h').2 c hc
theorem cut_good {z : Str} {lo hi : Option Int} (h : okS z = true) : okS (cutS z lo hi) = true ∧ (cutS z lo hi).length ≤ z.length := by
  have hl : (cutS z lo hi).length ≤ z.length := by
    rw [len_cl, len_cl]
    show (List.take _ (List.drop _ (cl z))).length ≤ _
    rw [List.length_take, List.length_drop]; omega
  refine ⟨okS_iff.mpr ⟨Nat.le_trans hl (okS.len h), fun c hc => (okS_iff.mp h).2 c ?_⟩, hl⟩
  have hc : c ∈ List.take (HT.sIx z.length z.length hi - HT.sIx z.length 0 lo) (List.drop (HT.sIx z.length 0 lo) (cl z)) := hc
  exact List.mem_of_mem_drop (List.mem_of_mem_take hc)
theorem sign_of {x : Str} {i : Int} (hx : okS x = true) (h0 : 0 ≤ i) (hi : i < x.length) : ∃ y : Str, okS y = true ∧ y.length ≤ 1 ∧ ∀ st, ixW (.str x) (.int i) st = .ok (.str y) st := by
  obtain ⟨c, _, hm, e⟩ := ix_str (okS.line hx) h0 hi
  exact ⟨⟨#[c]⟩, ok_one ((okS_iff.mp hx).2 c hm), Nat.le_refl 1, e⟩
def AL : Str := "0123456789abcdefghijklmnopqrstuvwxyz"
def AL1 : Str := ("-" : Str) ++ AL
theorem ok_al : okS AL = true := by decide +kernel
theorem ok_al1 : okS AL1 = true := by decide +kernel
theorem al_len : AL.length = 36 := by decide +kernel
theorem al1_len : AL1.length = 37 := by decide +kernel
theorem al1_add {st : Store} : addW (.str "-") (.str AL) st = .ok (.str AL1) st := addW_s (by decide +kernel)
theorem lst5 {l : List W} {st : Store} (h : l.length ≤ 50) : kLst l st = .ok (.loc st.length) (st ++ [.lst l]) := kLst_ok (Nat.le_trans h (by decide))
theorem ints_len (k : Int) : (intsW 0 k.toNat).length = k.toNat := by simp [intsW]
def B10 : Str := "ab0-*._A ~"
def B7 : Str := "-*.Z _a"
theorem ok_b10 : okS B10 = true := by decide +kernel
theorem b10_len : B10.length = 10 := by decide +kernel
theorem ok_b7 : okS B7 = true := by decide +kernel
theorem b7_len : B7.length = 7 := by decide +kernel
theorem star_len : ("*" : Str).length = 1 := by decide +kernel
theorem sl_str {z : Str} {lo hi : Option Int} {st : Store} (h : okS z = true) : slW (.str z) lo hi st = .ok (.str (cutS z lo hi)) st := by
  show (if z.length ≤ sizeLine then _ else _) = _
  rw [if_pos (okS.line h)]
theorem rep_StL {b : Nat} {l : List W} (h : StL b l) : ∀ k, StL b (List.replicate k l).flatten
  | 0 => fun _ m => by simp at m
  | k + 1 => by
    rw [List.replicate_succ, List.flatten_cons]
    exact h.app (rep_StL h k)
theorem mulW_l {m : Nat} {k : Int} {xs : List W} {st : Store} (h : st[m]? = some (.lst xs)) (h0 : 0 ≤ k) (h1 : k ≤ 10) (hl : xs.length ≤ 100) : mulW (.loc m) (.int k) st = .ok (.loc st.length) (st ++ [.lst (List.replicate k.toNat xs).flatten]) := by
  show (match st[m]? with | some (.lst xs) => _ | _ => _) = _
  rw [h]
  refine if_pos ⟨Int.le_trans (by decide) h0, Int.lt_of_le_of_lt h1 (by decide), ?_⟩
  have h2 : k.toNat ≤ 10 := by omega
  exact line8 (Nat.le_trans (Nat.mul_le_mul hl h2) (by decide))
theorem addW_l {m k : Nat} {xs ys : List W} {st : Store} (h : st[m]? = some (.lst xs)) (h' : st[k]? = some (.lst ys)) (hl : xs.length + ys.length ≤ 8192) : addW (.loc m) (.loc k) st = .ok (.loc st.length) (st ++ [.lst (xs ++ ys)]) := by
  show (match lst2 st m k with | some (xs, ys) => _ | none => _) = _
  unfold lst2; rw [h, h']
  exact if_pos (line8 hl)
theorem rep_len (k : Nat) (l : List W) : (List.replicate k l).flatten.length = k * l.length := by simp
theorem ten {l : List W} {st : Store} (h : l.length ≤ 8192) : kTup l st = .ok (.tup l) st := kTup_ok (line8 h)
theorem a21 {st : Store} : mulW (.str "a") (.int 21) st = .ok (.str (repS "a" 21)) st := by
  refine if_pos (?_ : CRepS "a" 21)
  exact ⟨by decide, by decide, by decide +kernel, by decide +kernel, by decide +kernel⟩
theorem ok_a21 : okS (repS "a" 21) = true := by decide +kernel
theorem pu_one {a : W} (h : pu a) : ∀ w ∈ [a], pu w := fun w hw => by
  rw [List.mem_singleton.mp hw]; exact h
def manyZ (L : Int) : Int := if L < 1 ∨ L > 20 then 0 else if L = 1 then 36 else 36 * 36 * 37 ^ (L - 2).toNat
theorem mul_small {i j : Int} {st : Store} (h : -2 ^ 64 < j) (h' : j < 2 ^ 64) : mulW (.int i) (.int j) st = .ok (.int (i * j)) st := mul_okQ (IntMulOk.of_right (intBits_le_64 h h'))
theorem mul_loop {t : DT} {b : DS} {f : Int} {n : Nat} {st : Store} {E : Option W → Int → EnvW} {k : Int} (ht : ∀ w v a s, ∃ v', t w (E v a) s = some (E v' a, s))
    (hb : ∀ v a s, b (E v a) s = .go .nx (E v (a * k)) s) (v : Option W) : ∃ v', forW (ItW.mk (intsW 0 n) none).Chk t b (intsW 0 n) (E v f) st = .go .nx (E v' (f * k ^ n)) st := by
  obtain ⟨env', st', e, v', rfl, rfl⟩ := forW_ok (chk := (ItW.mk (intsW 0 n) none).Chk) (t := t) (b := b) (fun i env S => ∃ v, env = E v (f * k ^ i) ∧ S = st) (fun _ _ _ _ => by simp) (intsW 0 n) 0 (E v f) st
    (fun i w env S hw hI => by
      obtain ⟨v, rfl, rfl⟩ := hI
      obtain ⟨v', e⟩ := ht w v (f * k ^ (0 + i)) S
      refine ⟨_, _, _, _, e, hb _ _ _, v', ?_, rfl⟩
      rw [Int.pow_succ, Int.mul_assoc]) ⟨v, by simp, rfl⟩
  refine ⟨v', ?_⟩
  rw [e]
  simp [intsW]
def mN (L : Nat) : Nat := if L < 1 ∨ L > 20 then 0 else if L = 1 then 36 else 36 * 36 * 37 ^ (L - 2)
def aN : Nat → Nat
  | 0 => 0
  | L + 1 => aN L + mN L
theorem mN_big {L : Nat} (h : 2 ≤ L) (h' : L ≤ 20) : mN L = 36 * 37 ^ (L - 2) * 36 := by
  unfold mN; rw [if_neg (by omega), if_neg (by omega)]
  generalize 37 ^ (L - 2) = x
  omega
theorem lex_app : ∀ {a b : List Nat} (c d : List Nat), a < b → a.length = b.length → a ++ c < b ++ d
  | [], [], _, _, h, _ => absurd h (List.lt_irrefl _)
  | [], _ :: _, _, _, _, e => by simp at e
  | _ :: _, [], _, _, _, e => by simp at e
  | x :: a, y :: b, c, d, h, e => by
    rw [List.cons_lt_cons_iff] at h
    rw [List.cons_append, List.cons_append, List.cons_lt_cons_iff]
    rcases h with h | ⟨h1, h2⟩
    · exact .inl h
    · exact .inr ⟨h1, lex_app c d h2 (by simpa using e)⟩
theorem aN_mono {i : Nat} : ∀ {j : Nat}, i ≤ j → aN i ≤ aN j
  | 0, h => by have : i = 0 := by omega
               subst this; exact Nat.le_refl _
  | j + 1, h => by
    by_cases e : i = j + 1
    · subst e; exact Nat.le_refl _
    · have := aN_mono (i := i) (j := j) (by omega)
      simp only [aN]; omega
theorem aN_step {i L : Nat} (h : i < L) : aN i + mN i ≤ aN L := aN_mono (i := i + 1) (j := L) h
theorem manyZ_nat (L : Nat) : manyZ (L : Int) = (mN L : Int) := by
  unfold manyZ mN
  by_cases h : L < 1 ∨ L > 20
  · rw [if_pos (by omega), if_pos h]; rfl
  · rw [if_neg (by omega), if_neg h]
    by_cases h1 : L = 1
    · rw [if_pos (by omega), if_pos h1]; rfl
    · rw [if_neg (by omega), if_neg h1, show ((L : Int) - 2).toNat = L - 2 by omega]
      simp
theorem mN_lt (L : Nat) : mN L < 2 ^ 105 := by
  unfold mN
  split
  · decide
  · split
    · decide
    · rename_i h _
      have : 37 ^ (L - 2) ≤ 37 ^ 18 := Nat.pow_le_pow_right (by decide) (by omega)
      have e : 36 * 36 * 37 ^ 18 < 2 ^ 105 := by decide +kernel
      exact Nat.lt_of_le_of_lt (Nat.mul_le_mul_left _ this) e
def numsW (l : List Int) : List W := l.map W.int
theorem sum_at {S : Store} {q : Nat} {l : List Int} (h : S[q]? = some (.lst (l.map W.int))) : sumW [.loc q] S = .ok (.int l.sum) S := by
  unfold sumW nums lstW
  simp only [h, Option.bind_some, List.map_map]
  have e : allO (l.map (inOf ∘ W.int)) = some (l.map id) := allO_of _ id _ fun _ _ => rfl
  rw [e]
  simp
theorem ix_nums {S : Store} {q : Nat} {l : List Int} (h : S[q]? = some (.lst (l.map W.int))) {j : Nat} (hj : j < l.length) : ixW (.loc q) (.int (j : Int)) S = .ok (.int (l.getD j 0)) S := by
  unfold ixW seqW
  simp only [h]
  rw [atI_nat (by simpa using hj), List.getElem?_map, List.getElem?_eq_getElem hj]
  simp [hj]
theorem len_nums {S : Store} {q : Nat} {l : List Int} (h : S[q]? = some (.lst (l.map W.int))) : lenW [.loc q] S = .ok (.int (l.length : Int)) S := by
  rw [len_seq (ws := l.map W.int) (by simp [seqW, h])]; simp
theorem app_nums {S : Store} {q : Nat} {ws : List W} {w : W} (h : S[q]? = some (.lst ws)) (hl : ws.length < sizeLine) : appendW (.loc q) [w] S = .ok .non (S.set q (.lst (ws ++ [w]))) := by
  unfold appendW; simp only [h, if_pos hl]
def MANYZ : List Int := (List.range 21).map fun i : Nat => manyZ (i : Int)
theorem MANYZ_len : MANYZ.length = 21 := by simp [MANYZ]
theorem MANYZ_get {j : Nat} (h : j < 21) : MANYZ.getD j 0 = (mN j : Int) := by
  unfold MANYZ
  rw [List.getD_eq_getElem?_getD, List.getElem?_map, List.getElem?_range h]
  simp only [Option.map_some, Option.getD_some]
  rw [manyZ_nat]
def term (ns : List Int) (i : Nat) : Int := (mN (1 + i) : Int) * ns.getD (ns.length - 1 - (1 + i)) 0
def nextN (ns : List Int) : Int := ((List.range (min 20 (ns.length - 1))).map (term ns)).sum
def NN : Nat → List Int
  | 0 => [0, 1]
  | k + 1 => NN k ++ [nextN (NN k)]
theorem NN_len : ∀ k, (NN k).length = k + 2
  | 0 => rfl
  | k + 1 => by rw [NN, List.length_append, NN_len k]; rfl
theorem sum_bound {M : Int} : ∀ {l : List Int}, (∀ x ∈ l, 0 ≤ x ∧ x ≤ M) → 0 ≤ l.sum ∧ l.sum ≤ (l.length : Int) * M
  | [], _ => by simp
  | a :: l, h => by
    obtain ⟨h1, h2⟩ := h a List.mem_cons_self
    obtain ⟨h3, h4⟩ := sum_bound fun x m => h x (List.mem_cons_of_mem _ m)
    rw [List.sum_cons, List.length_cons]
    have : ((l.length + 1 : Nat) : Int) * M = (l.length : Int) * M + M := by rw [Int.natCast_succ, Int.add_mul, Int.one_mul]
    rw [this]
    omega
theorem getD_mem {l : List Int} {j : Nat} : l.getD j 0 ∈ l ∨ l.getD j 0 = 0 := by
  by_cases h : j < l.length
  · left; rw [List.getD_eq_getElem?_getD, List.getElem?_eq_getElem h]; exact List.getElem_mem h
  · right; rw [List.getD_eq_getElem?_getD, List.getElem?_eq_none (by omega)]; rfl
theorem NN_bound : ∀ k, ∀ x ∈ NN k, 0 ≤ x ∧ x < 2 ^ (110 * (k + 1))
  | 0, x, h => by
    simp only [NN, List.mem_cons, List.not_mem_nil, or_false] at h
    rcases h with rfl | rfl <;> decide
  | k + 1, x, h => by
    have ih := NN_bound k
    have hpos : (0 : Int) < 2 ^ (110 * (k + 1)) := Int.pow_pos (by decide)
    have hstep : (2 : Int) ^ (110 * (k + 1 + 1)) = 2 ^ (110 * (k + 1)) * 2 ^ 110 := by rw [← Int.pow_add]; congr 1
    rw [hstep]
    have e110 : (2 : Int) ^ 110 = 2 ^ 105 * 32 := by decide
    have p105 : (0 : Int) < 2 ^ 105 := by decide
    simp only [NN, List.mem_append, List.mem_cons, List.not_mem_nil, or_false] at h
    generalize (2 : Int) ^ (110 * (k + 1)) = B at *
    rw [e110]
    rcases h with h | rfl
    · obtain ⟨h1, h2⟩ := ih x h
      refine ⟨h1, Int.lt_of_lt_of_le h2 ?_⟩
      have : B * 1 ≤ B * (2 ^ 105 * 32) := Int.mul_le_mul_of_nonneg_left (by decide) (by omega)
      omega
    · have key : ∀ x ∈ (List.range (min 20 ((NN k).length - 1))).map (term (NN k)), 0 ≤ x ∧ x ≤ 2 ^ 105 * B := fun x hx => by
        obtain ⟨i, _, rfl⟩ := List.mem_map.mp hx
        have hm : (mN (1 + i) : Int) < 2 ^ 105 := by
          have := mN_lt (1 + i)
          have e : ((2 ^ 105 : Nat) : Int) = 2 ^ 105 := by decide
          omega
        have hg : 0 ≤ (NN k).getD ((NN k).length - 1 - (1 + i)) 0 ∧ (NN k).getD ((NN k).length - 1 - (1 + i)) 0 < B := by
          rcases getD_mem (l := NN k) (j := (NN k).length - 1 - (1 + i)) with h | h
          · exact ih _ h
          · rw [h]; exact ⟨Int.le_refl _, hpos⟩
        unfold term
        generalize (NN k).getD ((NN k).length - 1 - (1 + i)) 0 = y at *
        refine ⟨Int.mul_nonneg (by omega) hg.1, ?_⟩
        exact Int.mul_le_mul (by omega) (by omega) hg.1 (by omega)
      obtain ⟨s1, s2⟩ := sum_bound key
      refine ⟨s1, Int.lt_of_le_of_lt s2 ?_⟩
      have hl : (((List.range (min 20 ((NN k).length - 1))).map (term (NN k))).length : Int) ≤ 20 := by simp; omega
      have hq : (0 : Int) ≤ 2 ^ 105 * B := Int.mul_nonneg (by omega) (by omega)
      have h1 := Int.mul_le_mul_of_nonneg_right hl hq
      have h2 : B * (2 ^ 105 * 32) = 32 * (2 ^ 105 * B) := by
        rw [Int.mul_comm (2 ^ 105) 32, ← Int.mul_assoc, Int.mul_comm B 32, Int.mul_assoc, Int.mul_comm B]
      have hq' : (0 : Int) < 2 ^ 105 * B := Int.mul_pos p105 hpos
      rw [h2]
      generalize (2 : Int) ^ 105 * B = C at *
      omega
theorem mul_term {k L j : Nat} {st : Store} (hk : k ≤ 400) : mulW (.int (mN L : Int)) (.int ((NN k).getD j 0)) st = .ok (.int ((mN L : Int) * (NN k).getD j 0)) st := by
  refine mul_okQ (IntMulOk.of_le (m := 105) (n := 110 * 401) (intBits_le ?_) (intBits_le ?_) (by decide))
  · have := mN_lt L; rw [Int.natAbs_natCast]; exact this
  · have hb : 0 ≤ (NN k).getD j 0 ∧ (NN k).getD j 0 < 2 ^ (110 * (k + 1)) := by
      rcases getD_mem (l := NN k) (j := j) with h | h
      · exact NN_bound k _ h
      · rw [h]; exact ⟨Int.le_refl _, Int.pow_pos (by decide)⟩
    generalize (NN k).getD j 0 = y at *
    have e : (2 : Int) ^ (110 * (k + 1)) = ((2 ^ (110 * (k + 1)) : Nat) : Int) := by simp
    rw [e] at hb
    have : (2 : Nat) ^ (110 * (k + 1)) ≤ 2 ^ (110 * 401) := Nat.pow_le_pow_right (by decide) (by omega)
    generalize (2 : Nat) ^ (110 * (k + 1)) = u at *
    generalize (2 : Nat) ^ (110 * 401) = v at *
    omega
theorem Ext.takeEq {p : Nat} {st st' : Store} (h : Ext p st st') (hp : st.length ≤ p) : st'.take st.length = st := by
  apply List.ext_getElem?
  intro i
  rw [List.getElem?_take]
  split
  · rename_i hi; exact h.keep i hi (by omega)
  · rename_i hi; rw [List.getElem?_eq_none (by omega)]
theorem nums_cl {n : Nat} {l : List Int} : clBs n (l.map W.int) = true := by
  induction l with
  | nil => rfl
  | cons a l ih => simpa [clBs, clB] using ih
theorem ints_map (lo : Int) (n : Nat) : intsW lo n = (List.range n).map fun i : Nat => W.int (lo + (i : Int)) := rfl
structure NSt (st : Store) (k : Nat) (S : Store) : Prop where
  ext : Ext (st.length + 1) st S
  le : st.length + 1 < S.length
  m : S[st.length]? = some (.lst (MANYZ.map W.int))
  n : S[st.length + 1]? = some (.lst ((NN k).map W.int))
theorem NSt.zero (st : Store) : NSt st 0 (st ++ [.lst (MANYZ.map W.int), .lst [.int 0, .int 1]]) :=
  ⟨.app _, by simp, by simp, by simp [NN]⟩
theorem NSt.step {st S : Store} {k : Nat} (h : NSt st k S) (P : Ob) : NSt st (k + 1) ((S ++ [P]).set (st.length + 1) (.lst ((NN k).map W.int ++ [.int (nextN (NN k))]))) := by
  have hl := h.le
  refine ⟨(h.ext.trans (.app [P])).set (by omega), by simp; omega, ?_, ?_⟩
  · rw [List.getElem?_set_ne (by omega), List.getElem?_append_left (by omega)]; exact h.m
  · rw [List.getElem?_set_self (by simp; omega)]; simp [NN]
theorem prods {st S : Store} {k : Nat} {env : EnvW} {i : Nat} {e : D W} (h : NSt st k S) (hk : k ≤ 399)
    (he : ∀ j : Nat, j < min 20 (k + 1) → e (env.set i (some (.int (1 + (j : Int))))) S = (ixW (.loc st.length) (.int (1 + (j : Int))) S).bind (fun a s => (ixW (.loc (st.length + 1)) (.int ((k : Int) + 1 - (1 + (j : Int)))) s).bind (mulW a))) :
    kLc env (tName i) dYes e ⟨intsW 1 (min 20 (k + 1)), none⟩ S = .ok (.loc S.length) (S ++ [.lst (((List.range (min 20 (k + 1))).map (term (NN k))).map W.int)]) := by
  have := kLc_mapB (env := env) (i := i) (e := e) (st := S) (src := none) (fun j : Nat => W.int (1 + (j : Int))) (fun j : Nat => W.int (term (NN k) j)) (List.range (min 20 (k + 1))) (by simp) (fun j hj => by
    have hj : j < min 20 (k + 1) := by simpa using hj
    rw [he j hj]
    have i1 : ixW (.loc st.length) (.int (1 + (j : Int))) S = .ok (.int (mN (1 + j))) S := by
      have := ix_nums h.m (j := 1 + j) (by rw [MANYZ_len]; omega)
      rw [MANYZ_get (by omega)] at this
      rw [← this]; congr 2 <;> omega
    have i2 : ixW (.loc (st.length + 1)) (.int ((k : Int) + 1 - (1 + (j : Int)))) S = .ok (.int ((NN k).getD (k + 1 - (1 + j)) 0)) S := by
      have := ix_nums h.n (j := k + 1 - (1 + j)) (by rw [NN_len]; omega)
      rw [← this]; congr 2 <;> omega
    rw [i1, Res.bind_ok, i2, Res.bind_ok, mul_term (by omega)]
    unfold term
    rw [NN_len]; rfl) (by simp; exact Nat.le_trans (Nat.min_le_left _ _) (by decide))
  rw [List.map_map]
  exact this
theorem while_inv {c : D Bool} {b : DS} (I : Nat → EnvW → Store → Prop) (n : Nat) (hs : ∀ i env st, i < n → I i env st → ∃ env2 st2, c env st = .ok true st ∧ b env st = .go .nx env2 st2 ∧ I (i + 1) env2 st2)
    (he : ∀ env st, I n env st → c env st = .ok false st) {env : EnvW} {st : Store} (h0 : I 0 env st) : ∃ env' st', sWhile c b env st = .go .nx env' st' ∧ I n env' st' := by
  have key : ∀ m i env st, i + m = n → I i env st → ∃ env' st', whileF c b (m + 1) env st = .go .nx env' st' ∧ I n env' st' := by
    intro m
    induction m with
    | zero =>
      intro i env st hi h
      have : i = n := by omega
      subst this
      refine ⟨env, st, ?_, h⟩
      unfold whileF
      rw [he env st h]; rfl
    | succ m ih =>
      intro i env st hi h
      obtain ⟨env2, st2, e1, e2, h2⟩ := hs i env st (by omega) h
      obtain ⟨env', st', e3, h3⟩ := ih (i + 1) env2 st2 (by omega) h2
      refine ⟨env', st', ?_, h3⟩
      unfold whileF
      rw [e1]
      simp only [Res.then_ok, if_true]
      rw [e2]; exact e3
  obtain ⟨env', st', e, h⟩ := key n 0 env st (by omega) h0
  exact ⟨env', st', sWhile_eq _ e (by simp), h⟩
@[simp] theorem rngW_i {i j : Int} {st : Store} : rngW [.int i, .int j] st = .ok (.rng i j) st := rfl
theorem itOf_rng {i j : Int} {st : Store} (h0 : 0 ≤ i) (h1 : i < 2 ^ 62) (h : 0 ≤ j) (h' : j < 2 ^ 62) : itOf (.rng i j) st = .ok ⟨intsW i (j - i).toNat, none⟩ st := by
  show (if _ then _ else _) = _
  rw [if_pos ⟨by omega, h1, by omega, h'⟩]
theorem sl_take {S : Store} {k n : Nat} {ws : List W} (h : S[k]? = some (.lst ws)) : slW (.loc k) none (some (n : Int)) S = .ok (.loc S.length) (S ++ [.lst (ws.take n)]) := by
  unfold slW lstW
  simp only [h]
  rw [cut_to]
theorem min20 (k : Nat) : (if (k : Int) + 1 < 20 then (k : Int) + 1 else 20) = ((min 20 (k + 1) : Nat) : Int) := by
  split <;> omega
theorem p1_toNat (n : Nat) : ((n : Int) + 1 - 1).toNat = n := by omega
theorem nums_end {st S : Store} {n : Nat} {k : Nat} (h : NSt st k S) : gc st (.loc S.length) (S ++ [.lst (((NN k).map W.int).take n)]) = .ok (.loc st.length) (st ++ [.lst (((NN k).take n).map W.int)]) := by
  have hl := h.le
  have := gc_new (p := st.length + 1) (st := st) (st' := S ++ [.lst (((NN k).map W.int).take n)]) (m := S.length) (ws := ((NN k).take n).map W.int) (h.ext.trans (.app _)) (fun o hp _ => absurd hp (by omega)) (by omega) (by rw [List.map_take]; simp) nums_cl
  rw [this, Ext.takeEq (h.ext.trans (.app _)) (by omega)]
def nnS (s : Nat) : Int := (NN (s - 1)).getD s 0
theorem NN_stable {i : Nat} : ∀ {k m : Nat}, i < k + 2 → k ≤ m → (NN m).getD i 0 = (NN k).getD i 0
  | k, 0, h, hm => by have : k = 0 := by omega
                      subst this; rfl
  | k, m + 1, h, hm => by
    by_cases e : k = m + 1
    · subst e; rfl
    · rw [← NN_stable (k := k) (m := m) h (by omega), NN, List.getD_eq_getElem?_getD, List.getElem?_append_left (by rw [NN_len]; omega), List.getD_eq_getElem?_getD]
theorem due_get {most s : Nat} (h : s ≤ most) : ((NN (most - 1)).take (most + 1)).getD s 0 = nnS s := by
  rw [List.getD_eq_getElem?_getD, List.getElem?_take, if_pos (by omega), ← List.getD_eq_getElem?_getD]
  exact NN_stable (by omega) (by omega)
theorem due_len (most : Nat) : ((NN (most - 1)).take (most + 1)).length = most + 1 := by
  rw [List.length_take, NN_len]; omega
def sgn (c : Nat) : W := .str ⟨#[c]⟩
def txt (l : List Nat) : Str := ⟨l.toArray⟩
theorem cl_txt (l : List Nat) : cl (txt l) = l := rfl
theorem txt_len (l : List Nat) : (txt l).length = l.length := rfl
theorem txt_one (c : Nat) : txt [c] = ⟨#[c]⟩ := rfl
theorem dm_ok {n m : Nat} {st : Store} (h : 0 < m) (h' : m < 100) : divmodW [.int (n : Int), .int (m : Int)] st = .ok (.tup [.int ((n / m : Nat) : Int), .int ((n % m : Nat) : Int)]) st := by
  have : CDiv (n : Int) (m : Int) := ⟨by omega, by omega⟩
  unfold divmodW
  simp only [if_pos this]
  rfl
theorem dm36 {n : Nat} {st : Store} : divmodW [.int (n : Int), .int 36] st = .ok (.tup [.int ((n / 36 : Nat) : Int), .int ((n % 36 : Nat) : Int)]) st := dm_ok (m := 36) (by decide) (by decide)
theorem dm37 {n : Nat} {st : Store} : divmodW [.int (n : Int), .int 37] st = .ok (.tup [.int ((n / 37 : Nat) : Int), .int ((n % 37 : Nat) : Int)]) st := dm_ok (m := 37) (by decide) (by decide)
theorem kAsg_2 {i j : Nat} {a b : W} {env : EnvW} {st : Store} : kAsg (tTupT [tName i, tName j]) env (.tup [a, b]) st = .go .nx ((env.set i (some a)).set j (some b)) st := rfl
theorem sgn_join {S : Store} {q : Nat} {l : List Nat} (h : S[q]? = some (.lst (l.map sgn))) (hl : l.length ≤ 8192) : joinW (.str "") [.loc q] S = .ok (.str (txt l)) S := by
  have e : l.map sgn = (l.map fun c => (⟨#[c]⟩ : Str)).map W.str := by rw [List.map_map]; rfl
  rw [e] at h
  have hs : ((l.map fun c => (⟨#[c]⟩ : Str)).map (·.length)).sum + (l.map fun c => (⟨#[c]⟩ : Str)).length * ("" : Str).length ≤ 16777216 := by
    have h0 : ("" : Str).length = 0 := rfl
    rw [h0, Nat.mul_zero, Nat.add_zero]
    have := sum_le (xs := l.map fun c => (⟨#[c]⟩ : Str)) (f := (·.length)) (k := 1) (fun x hx => by
      obtain ⟨c, _, rfl⟩ := List.mem_map.mp hx
      exact Nat.le_refl 1)
    rw [List.length_map] at this
    omega
  rw [join_at h hs]
  congr 2
  apply str_ext
  rw [join0, cl_txt, List.map_map]
  clear h e hs hl
  induction l with
  | nil => rfl
  | cons a l ih => simpa [cl] using ih
theorem sgn_cl {n : Nat} {c : Nat} : clB n (sgn c) = true := rfl
theorem forW_pre {chk : Store → Prop} {t : DT} {b : DS} (I : Nat → EnvW → Store → Prop) (hc : ∀ i env st, I i env st → chk st) : ∀ (ws : List W) (k : Nat) (env : EnvW) (st : Store),
    (∀ i w env st, ws[i]? = some w → I (k + i) env st → ∃ env1 st1 env2 st2, t w env st = some (env1, st1) ∧ b env1 st1 = .go .nx env2 st2 ∧ I (k + i + 1) env2 st2) → I k env st →
    ∃ env' st', (∀ vs, forW chk t b (ws ++ vs) env st = forW chk t b vs env' st') ∧ I (k + ws.length) env' st'
  | [], k, env, st, _, h => ⟨env, st, fun _ => rfl, h⟩
  | w :: ws, k, env, st, hs, h => by
    obtain ⟨env1, st1, env2, st2, e1, e2, h2⟩ := hs 0 w env st rfl h
    obtain ⟨env', st', e3, h3⟩ := forW_pre I hc ws (k + 1) env2 st2 (fun i w env st hw hI => by
      have := hs (i + 1) w env st (by simpa using hw) (by rwa [show k + (i + 1) = k + 1 + i by omega])
      rwa [show k + (i + 1) + 1 = k + 1 + i + 1 by omega] at this) h2
    refine ⟨env', st', fun vs => ?_, ?_⟩
    · rw [List.cons_append]
      conv => lhs; unfold forW
      rw [if_pos (hc _ _ _ h), e1]
      dsimp only
      rw [e2]; exact e3 vs
    · rw [List.length_cons, show k + (ws.length + 1) = k + 1 + ws.length by omega]; exact h3
theorem ints_get {lo : Int} {n i : Nat} {w : W} (h : (intsW lo n)[i]? = some w) : i < n ∧ w = .int (lo + (i : Int)) := by
  have hi : i < n := by have := (List.getElem?_eq_some_iff.mp h).1; simpa [intsW] using this
  unfold intsW at h
  rw [List.getElem?_map, List.getElem?_range hi] at h
  exact ⟨hi, by simpa using h.symm⟩
theorem ahead_sum : ∀ n : Nat, ((List.range n).map fun i : Nat => ((mN (1 + i) : Nat) : Int)).sum = (aN (n + 1) : Int)
  | 0 => rfl
  | n + 1 => by
    rw [List.range_succ, List.map_append, List.sum_append, ahead_sum n]
    simp only [List.map_cons, List.map_nil, List.sum_cons, List.sum_nil]
    rw [show aN (n + 1 + 1) = aN (n + 1) + mN (n + 1) from rfl, Nat.add_comm 1 n]
    omega
theorem ahead_lc {st : Store} {env : EnvW} {i L : Nat} {e : D W} (h1 : 1 ≤ L) (h2 : L ≤ 21) (he : ∀ j : Nat, e (env.set i (some (.int (1 + (j : Int))))) st = .ok (.int (manyZ (1 + (j : Int)))) st) :
    ∃ g, kLc env (tName i) dYes e ⟨intsW 1 (L - 1), none⟩ st = .ok (.loc st.length) (st ++ [g]) ∧ sumW [.loc st.length] (st ++ [g]) = .ok (.int (aN L : Int)) (st ++ [g]) := by
  have := kLc_mapB (env := env) (i := i) (e := e) (st := st) (src := none) (fun j : Nat => W.int (1 + (j : Int))) (fun j : Nat => W.int ((mN (1 + j) : Nat) : Int)) (List.range (L - 1)) (by simp) (fun j hj => by
    rw [he j, show (1 : Int) + (j : Int) = ((1 + j : Nat) : Int) by omega, manyZ_nat]) (by simp; exact Nat.le_trans (show L ≤ 100 by omega) (by decide))
  refine ⟨_, this, ?_⟩
  rw [sum_at (l := (List.range (L - 1)).map fun i : Nat => ((mN (1 + i) : Nat) : Int)) (by rw [List.map_map]; simp), ahead_sum, show L - 1 + 1 = L by omega]
theorem txt_lenW {l : List Nat} {st : Store} (h : okS (txt l) = true) : lenW [.str (txt l)] st = .ok (.int (l.length : Int)) st := by
  rw [len_str (okS.line h), txt_len]
theorem txt_first {l : List Nat} {st : Store} (h : okS (txt l) = true) (h1 : 1 ≤ l.length) : ixW (.str (txt l)) (.int 0) st = .ok (sgn (l.getD 0 0)) st := by
  obtain ⟨c, e, _, q⟩ := ix_str (x := txt l) (i := 0) (okS.line h) (by decide) (by rw [txt_len]; omega)
  rw [q st]
  have : l.getD 0 0 = c := by rw [List.getD_eq_getElem?_getD]; have e' : l[0]? = some c := e; rw [e']; rfl
  rw [this]; rfl
theorem txt_last {l : List Nat} {st : Store} (h : okS (txt l) = true) (h1 : 1 ≤ l.length) : ixW (.str (txt l)) (.int (-1)) st = .ok (sgn (l.getD (l.length - 1) 0)) st := by
  obtain ⟨c, e, _, q⟩ := ix_strL (x := txt l) (okS.line h) (by rw [txt_len]; omega)
  rw [q st]
  have : l.getD (l.length - 1) 0 = c := by rw [List.getD_eq_getElem?_getD]; have e' : l[l.length - 1]? = some c := e; rw [e']; rfl
  rw [this]; rfl
theorem cut_mid {l : List Nat} (h1 : 2 ≤ l.length) : cutS (txt l) (some 1) (some (-1)) = txt ((l.drop 1).take (l.length - 2)) := by
  apply str_ext
  show List.take _ (List.drop _ l) = _
  have e1 : HT.sIx (txt l).length 0 (some 1) = 1 := by
    unfold HT.sIx
    simp only
    rw [if_neg (by decide), txt_len]
    have : (1 : Int).toNat = 1 := rfl
    rw [this]; omega
  have e2 : HT.sIx (txt l).length (txt l).length (some (-1)) = l.length - 1 := by
    unfold HT.sIx
    simp only
    rw [if_pos (by decide), txt_len]; omega
  rw [e1, e2]
  rfl
theorem signs_txt (l : List Nat) : MP.signs (txt l) = l.map sgn := rfl
theorem sgn_set {l : List Nat} {i c : Nat} : (l.map sgn).set i (sgn c) = (l.set i c).map sgn := by rw [List.map_set]
@[simp] theorem sTryEach_ap (b : DS) (l : List ClD) (env : EnvW) (st : Store) : sTryEach b l env st = kEach l (b env st) := rfl
theorem gc_any {st g : Store} {m : Nat} {ws : List W} (hm : st.length ≤ m) (e : (st ++ g)[m]? = some (.lst ws)) : ∃ q g', gc st (.loc m) (st ++ g) = .ok (.loc q) (st ++ g') ∧ (st ++ g')[q]? = some (.lst ws) ∧ (clBs st.length ws = true ∨ g' = g) := by
  by_cases h : clBs st.length ws = true
  · exact ⟨st.length, [.lst ws], gc_newA hm e h, by simp, .inl h⟩
  · have g0 : GcOk st (st ++ g) := fun i hi => .inl (List.getElem?_append_left hi)
    have hv : ¬ clB st.length (.loc m) = true := by simp [clB]; omega
    refine ⟨m, g, ?_, e, .inr rfl⟩
    unfold gc; rw [if_pos g0, if_neg hv]
    simp only [e, if_neg h]
theorem pic_cl {st g g' : Store} {w u : W} (h : Pic (st ++ g) w u) (hc : clB st.length w = true) : Pic (st ++ g') w u := by
  cases h with
  | pu _ h => exact .pu _ h
  | ls k ws h hl hw =>
    have hk : k < st.length := by simpa [clB] using hc
    refine .ls k ws ?_ hl hw
    rw [List.getElem?_append_left hk] at h ⊢
    exact h
def eL : Str := "label"
def eNum : Str := "number"
theorem ok_eL : okS eL = true := by decide +kernel
theorem ok_eNum : okS eNum = true := by decide +kernel
theorem sub1 : subL [("TreeError", false), ("InvalidLabel", false), ("InvalidNumber", true)] "InvalidNumber" = some true := by decide +kernel
theorem sub2 : subL [("TreeError", false), ("InvalidLabel", false), ("InvalidNumber", true)] "InvalidLabel" = some false := by decide +kernel
theorem sub3 : subL [("TreeError", false), ("InvalidLabel", true), ("InvalidNumber", false)] "InvalidLabel" = some true := by decide +kernel
def rL : List ClD := [(3, subL [("TreeError", false), ("InvalidLabel", false), ("InvalidNumber", true)], fun cN wv => (sAsg (dLst (dCons (dC (.str "number")) (dCons (dExc wv) dNil))) (tName 2))), (3, subL [("TreeError", false), ("InvalidLabel", true), ("InvalidNumber", false)], fun cN wv => (sAsg (dLst (dCons (dC (.str "label")) (dCons (dExc wv) dNil))) (tName 2)))]
theorem each_num {a b c d : Option W} {w : W} {T : Store} : kEach rL (.err "InvalidNumber" w [a, b, c, d] T) = .go .nx [a, b, some (.loc T.length), none] (T ++ [.lst [.str eNum, w]]) := by
  have kl : kLst [.str "number", w] T = .ok (.loc T.length) (T ++ [.lst [.str eNum, w]]) := lst5 (by simp)
  unfold kEach rL eachC
  simp only [sub1, List.length_cons, List.length_nil, Nat.reduceAdd, Nat.reduceLT, if_true]
  simp -implicitDefEqProofs [kl]
theorem each_lab {a b c d : Option W} {w : W} {T : Store} : kEach rL (.err "InvalidLabel" w [a, b, c, d] T) = .go .nx [a, b, some (.loc T.length), none] (T ++ [.lst [.str eL, w]]) := by
  have kl : kLst [.str "label", w] T = .ok (.loc T.length) (T ++ [.lst [.str eL, w]]) := lst5 (by simp)
  unfold kEach rL eachC
  simp only [sub2]
  unfold eachC
  simp only [sub3, List.length_cons, List.length_nil, Nat.reduceAdd, Nat.reduceLT, if_true]
  simp -implicitDefEqProofs [kl]
@[simp] theorem neW_i {i j : Int} {st : Store} : neW (.int i) (.int j) st = .ok (.bl (!(i == j))) st := by
  rw [pic_ne (.pu _ rfl) (.pu _ rfl)]
  simp only [dU, d5, dat, PyData.eqv.eq_5]
theorem log_big {m : Int} {k : Nat} (h0 : 0 < m) (h : m < 2 ^ k) (hk : k ≤ 8000) : m.natAbs.log2 < 9000 := by
  have h1 : m.natAbs ≠ 0 := by omega
  have h2 : m.natAbs < 2 ^ k := by
    have e : (2 : Int) ^ k = ((2 ^ k : Nat) : Int) := by simp
    rw [e] at h
    omega
  have := (Nat.log2_lt h1).mpr h2
  omega
theorem seq_loc {S : Store} {k : Nat} {ws : List W} (h : S[k]? = some (.lst ws)) : seqW S (.loc k) = some ws := by simp [seqW, h]
theorem mN_pos {L : Nat} (h : 1 ≤ L) (h' : L ≤ 20) : 0 < mN L := by
  unfold mN
  rw [if_neg (by omega)]
  split
  · decide
  · exact Nat.mul_pos (by decide) (Nat.pow_pos (by decide))
theorem mN_log {L : Nat} (h : 1 ≤ L) (h' : L ≤ 20) : (mN L : Int).natAbs.log2 < 9000 := by
  refine log_big (k := 105) (by have := mN_pos h h'; omega) ?_ (by decide)
  have := mN_lt L
  have e : (2 : Int) ^ 105 = ((2 ^ 105 : Nat) : Int) := by decide
  rw [e]; omega
theorem le_same {a b : List Nat} {n : Int} {st : Store} (h : a < b) : leTW (.tup [.int n, .str (txt b)]) (.tup [.int n, .str (txt a)]) st = .ok (.bl false) st := by
  have h1 : (txt b == txt a) = false := by
    rw [Bool.eq_false_iff]
    intro z
    have : txt b = txt a := beq_iff_eq.mp z
    have : b = a := by have := congrArg cl this; rwa [cl_txt, cl_txt] at this
    rw [this] at h
    exact List.lt_irrefl _ h
  have h2 : decide ((txt a).cps.toList < (txt b).cps.toList) = true := decide_eq_true h
  unfold leTW
  simp only [pairsW, pairW, h1, h2, List.length_cons, List.length_nil, Nat.reduceAdd, Nat.min_self]
  simp [Ob.lexAt]
theorem le_more {x y : Str} {n : Int} {st : Store} : leTW (.tup [.int (n + 1), .str y]) (.tup [.int n, .str x]) st = .ok (.bl false) st := by
  have h1 : (n + 1 == n) = false := beq_false_of_ne (by omega)
  have h2 : decide (n + 1 ≤ n) = false := decide_eq_false (by omega)
  unfold leTW
  simp only [pairsW, pairW, h1, h2, List.length_cons, List.length_nil, Nat.reduceAdd, Nat.min_self]
  simp [Ob.lexAt]
theorem isi_int {z : Int} {st : Store} : isiW [.int z, .gl (.ty "int")] st = .ok (.bl true) st := isi_of (t := "int") rfl (kB_int (.int z))
theorem isi_int_b {z : Int} {st : Store} : isiW [.int z, .gl (.ty "bool")] st = .ok (.bl false) st := isi_of (t := "int") rfl (kB_bool (.int z))
theorem num_pic {S : Store} {q : Nat} {v : Int} (h : S[q]? = some (.lst [.str eNum, .int v])) : Pic S (.loc q) (.fro [.str eNum, .int v]) := .ls q _ h (by simp) (fun w hw => by
  simp only [List.mem_cons, List.not_mem_nil, or_false] at hw
  rcases hw with rfl | rfl
  · exact ok_eNum
  · rfl)
theorem num_eq {S : Store} {q q' : Nat} {v : Int} (h : S[q]? = some (.lst [.str eNum, .int v])) (h' : S[q']? = some (.lst [.str eNum, .int v])) : eqW (.loc q) (.loc q') S = .ok (.bl true) S := by
  rw [pic_eq (num_pic h) (num_pic h'), (num_pic h).refl]
theorem num_ne {S : Store} {q q' : Nat} {v : Int} (h : S[q]? = some (.lst [.str eNum, .int v])) (h' : S[q']? = some (.lst [.str eNum, .int v])) : neW (.loc q) (.loc q') S = .ok (.bl false) S := by
  rw [pic_ne (num_pic h) (num_pic h'), (num_pic h).refl]; rfl
theorem lab_data {S : Store} {q : Nat} {a u : W} (h : S[q]? = some (.lst [.str eL, a])) (hp : Pic S a u) : datF S 66 (.loc q) = some (.list [.str eL, dU u]) ∧ SeqAt.shaped (.list [.str eL, dU u]) = true := by
  constructor
  · have h1 : datF S 65 a = some (dU u) := hp.dat 65 (by decide)
    have h2 : datF S 65 (.str eL) = some (.str eL) := rfl
    show (match S[q]? with | some (.lst ws) => (allO (ws.map (datF S 65))).map PyData.list | none => none) = _
    rw [h]
    simp only [List.map_cons, List.map_nil, h1, h2, allO, Option.map_some]
  · obtain ⟨c, d⟩ := hp.shp
    refine shaped_of ⟨?_, ?_⟩
    · show PyData.canLayAll0 [.str eL, dU u] = true
      rw [PyData.canLayAll0.eq_2, PyData.canLayAll0.eq_2, c]
      exact (by decide +kernel : ((PyData.str eL).canLay0 && (true && PyData.canLayAll0 [])) = true)
    · rw [PyData.depth.eq_1, PyData.depthAll.eq_2, PyData.depthAll.eq_2]
      have : (PyData.str eL).depth = 0 := rfl
      have h0 : PyData.depthAll [] = 0 := rfl
      rw [this, h0]; omega
theorem lab_eq {S : Store} {q q' : Nat} {a b u : W} (h : S[q]? = some (.lst [.str eL, a])) (h' : S[q']? = some (.lst [.str eL, b])) (hp : Pic S a u) (hp' : Pic S b u) : eqW (.loc q) (.loc q') S = .ok (.bl true) S := by
  obtain ⟨d1, s1⟩ := lab_data h hp
  obtain ⟨d2, s2⟩ := lab_data h' hp'
  rw [eqW_of d1 d2 s1 s2]
  congr 2
  rw [PyData.eqv.eq_7, PyData.eqvAll.eq_2, PyData.eqvAll.eq_2, hp.refl, PyData.eqv.eq_6]
  simp [PyData.eqvAll.eq_1]
theorem eq_a {w u : W} {st : Store} (h : Pic st w u) : (u = .str "a" ∧ w = .str "a" ∧ eqW w (.str "a") st = .ok (.bl true) st) ∨ (u ≠ .str "a" ∧ eqW w (.str "a") st = .ok (.bl false) st) := by
  have ha : okS ("a" : Str) = true := by decide +kernel
  have e := pic_eq h (.pu (st := st) (.str "a") (pu_str ha))
  by_cases hu : u = .str "a"
  · subst hu
    obtain ⟨rfl, _⟩ := Pic.str h
    refine .inl ⟨rfl, rfl, ?_⟩
    rw [eqW_str ha ha]; simp
  · refine .inr ⟨hu, ?_⟩
    rw [e]
    congr 2
    cases h with
    | pu _ hp =>
      rw [dU_pu hp]
      show (dat 5 w).eqv (.str "a") = false
      rw [eqv_str]
      cases w with
      | str y =>
        simp only
        exact beq_false_of_ne (fun z => hu (by rw [z]))
      | _ => rfl
    | ls k ws _ _ _ => rfl
def BAD (w5 : W) : List W := [.str "*", .str (repS "a" 21), .str "", .str "-a", w5, .tup [.str "a"]]
def tW (l : List Nat) : W := .str (txt l)
theorem txt_inj {a b : List Nat} (h : txt a = txt b) : a = b := by
  have := congrArg cl h; rwa [cl_txt, cl_txt] at this
theorem ok_t {l : List Nat} (h : ∀ c ∈ l, c < 128) (hl : l.length ≤ 8192) : okS (txt l) = true := okS_iff.mpr ⟨hl, h⟩
theorem in_ints {neg : Bool} {x : Int} {xs : List Int} {k : Nat} {st : Store} (h : st[k]? = some (.lst (xs.map W.int))) : inW neg (.int x) (.loc k) st = .ok (.bl (if neg then !decide (x ∈ xs) else decide (x ∈ xs))) st := by
  unfold inW inB
  have e : allO ((xs.map W.int).map flV) = some (xs.map V.int) := by
    rw [List.map_map]; exact allO_of _ V.int xs fun _ _ => rfl
  simp only [seq_loc h, flV, e]
  have : inV (V.int x) (xs.map V.int) = decide (x ∈ xs) := by
    unfold inV
    rw [List.any_map, Bool.eq_iff_iff, List.any_eq_true, decide_eq_true_iff]
    constructor
    · rintro ⟨y, hy, e⟩
      have : y = x := by simpa [L2.eqV] using e
      rw [← this]; exact hy
    · exact fun h => ⟨x, h, by simp [L2.eqV]⟩
  rw [this]
theorem in_txts {neg : Bool} {x : List Nat} {xs : List (List Nat)} {k : Nat} {st : Store} (h : st[k]? = some (.lst (xs.map tW))) : inW neg (tW x) (.loc k) st = .ok (.bl (if neg then !decide (x ∈ xs) else decide (x ∈ xs))) st := by
  unfold inW inB
  have e : allO ((xs.map tW).map flV) = some (xs.map fun l => V.str (txt l)) := by
    rw [List.map_map]; exact allO_of _ (fun l => V.str (txt l)) xs fun _ _ => rfl
  simp only [seq_loc h, tW, flV, e]
  have : inV (V.str (txt x)) (xs.map fun l => V.str (txt l)) = decide (x ∈ xs) := by
    unfold inV
    rw [List.any_map, Bool.eq_iff_iff, List.any_eq_true, decide_eq_true_iff]
    constructor
    · rintro ⟨y, hy, e⟩
      have : txt y = txt x := by simpa [L2.eqV] using e
      rw [← txt_inj this]; exact hy
    · exact fun h => ⟨x, h, by simp [L2.eqV]⟩
  rw [this]
theorem lcW_filter {β : Type} {chk : Store → Prop} {env : EnvW} {i : Nat} {c : D Bool} {e : D W} {st : Store} (k g : β → W) (q : β → Bool) (hc : chk st) : ∀ (l : List β) (acc : List W), (∀ b ∈ l, c (env.set i (some (k b))) st = .ok (q b) st ∧ (q b = true → e (env.set i (some (k b))) st = .ok (g b) st)) → acc.length + l.length ≤ sizeLine →
    lcW chk env (tName i) c e (l.map k) acc st = some (acc ++ (l.filter q).map g, st)
  | [], acc, _, _ => by unfold lcW; simp only [List.map_nil]; rw [if_pos hc]; simp
  | b :: l, acc, hs, hl => by
    simp only [List.length_cons] at hl
    simp only [List.map_cons]
    obtain ⟨h1, h2⟩ := hs b List.mem_cons_self
    have ih := fun acc => lcW_filter k g q hc l acc fun w m => hs w (List.mem_cons_of_mem _ m)
    unfold lcW
    rw [if_pos hc]
    dsimp only [tName]
    rw [h1]
    cases hq : q b with
    | true =>
      dsimp only
      rw [h2 hq]
      dsimp only
      rw [if_pos (by omega), ih (acc ++ [g b]) (by simp; omega)]
      simp [hq]
    | false =>
      dsimp only
      rw [ih acc (by omega)]
      simp [hq]
theorem kLc_filter {β : Type} {env : EnvW} {i : Nat} {c : D Bool} {e : D W} {st : Store} {src : Option Nat} (k g : β → W) (q : β → Bool) (l : List β) (hc : (ItW.mk (l.map k) src).Chk st) (hs : ∀ b ∈ l, c (env.set i (some (k b))) st = .ok (q b) st ∧ (q b = true → e (env.set i (some (k b))) st = .ok (g b) st)) (hl : l.length ≤ sizeLine) :
    kLc env (tName i) c e ⟨l.map k, src⟩ st = .ok (.loc st.length) (st ++ [.lst ((l.filter q).map g)]) := by
  unfold kLc
  simp only
  rw [lcW_filter k g q hc l [] hs (by simpa using hl)]
  simp
theorem least {P : Nat → Prop} : ∀ n, (∃ i, i < n ∧ P i) → ∃ i, i < n ∧ P i ∧ ∀ j, j < i → ¬ P j
  | 0, h => by obtain ⟨i, hi, _⟩ := h; omega
  | n + 1, h => by
    by_cases q : ∃ i, i < n ∧ P i
    · obtain ⟨i, h1, h2, h3⟩ := least n q
      exact ⟨i, by omega, h2, h3⟩
    · obtain ⟨i, hi, hp⟩ := h
      refine ⟨i, hi, hp, fun j hj hq => q ⟨j, by omega, hq⟩⟩
theorem ints0 (n : Nat) : intsW 0 n = (List.range n).map fun i : Nat => W.int (i : Int) := by simp [intsW]
theorem ix_tW {S : Store} {q i : Nat} {l : List (List Nat)} (h : S[q]? = some (.lst (l.map tW))) (hi : i < l.length) : ixW (.loc q) (.int (i : Int)) S = .ok (tW (l.getD i [])) S := by
  unfold ixW
  simp only [seq_loc h]
  rw [atI_nat (by simpa using hi), List.getElem?_map, List.getElem?_eq_getElem hi]
  simp [hi]
theorem listA_loc {S : Store} {q : Nat} {ws : List W} (h : S[q]? = some (.lst ws)) : listAW [.loc q] S = .ok (.loc S.length) (S ++ [.lst ws]) := by
  show listW [.loc q] S = _
  unfold listW
  simp only [seq_loc h]
theorem rev_loc {S : Store} {q : Nat} {ws : List W} (h : S[q]? = some (.lst ws)) : revW (.loc q) S = .ok (.loc S.length) (S ++ [.lst ws.reverse]) := by
  unfold revW lstW
  simp only [h]
theorem star_tW : (W.str "*") = tW [42] := by
  have : ("*" : Str) = txt [42] := by decide +kernel
  rw [this]; rfl
theorem txts_pic {S : Store} {q : Nat} {l : List (List Nat)} (h : S[q]? = some (.lst (l.map tW))) (hl : l.length ≤ 8192) (ho : ∀ x ∈ l, okS (txt x) = true) : Pic S (.loc q) (.fro (l.map tW)) := .ls q _ h (by simpa using hl) (fun w hw => by
  obtain ⟨x, hx, rfl⟩ := List.mem_map.mp hw
  exact ho x hx)
def uS5 : DS := (sAsg (dApp listAW (dCons (dVar 4) dNil)) (tName 5))
def uS6 : DS := (sAsg (dOp ixW (dLc (dIt (dVar 1)) [8] (tName 8) (dBool (dOp (inW true) (dVar 8) (dVar 4))) (dVar 8)) (dC (.int 0))) (tName 6))
section
variable {p n R : Nat} {b2 b3 b4 b5 b6 b7 b8 : Option W} {S : Store}
end
end
end MP
namespace K04
open PySem PySem.Spec PyProof.Rows L2 MP
noncomputable section
abbrev top (i : Nat) : Stmt := PySem.Challenge.pw_rootward_k04_kinds_data_and_records.main.body.getD i (.Pass ⟨0, 0, 0, 0⟩)
def c_WILD : Str := "*"
def c_ENDS : Str := "0123456789abcdefghijklmnopqrstuvwxyz"
def c_INNER : Str := "-0123456789abcdefghijklmnopqrstuvwxyz"
def c_KINDS : List Str := ["addr", "alias", "back", "mail", "server", "start", "text", "tree"]
def c_NAMING : List Str := ["alias", "back", "server", "tree"]
structure Txt (P : Program) (w : World) (K : PySem.W.Frag) (mg : Str → Option Value) (base : Heap) where
  D_place : DefF K mg "place" "place" (top 4) ["name"]
  D_is_whole : DefF K mg "is_whole" "is_whole" (top 6) ["value"]
  D_is_between : DefF K mg "is_between" "is_between" (top 7) ["value", "least", "most"]
  D_rebuilt : DefF K mg "rebuilt" "rebuilt" (top 8) ["value"]
  D__is_plain : DefF K mg "_is_plain" "_is_plain" (top 14) ["text"]
  D_is_name : DefF K mg "is_name" "is_name" (top 15) ["value"]
  D_is_asked : DefF K mg "is_asked" "is_asked" (top 16) ["value"]
  D_is_kind : DefF K mg "is_kind" "is_kind" (top 25) ["value"]
  D_check_kind : DefF K mg "check_kind" "check_kind" (top 26) ["kind"]
  D_is_data : DefF K mg "is_data" "is_data" (top 27) ["kind", "value"]
  D__is_mail : DefF K mg "_is_mail" "_is_mail" (top 28) ["value"]
  D__is_start : DefF K mg "_is_start" "_is_start" (top 29) ["value"]
  D__is_text : DefF K mg "_is_text" "_is_text" (top 30) ["value"]
  D_is_record : DefF K mg "is_record" "is_record" (top 31) ["value"]
  D_data_compared : DefF K mg "data_compared" "data_compared" (top 32) ["kind", "one", "other"]
  D_data_place : DefF K mg "data_place" "data_place" (top 33) ["kind", "data"]
  D__law_pot : DefF K mg "_law_pot" "_law_pot" (top 35) ["_law_script", "_law_k"]
  D__law_take : DefF K mg "_law_take" "_law_take" (top 36) ["_law_pot_here", "_law_many"]
  D__law_same : DefF K mg "_law_same" "_law_same" (top 37) ["_law_told", "_law_due"]
  D__law_label : DefF K mg "_law_label" "_law_label" (top 38) ["_law_pot_here"]
  D__law_words : DefF K mg "_law_words" "_law_words" (top 39) ["_law_pot_here", "_law_many"]
  D__law_odd : DefF K mg "_law_odd" "_law_odd" (top 40) ["_law_pot_here"]
  D__law_is_label : DefF K mg "_law_is_label" "_law_is_label" (top 41) ["_law_value"]
  D__law_is_name : DefF K mg "_law_is_name" "_law_is_name" (top 42) ["_law_value"]
  D__law_text : DefF K mg "_law_text" "_law_text" (top 43) ["_law_pot_here"]
  D__law_number : DefF K mg "_law_number" "_law_number" (top 44) ["_law_pot_here", "_law_bound"]
  D__law_data : DefF K mg "_law_data" "_law_data" (top 45) ["_law_pot_here", "_law_kind", "_law_names_here"]
  D__law_data_key : DefF K mg "_law_data_key" "_law_data_key" (top 46) ["_law_kind", "_law_data_here"]
  D__law_kinds : DefF K mg "_law_kinds" "_law_kinds" (top 47) []
  D__law_names : DefF K mg "_law_names" "_law_names" (top 48) ["_law_pot_here"]
  D__law_in : DefF K mg "_law_in" "_law_in" (top 49) ["_law_value", "_law_bound"]
  D__law_asked : DefF K mg "_law_asked" "_law_asked" (top 50) ["_law_value"]
  D__law_is_data : DefF K mg "_law_is_data" "_law_is_data" (top 51) ["_law_kind", "_law_value"]
  D__law_bent : DefF K mg "_law_bent" "_law_bent" (top 52) ["_law_pot_here", "_law_value", "_law_names_here"]
  D__law_odd_kind : DefF K mg "_law_odd_kind" "_law_odd_kind" (top 53) ["_law_pot_here"]
  D__law_refused : DefF K mg "_law_refused" "_law_refused" (top 54) ["_law_way", "_law_kind", "_law_one", "_law_other"]
  D__law_data_right : DefF K mg "_law_data_right" "_law_data_right" (top 55) ["_law_pot_here", "_law_kind", "_law_names_here"]
  D__law_records_right : DefF K mg "_law_records_right" "_law_records_right" (top 56) ["_law_pot_here", "_law_kind", "_law_names_here"]
  D_law : DefF K mg "law" "law" (top 57) ["_law_script"]
  k_data_compared : ∀ (s : Shared) (ws : List Value), K.In s.heap → ws.length = (["kind", "one", "other"] : List Str).length → BindsTo s D_data_compared.fd ⟨[], (["kind", "one", "other"] : List Str).zip ws⟩ ((["kind", "one", "other"] : List Str).zip ws)
  k_is_record : ∀ (s : Shared) (ws : List Value), K.In s.heap → ws.length = (["value"] : List Str).length → BindsTo s D_is_record.fd ⟨[], (["value"] : List Str).zip ws⟩ ((["value"] : List Str).zip ws)
  k_is_kind : ∀ (s : Shared) (ws : List Value), K.In s.heap → ws.length = (["value"] : List Str).length → BindsTo s D_is_kind.fd ⟨[], (["value"] : List Str).zip ws⟩ ((["value"] : List Str).zip ws)
  k_is_data_1_0 : ∀ (s : Shared) (ws : List Value), K.In s.heap → ws.length = (["kind", "value"] : List Str).length → BindsTo s D_is_data.fd ⟨[], (["value", "kind"] : List Str).zip ws⟩ ((["kind", "value"] : List Str).zip (permL [1, 0] ws))
  E_TreeError : ErF P w K mg base "TreeError"
  E_InvalidKind : ErF P w K mg base "InvalidKind"
  c_WILD : ∃ t, mg "WILD" = some (.str c_WILD t)
  c_LONGEST : ∃ t, mg "LONGEST" = some (.int 20 t)
  c_ENDS : ∃ t, mg "ENDS" = some (.str c_ENDS t)
  c_INNER : ∃ t, mg "INNER" = some (.str c_INNER t)
  c_KINDS : GTup K mg "KINDS" c_KINDS
  c_NAMING : GTup K mg "NAMING" c_NAMING
  c_MOST_AGE : ∃ t, mg "MOST_AGE" = some (.int 2147483647 t)
  c_MOST_SERIAL : ∃ t, mg "MOST_SERIAL" = some (.int 4294967295 t)
  c_MOST_RANK : ∃ t, mg "MOST_RANK" = some (.int 65535 t)
  c_LONGEST_TEXT : ∃ t, mg "LONGEST_TEXT" = some (.int 60 t)
  c_PERCENT : ∃ t, mg "PERCENT" = some (.int 37 t)
  n_abs : mg "abs" = none
  n_all : mg "all" = none
  n_bool : mg "bool" = none
  n_int : mg "int" = none
  n_isinstance : mg "isinstance" = none
  n_len : mg "len" = none
  n_list : mg "list" = none
  n_max : mg "max" = none
  n_min : mg "min" = none
  n_ord : mg "ord" = none
  n_range : mg "range" = none
  n_str : mg "str" = none
  n_tuple : mg "tuple" = none
  sub_InvalidKind : ∀ q ∈ ([("TreeError", false), ("InvalidKind", true)] : List (Str × Bool)), ∃ C, mg q.1 = some (.ref C) ∧ PySem.W.exmOne K (.ref C) (.ref E_InvalidKind.C) = some q.2 ∧ XfC K C ∧ PySem.W.findIn K (.ref C) ("value" : Str) = some none
section
variable {P : Program} {w : World} {K : PySem.W.Frag} {mg : Str → Option Value} {base : Heap}
/-! place -/
theorem sc_place : FnScope ["name"] ["name"] (defScope (top 4)) := ⟨rfl, rfl, rfl, by decide +kernel, rfl, by decide +kernel, by decide +kernel⟩
def b_place : DS := (sRet (dUn rev2W (dVar 0)))
def d_place : List W → Store → Res W := fnDen 1 b_place
def fn_place (T : Txt P w K mg base) : FnF P w K mg base "place" ["name"] 1 1 d_place :=
  ⟨T.D_place.f, T.D_place.fd, fn_ok (k := 0) T.D_place.F sc_place (fun cdv A outer s H E hr => (is_one (is_ret (ie_rev2 (ie_var 0))))), T.D_place.m, T.D_place.F.kp, T.D_place.b⟩
/-! is_whole -/
theorem sc_is_whole : FnScope ["value"] ["value"] (defScope (top 6)) := ⟨rfl, rfl, rfl, by decide +kernel, rfl, by decide +kernel, by decide +kernel⟩
def b_is_whole : DS := (sRet (dAndV (dApp isiW (dCons (dVar 0) (dCons (dC (.gl (.ty "int"))) dNil))) (dNotV (dApp isiW (dCons (dVar 0) (dCons (dC (.gl (.ty "bool"))) dNil))))))
def d_is_whole : List W → Store → Res W := fnDen 1 b_is_whole
def fn_is_whole (T : Txt P w K mg base) : FnF P w K mg base "is_whole" ["value"] 1 1 d_is_whole :=
  ⟨T.D_is_whole.f, T.D_is_whole.fd, fn_ok (k := 0) T.D_is_whole.F sc_is_whole (fun cdv A outer s H E hr => (is_one (is_ret (ie_and (ie_isi rfl T.n_isinstance (ia_cons (ie_var 0) (ia_cons (ie_ty (T := "int") rfl T.n_int (by decide +kernel)) ia_nil))) (ie_one (ie_notV (ie_isi rfl T.n_isinstance (ia_cons (ie_var 0) (ia_cons (ie_ty (T := "bool") rfl T.n_bool (by decide +kernel)) ia_nil))))))))), T.D_is_whole.m, T.D_is_whole.F.kp, T.D_is_whole.b⟩
/-! is_between -/
theorem sc_is_between : FnScope ["value", "least", "most"] ["value", "least", "most"] (defScope (top 7)) := ⟨rfl, rfl, rfl, by decide +kernel, rfl, by decide +kernel, by decide +kernel⟩
def b_is_between : DS := (sRet (dAndV (dCall 1 d_is_whole (dCons (dVar 0) dNil)) (dChain leW leW (dVar 1) (dVar 0) (dVar 2))))
def d_is_between : List W → Store → Res W := fnDen 3 b_is_between
def fn_is_between (T : Txt P w K mg base) : FnF P w K mg base "is_between" ["value", "least", "most"] 2 3 d_is_between :=
  ⟨T.D_is_between.f, T.D_is_between.fd, fn_ok (k := 1) T.D_is_between.F sc_is_between (fun cdv A outer s H E hr => (is_one (is_ret (ie_and (ie_callF (fn_is_whole T) (hr.mono (by decide)) (takes_of rfl rfl rfl rfl) (ia_cons (ie_var 0) ia_nil)) (ie_one (ie_lele (ie_var 1) (ie_var 0) (ie_var 2))))))), T.D_is_between.m, T.D_is_between.F.kp, T.D_is_between.b⟩
/-! rebuilt -/
theorem sc_rebuilt : FnScope ["value", "part"] ["value"] (defScope (top 8)) := ⟨rfl, rfl, rfl, by decide +kernel, rfl, by decide +kernel, by decide +kernel⟩
def b_rebuilt (rec : List W → Store → Res W) : DS := (sSeq (sIf (dBool (dApp isiW (dCons (dVar 0) (dCons (dC (.gl (.ty "list"))) dNil))))
    (sRet (dLc (dIt (dVar 0)) [1] (tName 1) dYes (dCall 1 rec (dCons (dVar 1) dNil))))
    sNil)
    (sSeq (sIf (dBool (dApp isiW (dCons (dVar 0) (dCons (dC (.gl (.ty "tuple"))) dNil))))
    (sRet (dApp tupleW (dCons (dLc (dIt (dVar 0)) [1] (tName 1) dYes (dCall 1 rec (dCons (dVar 1) dNil))) dNil)))
    sNil)
    (sRet (dVar 0))))
def d_rebuilt : Nat → List W → Store → Res W
  | 0 => fun _ _ => .stuck
  | n + 1 => fnDen 2 (b_rebuilt (d_rebuilt n))
def fn_rebuilt (T : Txt P w K mg base) : (n : Nat) → FnF P w K mg base "rebuilt" ["value"] (0 + n) 1 (d_rebuilt n)
  | 0 => ⟨T.D_rebuilt.f, T.D_rebuilt.fd, fn_stuck, T.D_rebuilt.m, T.D_rebuilt.F.kp, T.D_rebuilt.b⟩
  | n + 1 => ⟨T.D_rebuilt.f, T.D_rebuilt.fd, fn_ok (k := 0 + n) T.D_rebuilt.F sc_rebuilt (fun cdv A outer s H E hr => (is_cons (is_if (it_val (ie_isi rfl T.n_isinstance (ia_cons (ie_var 0) (ia_cons (ie_ty (T := "list") rfl T.n_list (by decide +kernel)) ia_nil))))
    (is_one (is_ret (ie_lc (own := [("part", 1)]) rfl sc_rebuilt.nd (ii_val (ie_var 0)) (blkOk_by (N := ["value", "part"]) (sc := defScope (top 8)) (own := [("part", 1)]) (by decide +kernel)) (fun _ _ _ _ _ => (ig_name (i := 1) (by decide) ExOk.none sc_rebuilt.nd rfl (.inl rfl))) (fun _ _ _ _ _ => (ie_callF (fn_rebuilt T n) (hr) takes0 (ia_cons (ie_var 1) ia_nil))))))
    is_nil)
    (is_cons (is_if (it_val (ie_isi rfl T.n_isinstance (ia_cons (ie_var 0) (ia_cons (ie_ty (T := "tuple") rfl T.n_tuple (by decide +kernel)) ia_nil))))
    (is_one (is_ret (ie_tuple rfl T.n_tuple (ia_cons (ie_lc (own := [("part", 1)]) rfl sc_rebuilt.nd (ii_val (ie_var 0)) (blkOk_by (N := ["value", "part"]) (sc := defScope (top 8)) (own := [("part", 1)]) (by decide +kernel)) (fun _ _ _ _ _ => (ig_name (i := 1) (by decide) ExOk.none sc_rebuilt.nd rfl (.inl rfl))) (fun _ _ _ _ _ => (ie_callF (fn_rebuilt T n) (hr) takes0 (ia_cons (ie_var 1) ia_nil)))) ia_nil))))
    is_nil)
    (is_one (is_ret (ie_var 0)))))), T.D_rebuilt.m, T.D_rebuilt.F.kp, T.D_rebuilt.b⟩
/-! _is_plain -/
theorem sc__is_plain : FnScope ["text"] ["text"] (defScope (top 14)) := ⟨rfl, rfl, rfl, by decide +kernel, rfl, by decide +kernel, by decide +kernel⟩
def b__is_plain : DS := (sSeq (sIf (dNot (dBool (dChain leW leW (dC (.int 1)) (dApp lenW (dCons (dVar 0) dNil)) (dC (.int 20)))))
    (sRet (dC (.bl false)))
    sNil)
    (sRet (dAndV (dOp eqW (dBm tyS stripW (dVar 0) (dCons (dC (.str c_INNER)) dNil)) (dC (.str ""))) (dAndV (dOp (inW false) (dOp ixW (dVar 0) (dC (.int 0))) (dC (.str c_ENDS))) (dOp (inW false) (dOp ixW (dVar 0) (dUn negW (dC (.int 1)))) (dC (.str c_ENDS)))))))
def d__is_plain : List W → Store → Res W := fnDen 1 b__is_plain
def fn__is_plain (T : Txt P w K mg base) : FnF P w K mg base "_is_plain" ["text"] 1 1 d__is_plain :=
  ⟨T.D__is_plain.f, T.D__is_plain.fd, fn_ok (k := 0) T.D__is_plain.F sc__is_plain (fun cdv A outer s H E hr => (is_cons (is_if (it_not (it_lele ie_int (ie_len rfl T.n_len (ia_cons (ie_var 0) ia_nil)) (ie_gint (i := 20) T.c_LONGEST.choose_spec)))
    (is_one (is_ret ie_bl))
    is_nil)
    (is_one (is_ret (ie_and (ie_eq hr (ie_strip (ie_var 0) (ia_cons (ie_gstr (i := c_INNER) T.c_INNER.choose_spec) ia_nil)) ie_str) (ie_and (ie_in (ie_ix (ie_var 0) ie_int) (ie_gstr (i := c_ENDS) T.c_ENDS.choose_spec)) (ie_one (ie_in (ie_ix (ie_var 0) (ie_neg ie_int)) (ie_gstr (i := c_ENDS) T.c_ENDS.choose_spec))))))))), T.D__is_plain.m, T.D__is_plain.F.kp, T.D__is_plain.b⟩
/-! is_asked -/
theorem sc_is_asked : FnScope ["value", "label"] ["value"] (defScope (top 16)) := ⟨rfl, rfl, rfl, by decide +kernel, rfl, by decide +kernel, by decide +kernel⟩
def b_is_asked : DS := (sRet (dAndV (dApp isiW (dCons (dVar 0) (dCons (dC (.gl (.ty "tuple"))) dNil))) (dApp allW (dCons (dLc (dIt (dVar 0)) [1] (tName 1) dYes (dAndV (dApp isiW (dCons (dVar 1) (dCons (dC (.gl (.ty "str"))) dNil))) (dCall 1 d__is_plain (dCons (dVar 1) dNil)))) dNil))))
def d_is_asked : List W → Store → Res W := fnDen 2 b_is_asked
def fn_is_asked (T : Txt P w K mg base) : FnF P w K mg base "is_asked" ["value"] 2 1 d_is_asked :=
  ⟨T.D_is_asked.f, T.D_is_asked.fd, fn_ok (k := 1) T.D_is_asked.F sc_is_asked (fun cdv A outer s H E hr => (is_one (is_ret (ie_and (ie_isi rfl T.n_isinstance (ia_cons (ie_var 0) (ia_cons (ie_ty (T := "tuple") rfl T.n_tuple (by decide +kernel)) ia_nil))) (ie_one (ie_all rfl rfl T.n_all (ia_cons (ie_lc (own := [("label", 1)]) rfl sc_is_asked.nd (ii_val (ie_var 0)) (blkOk_by (N := ["value", "label"]) (sc := defScope (top 16)) (own := [("label", 1)]) (by decide +kernel)) (fun _ _ _ _ _ => (ig_name (i := 1) (by decide) ExOk.none sc_is_asked.nd rfl (.inl rfl))) (fun _ _ _ _ _ => (ie_and (ie_isi rfl T.n_isinstance (ia_cons (ie_var 1) (ia_cons (ie_ty (T := "str") rfl T.n_str (by decide +kernel)) ia_nil))) (ie_one (ie_callF (fn__is_plain T) (hr.mono (by decide)) takes0 (ia_cons (ie_var 1) ia_nil)))))) ia_nil))))))), T.D_is_asked.m, T.D_is_asked.F.kp, T.D_is_asked.b⟩
/-! is_name -/
theorem sc_is_name : FnScope ["value"] ["value"] (defScope (top 15)) := ⟨rfl, rfl, rfl, by decide +kernel, rfl, by decide +kernel, by decide +kernel⟩
def b_is_name : DS := (sSeq (sIf (dNot (dBool (dApp isiW (dCons (dVar 0) (dCons (dC (.gl (.ty "tuple"))) dNil)))))
    (sRet (dC (.bl false)))
    sNil)
    (sRet (dCall 1 d_is_asked (dCons (dIf (dBool (dOp eqW (dSl (dVar 0) dNoPart (dPart (dC (.int 1)))) (dTup (dCons (dC (.str c_WILD)) dNil)))) (dSl (dVar 0) (dPart (dC (.int 1))) dNoPart) (dVar 0)) dNil))))
def d_is_name : List W → Store → Res W := fnDen 1 b_is_name
def fn_is_name (T : Txt P w K mg base) : FnF P w K mg base "is_name" ["value"] 3 1 d_is_name :=
  ⟨T.D_is_name.f, T.D_is_name.fd, fn_ok (k := 2) T.D_is_name.F sc_is_name (fun cdv A outer s H E hr => (is_cons (is_if (it_not (it_val (ie_isi rfl T.n_isinstance (ia_cons (ie_var 0) (ia_cons (ie_ty (T := "tuple") rfl T.n_tuple (by decide +kernel)) ia_nil)))))
    (is_one (is_ret ie_bl))
    is_nil)
    (is_one (is_ret (ie_callF (fn_is_asked T) (hr.mono (by decide)) (takes_of rfl rfl rfl rfl) (ia_cons (ie_if (it_eq hr (ie_slice (ie_var 0) io_none (io_some ie_int)) (ie_tup (ia_cons (ie_gstr (i := c_WILD) T.c_WILD.choose_spec) ia_nil))) (ie_slice (ie_var 0) (io_some ie_int) io_none) (ie_var 0)) ia_nil)))))), T.D_is_name.m, T.D_is_name.F.kp, T.D_is_name.b⟩
/-! is_kind -/
theorem sc_is_kind : FnScope ["value"] ["value"] (defScope (top 25)) := ⟨rfl, rfl, rfl, by decide +kernel, rfl, by decide +kernel, by decide +kernel⟩
def b_is_kind : DS := (sRet (dAndV (dApp isiW (dCons (dVar 0) (dCons (dC (.gl (.ty "str"))) dNil))) (dOp (inW false) (dVar 0) (dC (.tup (c_KINDS.map W.str))))))
def d_is_kind : List W → Store → Res W := fnDen 1 b_is_kind
def fn_is_kind (T : Txt P w K mg base) : FnF P w K mg base "is_kind" ["value"] 1 1 d_is_kind :=
  ⟨T.D_is_kind.f, T.D_is_kind.fd, fn_ok (k := 0) T.D_is_kind.F sc_is_kind (fun cdv A outer s H E hr => (is_one (is_ret (ie_and (ie_isi rfl T.n_isinstance (ia_cons (ie_var 0) (ia_cons (ie_ty (T := "str") rfl T.n_str (by decide +kernel)) ia_nil))) (ie_one (ie_in (ie_var 0) (ie_gtup (ss := c_KINDS) T.c_KINDS))))))), T.D_is_kind.m, T.D_is_kind.F.kp, T.D_is_kind.b⟩
/-! check_kind -/
theorem sc_check_kind : FnScope ["kind"] ["kind"] (defScope (top 26)) := ⟨rfl, rfl, rfl, by decide +kernel, rfl, by decide +kernel, by decide +kernel⟩
def b_check_kind : DS := (sIf (dNot (dBool (dCall 1 d_is_kind (dCons (dVar 0) dNil))))
    (sRaise "InvalidKind" (dCons (dCall 1 (d_rebuilt 8) (dCons (dVar 0) dNil)) dNil))
    sNil)
def d_check_kind : List W → Store → Res W := fnDen 1 b_check_kind
def fn_check_kind (T : Txt P w K mg base) : FnF P w K mg base "check_kind" ["kind"] 9 1 d_check_kind :=
  ⟨T.D_check_kind.f, T.D_check_kind.fd, fn_ok (k := 8) T.D_check_kind.F sc_check_kind (fun cdv A outer s H E hr => (is_one (is_if (it_not (it_val (ie_callF (fn_is_kind T) (hr.mono (by decide)) (takes_of rfl rfl rfl rfl) (ia_cons (ie_var 0) ia_nil))))
    (is_one (is_raiseF T.E_InvalidKind (hr.mono (by decide)) (takes_of rfl rfl rfl rfl) (ia_cons (ie_callF (fn_rebuilt T 8) (hr.mono (by decide)) (takes_of rfl rfl rfl rfl) (ia_cons (ie_var 0) ia_nil)) ia_nil)))
    is_nil))), T.D_check_kind.m, T.D_check_kind.F.kp, T.D_check_kind.b⟩
/-! _is_text -/
theorem sc__is_text : FnScope ["value", "sign"] ["value"] (defScope (top 30)) := ⟨rfl, rfl, rfl, by decide +kernel, rfl, by decide +kernel, by decide +kernel⟩
def b__is_text : DS := (sSeq (sIf (dOr (dNot (dBool (dApp isiW (dCons (dVar 0) (dCons (dC (.gl (.ty "str"))) dNil))))) (dBool (dOp gtW (dApp lenW (dCons (dVar 0) dNil)) (dC (.int 60)))))
    (sRet (dC (.bl false)))
    sNil)
    (sRet (dApp allW (dCons (dLc (dIt (dVar 0)) [1] (tName 1) dYes (dAndV (dChain leW leW (dC (.str " ")) (dVar 1) (dC (.str "~"))) (dOp neW (dApp ordFW (dCons (dVar 1) dNil)) (dC (.int 37))))) dNil))))
def d__is_text : List W → Store → Res W := fnDen 2 b__is_text
def fn__is_text (T : Txt P w K mg base) : FnF P w K mg base "_is_text" ["value"] 1 1 d__is_text :=
  ⟨T.D__is_text.f, T.D__is_text.fd, fn_ok (k := 0) T.D__is_text.F sc__is_text (fun cdv A outer s H E hr => (is_cons (is_if (it_w (iw_or (it_not (it_val (ie_isi rfl T.n_isinstance (ia_cons (ie_var 0) (ia_cons (ie_ty (T := "str") rfl T.n_str (by decide +kernel)) ia_nil))))) (iw_or1 (it_gt (ie_len rfl T.n_len (ia_cons (ie_var 0) ia_nil)) (ie_gint (i := 60) T.c_LONGEST_TEXT.choose_spec)))))
    (is_one (is_ret ie_bl))
    is_nil)
    (is_one (is_ret (ie_all rfl rfl T.n_all (ia_cons (ie_lc (own := [("sign", 1)]) rfl sc__is_text.nd (ii_val (ie_var 0)) (blkOk_by (N := ["value", "sign"]) (sc := defScope (top 30)) (own := [("sign", 1)]) (by decide +kernel)) (fun _ _ _ _ _ => (ig_name (i := 1) (by decide) ExOk.none sc__is_text.nd rfl (.inl rfl))) (fun _ _ _ _ _ => (ie_and (ie_lele ie_str (ie_var 1) ie_str) (ie_one (ie_ne hr (ie_ord rfl T.n_ord (ia_cons (ie_var 1) ia_nil)) (ie_gint (i := 37) T.c_PERCENT.choose_spec)))))) ia_nil)))))), T.D__is_text.m, T.D__is_text.F.kp, T.D__is_text.b⟩
/-! _is_mail -/
theorem sc__is_mail : FnScope ["value"] ["value"] (defScope (top 28)) := ⟨rfl, rfl, rfl, by decide +kernel, rfl, by decide +kernel, by decide +kernel⟩
def b__is_mail : DS := (sSeq (sIf (dOr (dNot (dBool (dApp isiW (dCons (dVar 0) (dCons (dC (.gl (.ty "tuple"))) dNil))))) (dBool (dOp neW (dApp lenW (dCons (dVar 0) dNil)) (dC (.int 2)))))
    (sRet (dC (.bl false)))
    sNil)
    (sRet (dAndV (dCall 3 d_is_between (dCons (dOp ixW (dVar 0) (dC (.int 0))) (dCons (dC (.int 0)) (dCons (dC (.int 65535)) dNil)))) (dCall 1 d_is_asked (dCons (dOp ixW (dVar 0) (dC (.int 1))) dNil)))))
def d__is_mail : List W → Store → Res W := fnDen 1 b__is_mail
def fn__is_mail (T : Txt P w K mg base) : FnF P w K mg base "_is_mail" ["value"] 3 1 d__is_mail :=
  ⟨T.D__is_mail.f, T.D__is_mail.fd, fn_ok (k := 2) T.D__is_mail.F sc__is_mail (fun cdv A outer s H E hr => (is_cons (is_if (it_w (iw_or (it_not (it_val (ie_isi rfl T.n_isinstance (ia_cons (ie_var 0) (ia_cons (ie_ty (T := "tuple") rfl T.n_tuple (by decide +kernel)) ia_nil))))) (iw_or1 (it_ne hr (ie_len rfl T.n_len (ia_cons (ie_var 0) ia_nil)) ie_int))))
    (is_one (is_ret ie_bl))
    is_nil)
    (is_one (is_ret (ie_and (ie_callF (fn_is_between T) (hr.mono (by decide)) (takes_of rfl rfl rfl rfl) (ia_cons (ie_ix (ie_var 0) ie_int) (ia_cons ie_int (ia_cons (ie_gint (i := 65535) T.c_MOST_RANK.choose_spec) ia_nil)))) (ie_one (ie_callF (fn_is_asked T) (hr.mono (by decide)) (takes_of rfl rfl rfl rfl) (ia_cons (ie_ix (ie_var 0) ie_int) ia_nil)))))))), T.D__is_mail.m, T.D__is_mail.F.kp, T.D__is_mail.b⟩
/-! _is_start -/
theorem sc__is_start : FnScope ["value", "number"] ["value"] (defScope (top 29)) := ⟨rfl, rfl, rfl, by decide +kernel, rfl, by decide +kernel, by decide +kernel⟩
def b__is_start : DS := (sSeq (sIf (dOr (dNot (dBool (dApp isiW (dCons (dVar 0) (dCons (dC (.gl (.ty "tuple"))) dNil))))) (dBool (dOp neW (dApp lenW (dCons (dVar 0) dNil)) (dC (.int 6)))))
    (sRet (dC (.bl false)))
    sNil)
    (sSeq (sIf (dOr (dNot (dBool (dCall 1 d_is_asked (dCons (dOp ixW (dVar 0) (dC (.int 0))) dNil)))) (dNot (dBool (dCall 3 d_is_between (dCons (dOp ixW (dVar 0) (dC (.int 1))) (dCons (dC (.int 0)) (dCons (dC (.int 4294967295)) dNil)))))))
    (sRet (dC (.bl false)))
    sNil)
    (sRet (dApp allW (dCons (dLc (dIt (dSl (dVar 0) (dPart (dC (.int 2))) dNoPart)) [1] (tName 1) dYes (dCall 3 d_is_between (dCons (dVar 1) (dCons (dC (.int 0)) (dCons (dC (.int 2147483647)) dNil))))) dNil)))))
def d__is_start : List W → Store → Res W := fnDen 2 b__is_start
def fn__is_start (T : Txt P w K mg base) : FnF P w K mg base "_is_start" ["value"] 3 1 d__is_start :=
  ⟨T.D__is_start.f, T.D__is_start.fd, fn_ok (k := 2) T.D__is_start.F sc__is_start (fun cdv A outer s H E hr => (is_cons (is_if (it_w (iw_or (it_not (it_val (ie_isi rfl T.n_isinstance (ia_cons (ie_var 0) (ia_cons (ie_ty (T := "tuple") rfl T.n_tuple (by decide +kernel)) ia_nil))))) (iw_or1 (it_ne hr (ie_len rfl T.n_len (ia_cons (ie_var 0) ia_nil)) ie_int))))
    (is_one (is_ret ie_bl))
    is_nil)
    (is_cons (is_if (it_w (iw_or (it_not (it_val (ie_callF (fn_is_asked T) (hr.mono (by decide)) (takes_of rfl rfl rfl rfl) (ia_cons (ie_ix (ie_var 0) ie_int) ia_nil)))) (iw_or1 (it_not (it_val (ie_callF (fn_is_between T) (hr.mono (by decide)) (takes_of rfl rfl rfl rfl) (ia_cons (ie_ix (ie_var 0) ie_int) (ia_cons ie_int (ia_cons (ie_gint (i := 4294967295) T.c_MOST_SERIAL.choose_spec) ia_nil)))))))))
    (is_one (is_ret ie_bl))
    is_nil)
    (is_one (is_ret (ie_all rfl rfl T.n_all (ia_cons (ie_lc (own := [("number", 1)]) rfl sc__is_start.nd (ii_val (ie_slice (ie_var 0) (io_some ie_int) io_none)) (blkOk_by (N := ["value", "number"]) (sc := defScope (top 29)) (own := [("number", 1)]) (by decide +kernel)) (fun _ _ _ _ _ => (ig_name (i := 1) (by decide) ExOk.none sc__is_start.nd rfl (.inl rfl))) (fun _ _ _ _ _ => (ie_callF (fn_is_between T) (hr.mono (by decide)) takes0 (ia_cons (ie_var 1) (ia_cons ie_int (ia_cons (ie_gint (i := 2147483647) T.c_MOST_AGE.choose_spec) ia_nil)))))) ia_nil))))))), T.D__is_start.m, T.D__is_start.F.kp, T.D__is_start.b⟩
/-! is_data -/
theorem sc_is_data : FnScope ["kind", "value"] ["kind", "value"] (defScope (top 27)) := ⟨rfl, rfl, rfl, by decide +kernel, rfl, by decide +kernel, by decide +kernel⟩
def b_is_data : DS := (sSeq (sExpr (dCall 1 d_check_kind (dCons (dVar 0) dNil)))
    (sSeq (sIf (dBool (dOp eqW (dVar 0) (dC (.str "addr"))))
    (sRet (dCall 3 d_is_between (dCons (dVar 1) (dCons (dC (.int 0)) (dCons (dC (.int 4294967295)) dNil)))))
    sNil)
    (sSeq (sIf (dBool (dOp (inW false) (dVar 0) (dC (.tup (c_NAMING.map W.str)))))
    (sRet (dCall 1 d_is_asked (dCons (dVar 1) dNil)))
    sNil)
    (sSeq (sIf (dBool (dOp eqW (dVar 0) (dC (.str "mail"))))
    (sRet (dCall 1 d__is_mail (dCons (dVar 1) dNil)))
    sNil)
    (sSeq (sIf (dBool (dOp eqW (dVar 0) (dC (.str "start"))))
    (sRet (dCall 1 d__is_start (dCons (dVar 1) dNil)))
    sNil)
    (sRet (dCall 1 d__is_text (dCons (dVar 1) dNil))))))))
def d_is_data : List W → Store → Res W := fnDen 2 b_is_data
def fn_is_data (T : Txt P w K mg base) : FnF P w K mg base "is_data" ["kind", "value"] 10 2 d_is_data :=
  ⟨T.D_is_data.f, T.D_is_data.fd, fn_ok (k := 9) T.D_is_data.F sc_is_data (fun cdv A outer s H E hr => (is_cons (is_expr (ie_callF (fn_check_kind T) (hr.mono (by decide)) (takes_of rfl rfl rfl rfl) (ia_cons (ie_var 0) ia_nil)))
    (is_cons (is_if (it_eq hr (ie_var 0) ie_str)
    (is_one (is_ret (ie_callF (fn_is_between T) (hr.mono (by decide)) (takes_of rfl rfl rfl rfl) (ia_cons (ie_var 1) (ia_cons ie_int (ia_cons (ie_gint (i := 4294967295) T.c_MOST_SERIAL.choose_spec) ia_nil))))))
    is_nil)
    (is_cons (is_if (it_in (ie_var 0) (ie_gtup (ss := c_NAMING) T.c_NAMING))
    (is_one (is_ret (ie_callF (fn_is_asked T) (hr.mono (by decide)) (takes_of rfl rfl rfl rfl) (ia_cons (ie_var 1) ia_nil))))
    is_nil)
    (is_cons (is_if (it_eq hr (ie_var 0) ie_str)
    (is_one (is_ret (ie_callF (fn__is_mail T) (hr.mono (by decide)) (takes_of rfl rfl rfl rfl) (ia_cons (ie_var 1) ia_nil))))
    is_nil)
    (is_cons (is_if (it_eq hr (ie_var 0) ie_str)
    (is_one (is_ret (ie_callF (fn__is_start T) (hr.mono (by decide)) (takes_of rfl rfl rfl rfl) (ia_cons (ie_var 1) ia_nil))))
    is_nil)
    (is_one (is_ret (ie_callF (fn__is_text T) (hr.mono (by decide)) (takes_of rfl rfl rfl rfl) (ia_cons (ie_var 1) ia_nil)))))))))), T.D_is_data.m, T.D_is_data.F.kp, T.D_is_data.b⟩
/-! is_record -/
theorem sc_is_record : FnScope ["value", "name", "kind", "age", "data"] ["value"] (defScope (top 31)) := ⟨rfl, rfl, rfl, by decide +kernel, rfl, by decide +kernel, by decide +kernel⟩
def b_is_record : DS := (sSeq (sIf (dOr (dNot (dBool (dApp isiW (dCons (dVar 0) (dCons (dC (.gl (.ty "tuple"))) dNil))))) (dBool (dOp neW (dApp lenW (dCons (dVar 0) dNil)) (dC (.int 4)))))
    (sRet (dC (.bl false)))
    sNil)
    (sSeq (sAsg (dVar 0) (tTupT [(tName 1), (tName 2), (tName 3), (tName 4)]))
    (sRet (dAndV (dCall 1 d_is_name (dCons (dVar 1) dNil)) (dAndV (dCall 1 d_is_kind (dCons (dVar 2) dNil)) (dAndV (dCall 3 d_is_between (dCons (dVar 3) (dCons (dC (.int 0)) (dCons (dC (.int 2147483647)) dNil)))) (dCall 2 d_is_data (dCons (dVar 2) (dCons (dVar 4) dNil)))))))))
def d_is_record : List W → Store → Res W := fnDen 5 b_is_record
def fn_is_record (T : Txt P w K mg base) : FnF P w K mg base "is_record" ["value"] 11 1 d_is_record :=
  ⟨T.D_is_record.f, T.D_is_record.fd, fn_ok (k := 10) T.D_is_record.F sc_is_record (fun cdv A outer s H E hr => (is_cons (is_if (it_w (iw_or (it_not (it_val (ie_isi rfl T.n_isinstance (ia_cons (ie_var 0) (ia_cons (ie_ty (T := "tuple") rfl T.n_tuple (by decide +kernel)) ia_nil))))) (iw_or1 (it_ne hr (ie_len rfl T.n_len (ia_cons (ie_var 0) ia_nil)) ie_int))))
    (is_one (is_ret ie_bl))
    is_nil)
    (is_cons (is_asg (vs := [1, 2, 3, 4]) (ie_var 0) (ig_tup rfl (igs_cons (ig_name (i := 1) (by decide) ExOk.none sc_is_record.nd rfl (.inl rfl)) (igs_cons (ig_name (i := 2) (by decide) ExOk.none sc_is_record.nd rfl (.inl rfl)) (igs_cons (ig_name (i := 3) (by decide) ExOk.none sc_is_record.nd rfl (.inl rfl)) (igs_cons (ig_name (i := 4) (by decide) ExOk.none sc_is_record.nd rfl (.inl rfl)) igs_nil))))))
    (is_one (is_ret (ie_and (ie_callF (fn_is_name T) (hr.mono (by decide)) (takes_of rfl rfl rfl rfl) (ia_cons (ie_var 1) ia_nil)) (ie_and (ie_callF (fn_is_kind T) (hr.mono (by decide)) (takes_of rfl rfl rfl rfl) (ia_cons (ie_var 2) ia_nil)) (ie_and (ie_callF (fn_is_between T) (hr.mono (by decide)) (takes_of rfl rfl rfl rfl) (ia_cons (ie_var 3) (ia_cons ie_int (ia_cons (ie_gint (i := 2147483647) T.c_MOST_AGE.choose_spec) ia_nil)))) (ie_one (ie_callF (fn_is_data T) (hr.mono (by decide)) (takes_of rfl rfl rfl rfl) (ia_cons (ie_var 2) (ia_cons (ie_var 4) ia_nil)))))))))))), T.D_is_record.m, T.D_is_record.F.kp, T.D_is_record.b⟩
/-! data_place -/
theorem sc_data_place : FnScope ["kind", "data"] ["kind", "data"] (defScope (top 33)) := ⟨rfl, rfl, rfl, by decide +kernel, rfl, by decide +kernel, by decide +kernel⟩
def b_data_place : DS := (sSeq (sIf (dBool (dOp (inW false) (dVar 0) (dC (.tup (c_NAMING.map W.str)))))
    (sRet (dCall 1 d_place (dCons (dVar 1) dNil)))
    sNil)
    (sSeq (sIf (dBool (dOp eqW (dVar 0) (dC (.str "mail"))))
    (sRet (dTup (dCons (dOp ixW (dVar 1) (dC (.int 0))) (dCons (dCall 1 d_place (dCons (dOp ixW (dVar 1) (dC (.int 1))) dNil)) dNil))))
    sNil)
    (sSeq (sIf (dBool (dOp eqW (dVar 0) (dC (.str "start"))))
    (sRet (dOp addW (dTup (dCons (dCall 1 d_place (dCons (dOp ixW (dVar 1) (dC (.int 0))) dNil)) dNil)) (dSl (dVar 1) (dPart (dC (.int 1))) dNoPart)))
    sNil)
    (sRet (dVar 1)))))
def d_data_place : List W → Store → Res W := fnDen 2 b_data_place
def fn_data_place (T : Txt P w K mg base) : FnF P w K mg base "data_place" ["kind", "data"] 2 2 d_data_place :=
  ⟨T.D_data_place.f, T.D_data_place.fd, fn_ok (k := 1) T.D_data_place.F sc_data_place (fun cdv A outer s H E hr => (is_cons (is_if (it_in (ie_var 0) (ie_gtup (ss := c_NAMING) T.c_NAMING))
    (is_one (is_ret (ie_callF (fn_place T) (hr.mono (by decide)) (takes_of rfl rfl rfl rfl) (ia_cons (ie_var 1) ia_nil))))
    is_nil)
    (is_cons (is_if (it_eq hr (ie_var 0) ie_str)
    (is_one (is_ret (ie_tup (ia_cons (ie_ix (ie_var 1) ie_int) (ia_cons (ie_callF (fn_place T) (hr.mono (by decide)) (takes_of rfl rfl rfl rfl) (ia_cons (ie_ix (ie_var 1) ie_int) ia_nil)) ia_nil)))))
    is_nil)
    (is_cons (is_if (it_eq hr (ie_var 0) ie_str)
    (is_one (is_ret (ie_add (ie_tup (ia_cons (ie_callF (fn_place T) (hr.mono (by decide)) (takes_of rfl rfl rfl rfl) (ia_cons (ie_ix (ie_var 1) ie_int) ia_nil)) ia_nil)) (ie_slice (ie_var 1) (io_some ie_int) io_none))))
    is_nil)
    (is_one (is_ret (ie_var 1))))))), T.D_data_place.m, T.D_data_place.F.kp, T.D_data_place.b⟩
/-! data_compared -/
theorem sc_data_compared : FnScope ["kind", "one", "other"] ["kind", "one", "other"] (defScope (top 32)) := ⟨rfl, rfl, rfl, by decide +kernel, rfl, by decide +kernel, by decide +kernel⟩
def b_data_compared : DS := (sSeq (sExpr (dCall 1 d_check_kind (dCons (dVar 0) dNil)))
    (sSeq (sIf (dBool (dOp eqW (dVar 1) (dVar 2)))
    (sRet (dC (.int 0)))
    sNil)
    (sRet (dIf (dBool (dOp ltUW (dCall 2 d_data_place (dCons (dVar 0) (dCons (dVar 1) dNil))) (dCall 2 d_data_place (dCons (dVar 0) (dCons (dVar 2) dNil))))) (dUn negW (dC (.int 1))) (dC (.int 1))))))
def d_data_compared : List W → Store → Res W := fnDen 3 b_data_compared
def fn_data_compared (T : Txt P w K mg base) : FnF P w K mg base "data_compared" ["kind", "one", "other"] 10 3 d_data_compared :=
  ⟨T.D_data_compared.f, T.D_data_compared.fd, fn_ok (k := 9) T.D_data_compared.F sc_data_compared (fun cdv A outer s H E hr => (is_cons (is_expr (ie_callF (fn_check_kind T) (hr.mono (by decide)) (takes_of rfl rfl rfl rfl) (ia_cons (ie_var 0) ia_nil)))
    (is_cons (is_if (it_eq hr (ie_var 1) (ie_var 2))
    (is_one (is_ret ie_int))
    is_nil)
    (is_one (is_ret (ie_if (it_ltU hr (ie_callF (fn_data_place T) (hr.mono (by decide)) (takes_of rfl rfl rfl rfl) (ia_cons (ie_var 0) (ia_cons (ie_var 1) ia_nil))) (ie_callF (fn_data_place T) (hr.mono (by decide)) (takes_of rfl rfl rfl rfl) (ia_cons (ie_var 0) (ia_cons (ie_var 2) ia_nil)))) (ie_neg ie_int) ie_int)))))), T.D_data_compared.m, T.D_data_compared.F.kp, T.D_data_compared.b⟩
/-! _law_pot -/
theorem sc__law_pot : FnScope ["_law_script", "_law_k", "_law_cell", "_law_mix", "_law_other"] ["_law_script", "_law_k"] (defScope (top 35)) := ⟨rfl, rfl, rfl, by decide +kernel, rfl, by decide +kernel, by decide +kernel⟩
def b__law_pot : DS := (sSeq (sAsg (dOp addW (dC (.int 29)) (dOp mulW (dC (.int 11)) (dVar 1))) (tName 2))
    (sSeq (sIf (dBool (dOp ltW (dVar 1) (dApp lenW (dCons (dVar 0) dNil))))
    (sAsg (dOp ixW (dVar 0) (dVar 1)) (tName 2))
    sNil)
    (sSeq (sAsg (dC (.int 1)) (tName 3))
    (sSeq (sFor (dIt (dVar 0)) (tName 4)
    (sAsg (dOp modW (dApp intOfW (dCons (dOp addW (dOp mulW (dVar 3) (dC (.int 131))) (dVar 4)) dNil)) (dOp addW (dOp powW (dC (.int 10)) (dC (.int 33))) (dC (.int 61)))) (tName 3)))
    (sRet (dLst (dCons (dApp maxW (dCons (dC (.int 0)) (dCons (dOp subW (dVar 2) (dOp powW (dC (.int 10)) (dC (.int 18)))) dNil))) (dCons (dOp modW (dApp intOfW (dCons (dOp addW (dOp addW (dOp mulW (dVar 3) (dC (.int 977))) (dApp absW (dCons (dVar 2) dNil))) (dOp mulW (dC (.int 13)) (dVar 1))) dNil)) (dOp addW (dOp powW (dC (.int 10)) (dC (.int 33))) (dC (.int 61)))) (dCons (dC (.int 0)) dNil)))))))))
def d__law_pot : List W → Store → Res W := fnDen 5 b__law_pot
def fn__law_pot (T : Txt P w K mg base) : FnF P w K mg base "_law_pot" ["_law_script", "_law_k"] 1 2 d__law_pot :=
  ⟨T.D__law_pot.f, T.D__law_pot.fd, fn_ok (k := 0) T.D__law_pot.F sc__law_pot (fun cdv A outer s H E hr => (is_cons (is_set (i := 2) ExOk.none sc__law_pot.nd rfl (.inl rfl) (ie_add ie_int (ie_mul ie_int (ie_var 1))))
    (is_cons (is_if (it_lt (ie_var 1) (ie_len rfl T.n_len (ia_cons (ie_var 0) ia_nil)))
    (is_one (is_set (i := 2) ExOk.none sc__law_pot.nd rfl (.inl rfl) (ie_ix (ie_var 0) (ie_var 1))))
    is_nil)
    (is_cons (is_set (i := 3) ExOk.none sc__law_pot.nd rfl (.inl rfl) ie_int)
    (is_cons (is_for (vs := [4]) (passes_of rfl) rfl (ii_val (ie_var 0)) (ig_name (i := 4) (by decide) ExOk.none sc__law_pot.nd rfl (.inl rfl))
    (is_one (is_set (i := 3) ExOk.none sc__law_pot.nd rfl (.inl rfl) (ie_mod (ie_intOf rfl T.n_int (ia_cons (ie_add (ie_mul (ie_var 3) ie_int) (ie_var 4)) ia_nil)) (ie_add (ie_pow ie_int ie_int) ie_int)))))
    (is_one (is_ret (ie_lst (ia_cons (ie_max rfl rfl T.n_max (ia_cons ie_int (ia_cons (ie_sub (ie_var 2) (ie_pow ie_int ie_int)) ia_nil))) (ia_cons (ie_mod (ie_intOf rfl T.n_int (ia_cons (ie_add (ie_add (ie_mul (ie_var 3) ie_int) (ie_abs rfl T.n_abs (ia_cons (ie_var 2) ia_nil))) (ie_mul ie_int (ie_var 1))) ia_nil)) (ie_add (ie_pow ie_int ie_int) ie_int)) (ia_cons ie_int ia_nil))))))))))), T.D__law_pot.m, T.D__law_pot.F.kp, T.D__law_pot.b⟩
/-! _law_take -/
theorem sc__law_take : FnScope ["_law_pot_here", "_law_many", "_law_mixed", "_law_part"] ["_law_pot_here", "_law_many"] (defScope (top 36)) := ⟨rfl, rfl, rfl, by decide +kernel, rfl, by decide +kernel, by decide +kernel⟩
def b__law_take : DS := (sSeq (sIf (dBool (dOp gtW (dOp ixW (dVar 0) (dC (.int 0))) (dC (.int 0))))
    (sSeq (sAsg (dOp modW (dApp intOfW (dCons (dOp ixW (dVar 0) (dC (.int 0))) dNil)) (dVar 1)) (tName 3))
    (sSeq (sAsg (dOp fdivW (dOp ixW (dVar 0) (dC (.int 0))) (dVar 1)) (tSub (dVar 0) (dC (.int 0))))
    (sRet (dVar 3))))
    sNil)
    (sSeq (sAsg (dOp addW (dOp ixW (dVar 0) (dC (.int 2))) (dC (.int 1))) (tSub (dVar 0) (dC (.int 2))))
    (sSeq (sAsg (dOp modW (dApp intOfW (dCons (dOp addW (dOp powW (dOp addW (dOp ixW (dVar 0) (dC (.int 1))) (dOp mulW (dC (.int 999983)) (dOp ixW (dVar 0) (dC (.int 2))))) (dC (.int 3))) (dOp mulW (dC (.int 7)) (dOp ixW (dVar 0) (dC (.int 2))))) dNil)) (dOp addW (dOp powW (dC (.int 10)) (dC (.int 37))) (dC (.int 43)))) (tName 2))
    (sRet (dOp modW (dApp intOfW (dCons (dOp fdivW (dVar 2) (dC (.int 65537))) dNil)) (dVar 1))))))
def d__law_take : List W → Store → Res W := fnDen 4 b__law_take
def fn__law_take (T : Txt P w K mg base) : FnF P w K mg base "_law_take" ["_law_pot_here", "_law_many"] 1 2 d__law_take :=
  ⟨T.D__law_take.f, T.D__law_take.fd, fn_ok (k := 0) T.D__law_take.F sc__law_take (fun cdv A outer s H E hr => (is_cons (is_if (it_gt (ie_ix (ie_var 0) ie_int) ie_int)
    (is_cons (is_set (i := 3) ExOk.none sc__law_take.nd rfl (.inl rfl) (ie_mod (ie_intOf rfl T.n_int (ia_cons (ie_ix (ie_var 0) ie_int) ia_nil)) (ie_var 1)))
    (is_cons (is_asg (vs := []) (ie_fdiv (ie_ix (ie_var 0) ie_int) (ie_var 1)) (ig_sub (ie_var 0) ie_int))
    (is_one (is_ret (ie_var 3)))))
    is_nil)
    (is_cons (is_asg (vs := []) (ie_add (ie_ix (ie_var 0) ie_int) ie_int) (ig_sub (ie_var 0) ie_int))
    (is_cons (is_set (i := 2) ExOk.none sc__law_take.nd rfl (.inl rfl) (ie_mod (ie_intOf rfl T.n_int (ia_cons (ie_add (ie_pow (ie_add (ie_ix (ie_var 0) ie_int) (ie_mul ie_int (ie_ix (ie_var 0) ie_int))) ie_int) (ie_mul ie_int (ie_ix (ie_var 0) ie_int))) ia_nil)) (ie_add (ie_pow ie_int ie_int) ie_int)))
    (is_one (is_ret (ie_mod (ie_intOf rfl T.n_int (ia_cons (ie_fdiv (ie_var 2) ie_int) ia_nil)) (ie_var 1)))))))), T.D__law_take.m, T.D__law_take.F.kp, T.D__law_take.b⟩
/-! _law_same -/
theorem sc__law_same : FnScope ["_law_told", "_law_due", "_law_k"] ["_law_told", "_law_due"] (defScope (top 37)) := ⟨rfl, rfl, rfl, by decide +kernel, rfl, by decide +kernel, by decide +kernel⟩
def b__law_same (rec : List W → Store → Res W) : DS := (sSeq (sIf (dBool (dUn (isi2W "tuple" "list") (dVar 1)))
    (sSeq (sIf (dOr (dBool (dOp neW (dApp isiW (dCons (dVar 1) (dCons (dC (.gl (.ty "tuple"))) dNil))) (dApp isiW (dCons (dVar 0) (dCons (dC (.gl (.ty "tuple"))) dNil))))) (dBool (dOp neW (dApp isiW (dCons (dVar 1) (dCons (dC (.gl (.ty "list"))) dNil))) (dApp isiW (dCons (dVar 0) (dCons (dC (.gl (.ty "list"))) dNil))))))
    (sRet (dC (.bl false)))
    sNil)
    (sRet (dAndV (dOp eqW (dApp lenW (dCons (dVar 0) dNil)) (dApp lenW (dCons (dVar 1) dNil))) (dApp allW (dCons (dLc (dRange1 (dCons (dApp lenW (dCons (dVar 1) dNil)) dNil)) [2] (tName 2) dYes (dCall 2 rec (dCons (dOp ixW (dVar 0) (dVar 2)) (dCons (dOp ixW (dVar 1) (dVar 2)) dNil)))) dNil)))))
    sNil)
    (sSeq (sIf (dBool (dOp isNW (dVar 1) (dC .non)))
    (sRet (dOp isNW (dVar 0) (dC .non)))
    sNil)
    (sSeq (sIf (dBool (dApp isiW (dCons (dVar 1) (dCons (dC (.gl (.ty "bool"))) dNil))))
    (sRet (dAndV (dApp isiW (dCons (dVar 0) (dCons (dC (.gl (.ty "bool"))) dNil))) (dOp eqW (dVar 0) (dVar 1))))
    sNil)
    (sSeq (sIf (dBool (dApp isiW (dCons (dVar 1) (dCons (dC (.gl (.ty "int"))) dNil))))
    (sRet (dAndV (dApp isiW (dCons (dVar 0) (dCons (dC (.gl (.ty "int"))) dNil))) (dAndV (dNotV (dApp isiW (dCons (dVar 0) (dCons (dC (.gl (.ty "bool"))) dNil)))) (dOp eqW (dVar 0) (dVar 1)))))
    sNil)
    (sRet (dAndV (dApp isiW (dCons (dVar 1) (dCons (dC (.gl (.ty "str"))) dNil))) (dAndV (dApp isiW (dCons (dVar 0) (dCons (dC (.gl (.ty "str"))) dNil))) (dOp eqW (dVar 0) (dVar 1)))))))))
def d__law_same : Nat → List W → Store → Res W
  | 0 => fun _ _ => .stuck
  | n + 1 => fnDen 3 (b__law_same (d__law_same n))
def fn__law_same (T : Txt P w K mg base) : (n : Nat) → FnF P w K mg base "_law_same" ["_law_told", "_law_due"] (0 + n) 2 (d__law_same n)
  | 0 => ⟨T.D__law_same.f, T.D__law_same.fd, fn_stuck, T.D__law_same.m, T.D__law_same.F.kp, T.D__law_same.b⟩
  | n + 1 => ⟨T.D__law_same.f, T.D__law_same.fd, fn_ok (k := 0 + n) T.D__law_same.F sc__law_same (fun cdv A outer s H E hr => (is_cons (is_if (it_val (ie_isi2 (A := "tuple") (B := "list") rfl T.n_isinstance (ie_var 1) rfl T.n_tuple (by decide +kernel) rfl T.n_list (by decide +kernel)))
    (is_cons (is_if (it_w (iw_or (it_ne hr (ie_isi rfl T.n_isinstance (ia_cons (ie_var 1) (ia_cons (ie_ty (T := "tuple") rfl T.n_tuple (by decide +kernel)) ia_nil))) (ie_isi rfl T.n_isinstance (ia_cons (ie_var 0) (ia_cons (ie_ty (T := "tuple") rfl T.n_tuple (by decide +kernel)) ia_nil)))) (iw_or1 (it_ne hr (ie_isi rfl T.n_isinstance (ia_cons (ie_var 1) (ia_cons (ie_ty (T := "list") rfl T.n_list (by decide +kernel)) ia_nil))) (ie_isi rfl T.n_isinstance (ia_cons (ie_var 0) (ia_cons (ie_ty (T := "list") rfl T.n_list (by decide +kernel)) ia_nil)))))))
    (is_one (is_ret ie_bl))
    is_nil)
    (is_one (is_ret (ie_and (ie_eq hr (ie_len rfl T.n_len (ia_cons (ie_var 0) ia_nil)) (ie_len rfl T.n_len (ia_cons (ie_var 1) ia_nil))) (ie_one (ie_all rfl rfl T.n_all (ia_cons (ie_lc (own := [("_law_k", 2)]) rfl sc__law_same.nd (ii_range1 rfl T.n_range (ia_cons (ie_len rfl T.n_len (ia_cons (ie_var 1) ia_nil)) ia_nil)) (blkOk_by (N := ["_law_told", "_law_due", "_law_k"]) (sc := defScope (top 37)) (own := [("_law_k", 2)]) (by decide +kernel)) (fun _ _ _ _ _ => (ig_name (i := 2) (by decide) ExOk.none sc__law_same.nd rfl (.inl rfl))) (fun _ _ _ _ _ => (ie_callF (fn__law_same T n) (hr) takes0 (ia_cons (ie_ix (ie_var 0) (ie_var 2)) (ia_cons (ie_ix (ie_var 1) (ie_var 2)) ia_nil))))) ia_nil)))))))
    is_nil)
    (is_cons (is_if (it_isN (ie_var 1) ie_non)
    (is_one (is_ret (ie_isN (ie_var 0) ie_non)))
    is_nil)
    (is_cons (is_if (it_val (ie_isi rfl T.n_isinstance (ia_cons (ie_var 1) (ia_cons (ie_ty (T := "bool") rfl T.n_bool (by decide +kernel)) ia_nil))))
    (is_one (is_ret (ie_and (ie_isi rfl T.n_isinstance (ia_cons (ie_var 0) (ia_cons (ie_ty (T := "bool") rfl T.n_bool (by decide +kernel)) ia_nil))) (ie_one (ie_eq hr (ie_var 0) (ie_var 1))))))
    is_nil)
    (is_cons (is_if (it_val (ie_isi rfl T.n_isinstance (ia_cons (ie_var 1) (ia_cons (ie_ty (T := "int") rfl T.n_int (by decide +kernel)) ia_nil))))
    (is_one (is_ret (ie_and (ie_isi rfl T.n_isinstance (ia_cons (ie_var 0) (ia_cons (ie_ty (T := "int") rfl T.n_int (by decide +kernel)) ia_nil))) (ie_and (ie_notV (ie_isi rfl T.n_isinstance (ia_cons (ie_var 0) (ia_cons (ie_ty (T := "bool") rfl T.n_bool (by decide +kernel)) ia_nil)))) (ie_one (ie_eq hr (ie_var 0) (ie_var 1)))))))
    is_nil)
    (is_one (is_ret (ie_and (ie_isi rfl T.n_isinstance (ia_cons (ie_var 1) (ia_cons (ie_ty (T := "str") rfl T.n_str (by decide +kernel)) ia_nil))) (ie_and (ie_isi rfl T.n_isinstance (ia_cons (ie_var 0) (ia_cons (ie_ty (T := "str") rfl T.n_str (by decide +kernel)) ia_nil))) (ie_one (ie_eq hr (ie_var 0) (ie_var 1)))))))))))), T.D__law_same.m, T.D__law_same.F.kp, T.D__law_same.b⟩
/-! _law_label -/
theorem sc__law_label : FnScope ["_law_pot_here", "_law_ends", "_law_length", "_law_signs", "_law_k"] ["_law_pot_here"] (defScope (top 38)) := ⟨rfl, rfl, rfl, by decide +kernel, rfl, by decide +kernel, by decide +kernel⟩
def b__law_label : DS := (sSeq (sAsg (dC (.str "0123456789abcdefghijklmnopqrstuvwxyz")) (tName 1))
    (sSeq (sAsg (dOp ixW (dLst (dCons (dC (.int 1)) (dCons (dC (.int 2)) (dCons (dC (.int 3)) (dCons (dOp addW (dC (.int 1)) (dCall 2 d__law_take (dCons (dVar 0) (dCons (dC (.int 20)) dNil)))) (dCons (dC (.int 20)) dNil)))))) (dCall 2 d__law_take (dCons (dVar 0) (dCons (dC (.int 5)) dNil)))) (tName 2))
    (sSeq (sAsg (dLc (dRange1 (dCons (dVar 2) dNil)) [4] (tName 4) dYes (dOp ixW (dOp addW (dC (.str "-")) (dVar 1)) (dCall 2 d__law_take (dCons (dVar 0) (dCons (dC (.int 37)) dNil))))) (tName 3))
    (sSeq (sAsg (dOp ixW (dVar 1) (dCall 2 d__law_take (dCons (dVar 0) (dCons (dC (.int 36)) dNil)))) (tSub (dVar 3) (dC (.int 0))))
    (sSeq (sAsg (dOp ixW (dVar 1) (dCall 2 d__law_take (dCons (dVar 0) (dCons (dC (.int 36)) dNil)))) (tSub (dVar 3) (dUn negW (dC (.int 1)))))
    (sRet (dBm tyS joinW (dC (.str "")) (dCons (dVar 3) dNil))))))))
def d__law_label : List W → Store → Res W := fnDen 5 b__law_label
def fn__law_label (T : Txt P w K mg base) : FnF P w K mg base "_law_label" ["_law_pot_here"] 2 1 d__law_label :=
  ⟨T.D__law_label.f, T.D__law_label.fd, fn_ok (k := 1) T.D__law_label.F sc__law_label (fun cdv A outer s H E hr => (is_cons (is_set (i := 1) ExOk.none sc__law_label.nd rfl (.inr rfl) ie_str)
    (is_cons (is_set (i := 2) ExOk.none sc__law_label.nd rfl (.inl rfl) (ie_ix (ie_lst (ia_cons ie_int (ia_cons ie_int (ia_cons ie_int (ia_cons (ie_add ie_int (ie_callF (fn__law_take T) (hr.mono (by decide)) (takes_of rfl rfl rfl rfl) (ia_cons (ie_var 0) (ia_cons ie_int ia_nil)))) (ia_cons ie_int ia_nil)))))) (ie_callF (fn__law_take T) (hr.mono (by decide)) (takes_of rfl rfl rfl rfl) (ia_cons (ie_var 0) (ia_cons ie_int ia_nil)))))
    (is_cons (is_setLc (i := 3) (own := [("_law_k", 4)]) rfl sc__law_label.nd rfl rfl (sw_true rfl rfl rfl (by decide +kernel)) (ii_range1 rfl T.n_range (ia_cons (ie_var 2) ia_nil)) (blkOk_by (N := ["_law_pot_here", "_law_ends", "_law_length", "_law_signs", "_law_k"]) (sc := defScope (top 38)) (own := [("_law_k", 4)]) (by decide +kernel)) (fun _ _ _ _ _ => (ig_name (i := 4) (by decide) ExOk.none sc__law_label.nd rfl (.inl rfl))) (fun _ _ _ _ _ => (ie_ix (ie_add ie_str (ie_var 1)) (ie_callF (fn__law_take T) (hr.mono (by decide)) takes0 (ia_cons (ie_var 0) (ia_cons ie_int ia_nil))))))
    (is_cons (is_asg (vs := []) (ie_ix (ie_var 1) (ie_callF (fn__law_take T) (hr.mono (by decide)) (takes_of rfl rfl rfl rfl) (ia_cons (ie_var 0) (ia_cons ie_int ia_nil)))) (ig_sub (ie_var 3) ie_int))
    (is_cons (is_asg (vs := []) (ie_ix (ie_var 1) (ie_callF (fn__law_take T) (hr.mono (by decide)) (takes_of rfl rfl rfl rfl) (ia_cons (ie_var 0) (ia_cons ie_int ia_nil)))) (ig_sub (ie_var 3) (ie_neg ie_int)))
    (is_one (is_ret (ie_join ie_str (ia_cons (ie_var 3) ia_nil)))))))))), T.D__law_label.m, T.D__law_label.F.kp, T.D__law_label.b⟩
/-! _law_words -/
theorem sc__law_words : FnScope ["_law_pot_here", "_law_many", "_law_found", "_law_turn", "_law_text_here", "_law_spare", "_law_k", "_law_one"] ["_law_pot_here", "_law_many"] (defScope (top 39)) := ⟨rfl, rfl, rfl, by decide +kernel, rfl, by decide +kernel, by decide +kernel⟩
def b__law_words : DS := (sSeq (sAsg (dLst dNil) (tName 2))
    (sSeq (sFor (dRange1 (dCons (dVar 1) dNil)) (tName 3)
    (sSeq (sAsg (dCall 1 d__law_label (dCons (dVar 0) dNil)) (tName 4))
    (sSeq (sIf (dAnd (dBool (dOp neW (dVar 2) (dLst dNil))) (dBool (dOp eqW (dCall 2 d__law_take (dCons (dVar 0) (dCons (dC (.int 3)) dNil))) (dC (.int 0)))))
    (sAsg (dOp addW (dSl (dOp ixW (dVar 2) (dCall 2 d__law_take (dCons (dVar 0) (dCons (dApp lenW (dCons (dVar 2) dNil)) dNil)))) dNoPart (dPart (dC (.int 19)))) (dOp ixW (dC (.str "0a9z")) (dCall 2 d__law_take (dCons (dVar 0) (dCons (dC (.int 4)) dNil))))) (tName 4))
    sNil)
    (sSeq (sAsg (dLc (dRange1 (dCons (dVar 1) dNil)) [6] (tName 6) dYes (dOp addW (dC (.str "x")) (dApp strW (dCons (dVar 6) dNil)))) (tName 5))
    (sExpr (dBm tyL appendW (dVar 2) (dCons (dOp ixW (dLc (dIt (dOp addW (dLst (dCons (dVar 4) dNil)) (dVar 5))) [7] (tName 7) (dBool (dOp (inW true) (dVar 7) (dVar 2))) (dVar 7)) (dC (.int 0))) dNil)))))))
    (sRet (dVar 2))))
def d__law_words : List W → Store → Res W := fnDen 8 b__law_words
def fn__law_words (T : Txt P w K mg base) : FnF P w K mg base "_law_words" ["_law_pot_here", "_law_many"] 3 2 d__law_words :=
  ⟨T.D__law_words.f, T.D__law_words.fd, fn_ok (k := 2) T.D__law_words.F sc__law_words (fun cdv A outer s H E hr => (is_cons (is_set (i := 2) ExOk.none sc__law_words.nd rfl (.inr rfl) (ie_lst ia_nil))
    (is_cons (is_for (vs := [3]) (passes_of rfl) rfl (ii_range1 rfl T.n_range (ia_cons (ie_var 1) ia_nil)) (ig_name (i := 3) (by decide) ExOk.none sc__law_words.nd rfl (.inl rfl))
    (is_cons (is_set (i := 4) ExOk.none sc__law_words.nd rfl (.inl rfl) (ie_callF (fn__law_label T) (hr.mono (by decide)) (takes_of rfl rfl rfl rfl) (ia_cons (ie_var 0) ia_nil)))
    (is_cons (is_if (it_w (iw_and (it_ne hr (ie_var 2) (ie_lst ia_nil)) (iw_and1 (it_eq hr (ie_callF (fn__law_take T) (hr.mono (by decide)) (takes_of rfl rfl rfl rfl) (ia_cons (ie_var 0) (ia_cons ie_int ia_nil))) ie_int))))
    (is_one (is_set (i := 4) ExOk.none sc__law_words.nd rfl (.inl rfl) (ie_add (ie_slice (ie_ix (ie_var 2) (ie_callF (fn__law_take T) (hr.mono (by decide)) (takes_of rfl rfl rfl rfl) (ia_cons (ie_var 0) (ia_cons (ie_len rfl T.n_len (ia_cons (ie_var 2) ia_nil)) ia_nil)))) io_none (io_some ie_int)) (ie_ix ie_str (ie_callF (fn__law_take T) (hr.mono (by decide)) (takes_of rfl rfl rfl rfl) (ia_cons (ie_var 0) (ia_cons ie_int ia_nil)))))))
    is_nil)
    (is_cons (is_setLc (i := 5) (own := [("_law_k", 6)]) rfl sc__law_words.nd rfl rfl (sw_true rfl rfl rfl (by decide +kernel)) (ii_range1 rfl T.n_range (ia_cons (ie_var 1) ia_nil)) (blkOk_by (N := ["_law_pot_here", "_law_many", "_law_found", "_law_turn", "_law_text_here", "_law_spare", "_law_k", "_law_one"]) (sc := defScope (top 39)) (own := [("_law_k", 6)]) (by decide +kernel)) (fun _ _ _ _ _ => (ig_name (i := 6) (by decide) ExOk.none sc__law_words.nd rfl (.inl rfl))) (fun _ _ _ _ _ => (ie_add ie_str (ie_strOf rfl T.n_str (ia_cons (ie_var 6) ia_nil)))))
    (is_one (is_expr (ie_append (ie_var 2) (ia_cons (ie_ix (ie_lcIf (own := [("_law_one", 7)]) rfl sc__law_words.nd (ii_val (ie_add (ie_lst (ia_cons (ie_var 4) ia_nil)) (ie_var 5))) (blkOk_by (N := ["_law_pot_here", "_law_many", "_law_found", "_law_turn", "_law_text_here", "_law_spare", "_law_k", "_law_one"]) (sc := defScope (top 39)) (own := [("_law_one", 7)]) (by decide +kernel)) (fun _ _ _ _ _ => (ig_name (i := 7) (by decide) ExOk.none sc__law_words.nd rfl (.inl rfl))) (fun _ _ _ _ _ => (it_notIn (ie_var 7) (ie_var 2))) (fun _ _ _ _ _ => (ie_var 7))) ie_int) ia_nil))))))))
    (is_one (is_ret (ie_var 2)))))), T.D__law_words.m, T.D__law_words.F.kp, T.D__law_words.b⟩
/-! _law_odd -/
theorem sc__law_odd : FnScope ["_law_pot_here", "_law_some"] ["_law_pot_here"] (defScope (top 40)) := ⟨rfl, rfl, rfl, by decide +kernel, rfl, by decide +kernel, by decide +kernel⟩
def b__law_odd : DS := (sSeq (sAsg (dLst (dCons (dC .non) (dCons (dC (.bl true)) (dCons (dC (.int 7)) (dCons (dUn negW (dC (.int 1))) (dCons (dC (.str "")) (dCons (dC (.str "a")) (dCons (dLst (dCons (dC (.str "a")) dNil)) (dCons (dLst dNil) (dCons (dTup (dCons (dC (.str "a")) (dCons (dC (.int 5)) dNil))) (dCons (dTup (dCons (dC (.str "a")) (dCons (dC (.str "*")) dNil))) (dCons (dTup (dCons (dTup (dCons (dC (.str "a")) dNil)) dNil)) (dCons (dTup (dCons (dC (.str "")) dNil)) (dCons (dTup (dCons (dC (.str "*")) (dCons (dC (.str "*")) dNil))) (dCons (dC (.str "a.")) dNil))))))))))))))) (tName 1))
    (sSeq (sAsg (dOp addW (dVar 1) (dLst (dCons (dTup (dCons (dC (.str "a-")) dNil)) (dCons (dTup (dCons (dC (.str "-")) dNil)) (dCons (dTup (dCons (dC (.str "A")) dNil)) (dCons (dTup (dCons (dC (.str "a b")) dNil)) (dCons (dTup (dCons (dC (.str "a")) (dCons (dC .non) dNil))) (dCons (dLst (dCons (dTup (dCons (dC (.str "a")) dNil)) dNil)) (dCons (dTup (dCons (dOp mulW (dC (.str "a")) (dC (.int 21))) dNil)) (dCons (dTup (dCons (dC (.str "a")) (dCons (dC (.str "")) (dCons (dC (.str "b")) dNil)))) (dCons (dTup (dCons (dC (.str "**")) dNil)) dNil))))))))))) (tName 1))
    (sRet (dOp ixW (dVar 1) (dCall 2 d__law_take (dCons (dVar 0) (dCons (dApp lenW (dCons (dVar 1) dNil)) dNil)))))))
def d__law_odd : List W → Store → Res W := fnDen 2 b__law_odd
def fn__law_odd (T : Txt P w K mg base) : FnF P w K mg base "_law_odd" ["_law_pot_here"] 2 1 d__law_odd :=
  ⟨T.D__law_odd.f, T.D__law_odd.fd, fn_ok (k := 1) T.D__law_odd.F sc__law_odd (fun cdv A outer s H E hr => (is_cons (is_set (i := 1) ExOk.none sc__law_odd.nd rfl (.inl rfl) (ie_lst (ia_cons ie_non (ia_cons ie_bl (ia_cons ie_int (ia_cons (ie_neg ie_int) (ia_cons ie_str (ia_cons ie_str (ia_cons (ie_lst (ia_cons ie_str ia_nil)) (ia_cons (ie_lst ia_nil) (ia_cons (ie_tup (ia_cons ie_str (ia_cons ie_int ia_nil))) (ia_cons (ie_tup (ia_cons ie_str (ia_cons ie_str ia_nil))) (ia_cons (ie_tup (ia_cons (ie_tup (ia_cons ie_str ia_nil)) ia_nil)) (ia_cons (ie_tup (ia_cons ie_str ia_nil)) (ia_cons (ie_tup (ia_cons ie_str (ia_cons ie_str ia_nil))) (ia_cons ie_str ia_nil))))))))))))))))
    (is_cons (is_set (i := 1) ExOk.none sc__law_odd.nd rfl (.inl rfl) (ie_add (ie_var 1) (ie_lst (ia_cons (ie_tup (ia_cons ie_str ia_nil)) (ia_cons (ie_tup (ia_cons ie_str ia_nil)) (ia_cons (ie_tup (ia_cons ie_str ia_nil)) (ia_cons (ie_tup (ia_cons ie_str ia_nil)) (ia_cons (ie_tup (ia_cons ie_str (ia_cons ie_non ia_nil))) (ia_cons (ie_lst (ia_cons (ie_tup (ia_cons ie_str ia_nil)) ia_nil)) (ia_cons (ie_tup (ia_cons (ie_mul ie_str ie_int) ia_nil)) (ia_cons (ie_tup (ia_cons ie_str (ia_cons ie_str (ia_cons ie_str ia_nil)))) (ia_cons (ie_tup (ia_cons ie_str ia_nil)) ia_nil))))))))))))
    (is_one (is_ret (ie_ix (ie_var 1) (ie_callF (fn__law_take T) (hr.mono (by decide)) (takes_of rfl rfl rfl rfl) (ia_cons (ie_var 0) (ia_cons (ie_len rfl T.n_len (ia_cons (ie_var 1) ia_nil)) ia_nil))))))))), T.D__law_odd.m, T.D__law_odd.F.kp, T.D__law_odd.b⟩
/-! _law_is_label -/
theorem sc__law_is_label : FnScope ["_law_value", "_law_good", "_law_sign"] ["_law_value"] (defScope (top 41)) := ⟨rfl, rfl, rfl, by decide +kernel, rfl, by decide +kernel, by decide +kernel⟩
def b__law_is_label : DS := (sSeq (sIf (dOr (dNot (dBool (dApp isiW (dCons (dVar 0) (dCons (dC (.gl (.ty "str"))) dNil))))) (dOr (dBool (dOp ltW (dApp lenW (dCons (dVar 0) dNil)) (dC (.int 1)))) (dBool (dOp gtW (dApp lenW (dCons (dVar 0) dNil)) (dC (.int 20))))))
    (sRet (dC (.bl false)))
    sNil)
    (sSeq (sIf (dBool (dOp eqW (dVar 0) (dC (.str "*"))))
    (sRet (dC (.bl true)))
    sNil)
    (sSeq (sAsg (dC (.str "abcdefghijklmnopqrstuvwxyz0123456789-")) (tName 1))
    (sRet (dAndV (dApp allW (dCons (dLc (dIt (dVar 0)) [2] (tName 2) dYes (dOp (inW false) (dVar 2) (dVar 1))) dNil)) (dAndV (dOp neW (dOp ixW (dVar 0) (dC (.int 0))) (dC (.str "-"))) (dOp neW (dOp ixW (dVar 0) (dOp subW (dApp lenW (dCons (dVar 0) dNil)) (dC (.int 1)))) (dC (.str "-")))))))))
def d__law_is_label : List W → Store → Res W := fnDen 3 b__law_is_label
def fn__law_is_label (T : Txt P w K mg base) : FnF P w K mg base "_law_is_label" ["_law_value"] 1 1 d__law_is_label :=
  ⟨T.D__law_is_label.f, T.D__law_is_label.fd, fn_ok (k := 0) T.D__law_is_label.F sc__law_is_label (fun cdv A outer s H E hr => (is_cons (is_if (it_w (iw_or (it_not (it_val (ie_isi rfl T.n_isinstance (ia_cons (ie_var 0) (ia_cons (ie_ty (T := "str") rfl T.n_str (by decide +kernel)) ia_nil))))) (iw_or (it_lt (ie_len rfl T.n_len (ia_cons (ie_var 0) ia_nil)) ie_int) (iw_or1 (it_gt (ie_len rfl T.n_len (ia_cons (ie_var 0) ia_nil)) ie_int)))))
    (is_one (is_ret ie_bl))
    is_nil)
    (is_cons (is_if (it_eq hr (ie_var 0) ie_str)
    (is_one (is_ret ie_bl))
    is_nil)
    (is_cons (is_set (i := 1) ExOk.none sc__law_is_label.nd rfl (.inr rfl) ie_str)
    (is_one (is_ret (ie_and (ie_all rfl rfl T.n_all (ia_cons (ie_lc (own := [("_law_sign", 2)]) rfl sc__law_is_label.nd (ii_val (ie_var 0)) (blkOk_by (N := ["_law_value", "_law_good", "_law_sign"]) (sc := defScope (top 41)) (own := [("_law_sign", 2)]) (by decide +kernel)) (fun _ _ _ _ _ => (ig_name (i := 2) (by decide) ExOk.none sc__law_is_label.nd rfl (.inl rfl))) (fun _ _ _ _ _ => (ie_in (ie_var 2) (ie_var 1)))) ia_nil)) (ie_and (ie_ne hr (ie_ix (ie_var 0) ie_int) ie_str) (ie_one (ie_ne hr (ie_ix (ie_var 0) (ie_sub (ie_len rfl T.n_len (ia_cons (ie_var 0) ia_nil)) ie_int)) ie_str)))))))))), T.D__law_is_label.m, T.D__law_is_label.F.kp, T.D__law_is_label.b⟩
/-! _law_is_name -/
theorem sc__law_is_name : FnScope ["_law_value", "_law_k", "_law_label_here"] ["_law_value"] (defScope (top 42)) := ⟨rfl, rfl, rfl, by decide +kernel, rfl, by decide +kernel, by decide +kernel⟩
def b__law_is_name : DS := (sSeq (sIf (dOr (dNot (dBool (dApp isiW (dCons (dVar 0) (dCons (dC (.gl (.ty "tuple"))) dNil))))) (dNot (dBool (dApp allW (dCons (dLc (dIt (dVar 0)) [2] (tName 2) dYes (dCall 1 d__law_is_label (dCons (dVar 2) dNil))) dNil)))))
    (sRet (dC (.bl false)))
    sNil)
    (sRet (dApp allW (dCons (dLc (dRange2 (dCons (dC (.int 1)) (dCons (dApp lenW (dCons (dVar 0) dNil)) dNil))) [1] (tName 1) dYes (dOp neW (dOp ixW (dVar 0) (dVar 1)) (dC (.str "*")))) dNil))))
def d__law_is_name : List W → Store → Res W := fnDen 3 b__law_is_name
def fn__law_is_name (T : Txt P w K mg base) : FnF P w K mg base "_law_is_name" ["_law_value"] 2 1 d__law_is_name :=
  ⟨T.D__law_is_name.f, T.D__law_is_name.fd, fn_ok (k := 1) T.D__law_is_name.F sc__law_is_name (fun cdv A outer s H E hr => (is_cons (is_if (it_w (iw_or (it_not (it_val (ie_isi rfl T.n_isinstance (ia_cons (ie_var 0) (ia_cons (ie_ty (T := "tuple") rfl T.n_tuple (by decide +kernel)) ia_nil))))) (iw_or1 (it_not (it_val (ie_all rfl rfl T.n_all (ia_cons (ie_lc (own := [("_law_label_here", 2)]) rfl sc__law_is_name.nd (ii_val (ie_var 0)) (blkOk_by (N := ["_law_value", "_law_k", "_law_label_here"]) (sc := defScope (top 42)) (own := [("_law_label_here", 2)]) (by decide +kernel)) (fun _ _ _ _ _ => (ig_name (i := 2) (by decide) ExOk.none sc__law_is_name.nd rfl (.inl rfl))) (fun _ _ _ _ _ => (ie_callF (fn__law_is_label T) (hr.mono (by decide)) takes0 (ia_cons (ie_var 2) ia_nil)))) ia_nil)))))))
    (is_one (is_ret ie_bl))
    is_nil)
    (is_one (is_ret (ie_all rfl rfl T.n_all (ia_cons (ie_lc (own := [("_law_k", 1)]) rfl sc__law_is_name.nd (ii_range2 rfl T.n_range (ia_cons ie_int (ia_cons (ie_len rfl T.n_len (ia_cons (ie_var 0) ia_nil)) ia_nil))) (blkOk_by (N := ["_law_value", "_law_k", "_law_label_here"]) (sc := defScope (top 42)) (own := [("_law_k", 1)]) (by decide +kernel)) (fun _ _ _ _ _ => (ig_name (i := 1) (by decide) ExOk.none sc__law_is_name.nd rfl (.inl rfl))) (fun _ _ _ _ _ => (ie_ne hr (ie_ix (ie_var 0) (ie_var 1)) ie_str))) ia_nil)))))), T.D__law_is_name.m, T.D__law_is_name.F.kp, T.D__law_is_name.b⟩
/-! _law_text -/
theorem sc__law_text : FnScope ["_law_pot_here", "_law_signs", "_law_length", "_law_k"] ["_law_pot_here"] (defScope (top 43)) := ⟨rfl, rfl, rfl, by decide +kernel, rfl, by decide +kernel, by decide +kernel⟩
def b__law_text : DS := (sSeq (sAsg (dC (.str " !\"#$&'()*+,-./0123456789:;<=>?@AZ[\\]^_`az{|}~")) (tName 1))
    (sSeq (sAsg (dOp ixW (dLst (dCons (dCall 2 d__law_take (dCons (dVar 0) (dCons (dC (.int 6)) dNil))) (dCons (dCall 2 d__law_take (dCons (dVar 0) (dCons (dC (.int 61)) dNil))) (dCons (dC (.int 60)) dNil)))) (dOp addW (dOp fdivW (dOp fdivW (dCall 2 d__law_take (dCons (dVar 0) (dCons (dC (.int 6)) dNil))) (dC (.int 2))) (dC (.int 2))) (dCall 2 d__law_take (dCons (dVar 0) (dCons (dC (.int 2)) dNil))))) (tName 2))
    (sRet (dBm tyS joinW (dC (.str "")) (dCons (dLc (dRange1 (dCons (dVar 2) dNil)) [3] (tName 3) dYes (dOp ixW (dVar 1) (dCall 2 d__law_take (dCons (dVar 0) (dCons (dApp lenW (dCons (dVar 1) dNil)) dNil))))) dNil)))))
def d__law_text : List W → Store → Res W := fnDen 4 b__law_text
def fn__law_text (T : Txt P w K mg base) : FnF P w K mg base "_law_text" ["_law_pot_here"] 2 1 d__law_text :=
  ⟨T.D__law_text.f, T.D__law_text.fd, fn_ok (k := 1) T.D__law_text.F sc__law_text (fun cdv A outer s H E hr => (is_cons (is_set (i := 1) ExOk.none sc__law_text.nd rfl (.inr rfl) ie_str)
    (is_cons (is_set (i := 2) ExOk.none sc__law_text.nd rfl (.inl rfl) (ie_ix (ie_lst (ia_cons (ie_callF (fn__law_take T) (hr.mono (by decide)) (takes_of rfl rfl rfl rfl) (ia_cons (ie_var 0) (ia_cons ie_int ia_nil))) (ia_cons (ie_callF (fn__law_take T) (hr.mono (by decide)) (takes_of rfl rfl rfl rfl) (ia_cons (ie_var 0) (ia_cons ie_int ia_nil))) (ia_cons ie_int ia_nil)))) (ie_add (ie_fdiv (ie_fdiv (ie_callF (fn__law_take T) (hr.mono (by decide)) (takes_of rfl rfl rfl rfl) (ia_cons (ie_var 0) (ia_cons ie_int ia_nil))) ie_int) ie_int) (ie_callF (fn__law_take T) (hr.mono (by decide)) (takes_of rfl rfl rfl rfl) (ia_cons (ie_var 0) (ia_cons ie_int ia_nil))))))
    (is_one (is_ret (ie_join ie_str (ia_cons (ie_lc (own := [("_law_k", 3)]) rfl sc__law_text.nd (ii_range1 rfl T.n_range (ia_cons (ie_var 2) ia_nil)) (blkOk_by (N := ["_law_pot_here", "_law_signs", "_law_length", "_law_k"]) (sc := defScope (top 43)) (own := [("_law_k", 3)]) (by decide +kernel)) (fun _ _ _ _ _ => (ig_name (i := 3) (by decide) ExOk.none sc__law_text.nd rfl (.inl rfl))) (fun _ _ _ _ _ => (ie_ix (ie_var 1) (ie_callF (fn__law_take T) (hr.mono (by decide)) takes0 (ia_cons (ie_var 0) (ia_cons (ie_len rfl T.n_len (ia_cons (ie_var 1) ia_nil)) ia_nil)))))) ia_nil))))))), T.D__law_text.m, T.D__law_text.F.kp, T.D__law_text.b⟩
/-! _law_number -/
theorem sc__law_number : FnScope ["_law_pot_here", "_law_bound"] ["_law_pot_here", "_law_bound"] (defScope (top 44)) := ⟨rfl, rfl, rfl, by decide +kernel, rfl, by decide +kernel, by decide +kernel⟩
def b__law_number : DS := (sRet (dOp ixW (dLst (dCons (dCall 2 d__law_take (dCons (dVar 0) (dCons (dApp minW (dCons (dC (.int 4)) (dCons (dVar 1) dNil))) dNil))) (dCons (dCall 2 d__law_take (dCons (dVar 0) (dCons (dVar 1) dNil))) (dCons (dOp subW (dVar 1) (dC (.int 1))) (dCons (dC (.int 0)) dNil))))) (dCall 2 d__law_take (dCons (dVar 0) (dCons (dC (.int 4)) dNil)))))
def d__law_number : List W → Store → Res W := fnDen 2 b__law_number
def fn__law_number (T : Txt P w K mg base) : FnF P w K mg base "_law_number" ["_law_pot_here", "_law_bound"] 2 2 d__law_number :=
  ⟨T.D__law_number.f, T.D__law_number.fd, fn_ok (k := 1) T.D__law_number.F sc__law_number (fun cdv A outer s H E hr => (is_one (is_ret (ie_ix (ie_lst (ia_cons (ie_callF (fn__law_take T) (hr.mono (by decide)) (takes_of rfl rfl rfl rfl) (ia_cons (ie_var 0) (ia_cons (ie_min rfl rfl T.n_min (ia_cons ie_int (ia_cons (ie_var 1) ia_nil))) ia_nil))) (ia_cons (ie_callF (fn__law_take T) (hr.mono (by decide)) (takes_of rfl rfl rfl rfl) (ia_cons (ie_var 0) (ia_cons (ie_var 1) ia_nil))) (ia_cons (ie_sub (ie_var 1) ie_int) (ia_cons ie_int ia_nil))))) (ie_callF (fn__law_take T) (hr.mono (by decide)) (takes_of rfl rfl rfl rfl) (ia_cons (ie_var 0) (ia_cons ie_int ia_nil))))))), T.D__law_number.m, T.D__law_number.F.kp, T.D__law_number.b⟩
/-! _law_data -/
theorem sc__law_data : FnScope ["_law_pot_here", "_law_kind", "_law_names_here", "_law_name", "_law_k"] ["_law_pot_here", "_law_kind", "_law_names_here"] (defScope (top 45)) := ⟨rfl, rfl, rfl, by decide +kernel, rfl, by decide +kernel, by decide +kernel⟩
def b__law_data : DS := (sSeq (sAsg (dOp ixW (dVar 2) (dCall 2 d__law_take (dCons (dVar 0) (dCons (dApp lenW (dCons (dVar 2) dNil)) dNil)))) (tName 3))
    (sSeq (sIf (dBool (dOp eqW (dVar 1) (dC (.str "addr"))))
    (sRet (dCall 2 d__law_number (dCons (dVar 0) (dCons (dOp powW (dC (.int 2)) (dC (.int 32))) dNil))))
    sNil)
    (sSeq (sIf (dBool (dOp eqW (dVar 1) (dC (.str "text"))))
    (sRet (dCall 1 d__law_text (dCons (dVar 0) dNil)))
    sNil)
    (sSeq (sIf (dBool (dOp eqW (dVar 1) (dC (.str "mail"))))
    (sRet (dTup (dCons (dCall 2 d__law_number (dCons (dVar 0) (dCons (dOp powW (dC (.int 2)) (dC (.int 16))) dNil))) (dCons (dVar 3) dNil))))
    sNil)
    (sSeq (sIf (dBool (dOp eqW (dVar 1) (dC (.str "start"))))
    (sRet (dOp addW (dTup (dCons (dVar 3) (dCons (dCall 2 d__law_number (dCons (dVar 0) (dCons (dOp powW (dC (.int 2)) (dC (.int 32))) dNil))) dNil))) (dApp tupleW (dCons (dLc (dRange1 (dCons (dC (.int 4)) dNil)) [4] (tName 4) dYes (dCall 2 d__law_number (dCons (dVar 0) (dCons (dOp powW (dC (.int 2)) (dC (.int 31))) dNil)))) dNil))))
    sNil)
    (sRet (dVar 3)))))))
def d__law_data : List W → Store → Res W := fnDen 5 b__law_data
def fn__law_data (T : Txt P w K mg base) : FnF P w K mg base "_law_data" ["_law_pot_here", "_law_kind", "_law_names_here"] 3 3 d__law_data :=
  ⟨T.D__law_data.f, T.D__law_data.fd, fn_ok (k := 2) T.D__law_data.F sc__law_data (fun cdv A outer s H E hr => (is_cons (is_set (i := 3) ExOk.none sc__law_data.nd rfl (.inl rfl) (ie_ix (ie_var 2) (ie_callF (fn__law_take T) (hr.mono (by decide)) (takes_of rfl rfl rfl rfl) (ia_cons (ie_var 0) (ia_cons (ie_len rfl T.n_len (ia_cons (ie_var 2) ia_nil)) ia_nil)))))
    (is_cons (is_if (it_eq hr (ie_var 1) ie_str)
    (is_one (is_ret (ie_callF (fn__law_number T) (hr.mono (by decide)) (takes_of rfl rfl rfl rfl) (ia_cons (ie_var 0) (ia_cons (ie_pow ie_int ie_int) ia_nil)))))
    is_nil)
    (is_cons (is_if (it_eq hr (ie_var 1) ie_str)
    (is_one (is_ret (ie_callF (fn__law_text T) (hr.mono (by decide)) (takes_of rfl rfl rfl rfl) (ia_cons (ie_var 0) ia_nil))))
    is_nil)
    (is_cons (is_if (it_eq hr (ie_var 1) ie_str)
    (is_one (is_ret (ie_tup (ia_cons (ie_callF (fn__law_number T) (hr.mono (by decide)) (takes_of rfl rfl rfl rfl) (ia_cons (ie_var 0) (ia_cons (ie_pow ie_int ie_int) ia_nil))) (ia_cons (ie_var 3) ia_nil)))))
    is_nil)
    (is_cons (is_if (it_eq hr (ie_var 1) ie_str)
    (is_one (is_ret (ie_add (ie_tup (ia_cons (ie_var 3) (ia_cons (ie_callF (fn__law_number T) (hr.mono (by decide)) (takes_of rfl rfl rfl rfl) (ia_cons (ie_var 0) (ia_cons (ie_pow ie_int ie_int) ia_nil))) ia_nil))) (ie_tuple rfl T.n_tuple (ia_cons (ie_lc (own := [("_law_k", 4)]) rfl sc__law_data.nd (ii_range1 rfl T.n_range (ia_cons ie_int ia_nil)) (blkOk_by (N := ["_law_pot_here", "_law_kind", "_law_names_here", "_law_name", "_law_k"]) (sc := defScope (top 45)) (own := [("_law_k", 4)]) (by decide +kernel)) (fun _ _ _ _ _ => (ig_name (i := 4) (by decide) ExOk.none sc__law_data.nd rfl (.inl rfl))) (fun _ _ _ _ _ => (ie_callF (fn__law_number T) (hr.mono (by decide)) takes0 (ia_cons (ie_var 0) (ia_cons (ie_pow ie_int ie_int) ia_nil))))) ia_nil)))))
    is_nil)
    (is_one (is_ret (ie_var 3))))))))), T.D__law_data.m, T.D__law_data.F.kp, T.D__law_data.b⟩
/-! _law_data_key -/
theorem sc__law_data_key : FnScope ["_law_kind", "_law_data_here"] ["_law_kind", "_law_data_here"] (defScope (top 46)) := ⟨rfl, rfl, rfl, by decide +kernel, rfl, by decide +kernel, by decide +kernel⟩
def b__law_data_key : DS := (sSeq (sIf (dBool (dOp (inW false) (dVar 0) (dTup (dCons (dC (.str "alias")) (dCons (dC (.str "back")) (dCons (dC (.str "server")) (dCons (dC (.str "tree")) dNil)))))))
    (sRet (dApp tupleW (dCons (dUn rev2W (dVar 1)) dNil)))
    sNil)
    (sSeq (sIf (dBool (dOp eqW (dVar 0) (dC (.str "mail"))))
    (sRet (dTup (dCons (dOp ixW (dVar 1) (dC (.int 0))) (dCons (dApp tupleW (dCons (dUn rev2W (dOp ixW (dVar 1) (dC (.int 1)))) dNil)) dNil))))
    sNil)
    (sSeq (sIf (dBool (dOp eqW (dVar 0) (dC (.str "start"))))
    (sRet (dOp addW (dTup (dCons (dApp tupleW (dCons (dUn rev2W (dOp ixW (dVar 1) (dC (.int 0)))) dNil)) dNil)) (dSl (dVar 1) (dPart (dC (.int 1))) dNoPart)))
    sNil)
    (sRet (dVar 1)))))
def d__law_data_key : List W → Store → Res W := fnDen 2 b__law_data_key
def fn__law_data_key (T : Txt P w K mg base) : FnF P w K mg base "_law_data_key" ["_law_kind", "_law_data_here"] 1 2 d__law_data_key :=
  ⟨T.D__law_data_key.f, T.D__law_data_key.fd, fn_ok (k := 0) T.D__law_data_key.F sc__law_data_key (fun cdv A outer s H E hr => (is_cons (is_if (it_in (ie_var 0) (ie_tup (ia_cons ie_str (ia_cons ie_str (ia_cons ie_str (ia_cons ie_str ia_nil))))))
    (is_one (is_ret (ie_tuple rfl T.n_tuple (ia_cons (ie_rev2 (ie_var 1)) ia_nil))))
    is_nil)
    (is_cons (is_if (it_eq hr (ie_var 0) ie_str)
    (is_one (is_ret (ie_tup (ia_cons (ie_ix (ie_var 1) ie_int) (ia_cons (ie_tuple rfl T.n_tuple (ia_cons (ie_rev2 (ie_ix (ie_var 1) ie_int)) ia_nil)) ia_nil)))))
    is_nil)
    (is_cons (is_if (it_eq hr (ie_var 0) ie_str)
    (is_one (is_ret (ie_add (ie_tup (ia_cons (ie_tuple rfl T.n_tuple (ia_cons (ie_rev2 (ie_ix (ie_var 1) ie_int)) ia_nil)) ia_nil)) (ie_slice (ie_var 1) (io_some ie_int) io_none))))
    is_nil)
    (is_one (is_ret (ie_var 1))))))), T.D__law_data_key.m, T.D__law_data_key.F.kp, T.D__law_data_key.b⟩
/-! _law_kinds -/
theorem sc__law_kinds : FnScope [] [] (defScope (top 47)) := ⟨rfl, rfl, rfl, by decide +kernel, rfl, by decide +kernel, by decide +kernel⟩
def b__law_kinds : DS := (sRet (dLst (dCons (dC (.str "addr")) (dCons (dC (.str "alias")) (dCons (dC (.str "back")) (dCons (dC (.str "mail")) (dCons (dC (.str "server")) (dCons (dC (.str "start")) (dCons (dC (.str "text")) (dCons (dC (.str "tree")) dNil))))))))))
def d__law_kinds : List W → Store → Res W := fnDen 0 b__law_kinds
def fn__law_kinds (T : Txt P w K mg base) : FnF P w K mg base "_law_kinds" [] 1 0 d__law_kinds :=
  ⟨T.D__law_kinds.f, T.D__law_kinds.fd, fn_ok (k := 0) T.D__law_kinds.F sc__law_kinds (fun cdv A outer s H E hr => (is_one (is_ret (ie_lst (ia_cons ie_str (ia_cons ie_str (ia_cons ie_str (ia_cons ie_str (ia_cons ie_str (ia_cons ie_str (ia_cons ie_str (ia_cons ie_str ia_nil)))))))))))), T.D__law_kinds.m, T.D__law_kinds.F.kp, T.D__law_kinds.b⟩
/-! _law_names -/
theorem sc__law_names : FnScope ["_law_pot_here", "_law_words_here", "_law_found", "_law_turn", "_law_k"] ["_law_pot_here"] (defScope (top 48)) := ⟨rfl, rfl, rfl, by decide +kernel, rfl, by decide +kernel, by decide +kernel⟩
def b__law_names : DS := (sSeq (sAsg (dCall 2 d__law_words (dCons (dVar 0) (dCons (dC (.int 4)) dNil))) (tName 1))
    (sSeq (sAsg (dLst (dCons (dTup dNil) (dCons (dTup (dCons (dOp ixW (dVar 1) (dC (.int 0))) dNil)) (dCons (dApp tupleW (dCons (dOp mulW (dVar 1) (dC (.int 3))) dNil)) dNil)))) (tName 2))
    (sSeq (sFor (dRange1 (dCons (dC (.int 3)) dNil)) (tName 3)
    (sExpr (dBm tyL appendW (dVar 2) (dCons (dApp tupleW (dCons (dLc (dRange1 (dCons (dCall 2 d__law_take (dCons (dVar 0) (dCons (dC (.int 5)) dNil))) dNil)) [4] (tName 4) dYes (dOp ixW (dVar 1) (dCall 2 d__law_take (dCons (dVar 0) (dCons (dC (.int 4)) dNil))))) dNil)) dNil))))
    (sRet (dVar 2)))))
def d__law_names : List W → Store → Res W := fnDen 5 b__law_names
def fn__law_names (T : Txt P w K mg base) : FnF P w K mg base "_law_names" ["_law_pot_here"] 4 1 d__law_names :=
  ⟨T.D__law_names.f, T.D__law_names.fd, fn_ok (k := 3) T.D__law_names.F sc__law_names (fun cdv A outer s H E hr => (is_cons (is_set (i := 1) ExOk.none sc__law_names.nd rfl (.inr rfl) (ie_callF (fn__law_words T) (hr.mono (by decide)) (takes_of rfl rfl rfl rfl) (ia_cons (ie_var 0) (ia_cons ie_int ia_nil))))
    (is_cons (is_set (i := 2) ExOk.none sc__law_names.nd rfl (.inl rfl) (ie_lst (ia_cons (ie_tup ia_nil) (ia_cons (ie_tup (ia_cons (ie_ix (ie_var 1) ie_int) ia_nil)) (ia_cons (ie_tuple rfl T.n_tuple (ia_cons (ie_mul (ie_var 1) ie_int) ia_nil)) ia_nil)))))
    (is_cons (is_for (vs := [3]) (passes_of rfl) rfl (ii_range1 rfl T.n_range (ia_cons ie_int ia_nil)) (ig_name (i := 3) (by decide) ExOk.none sc__law_names.nd rfl (.inl rfl))
    (is_one (is_expr (ie_append (ie_var 2) (ia_cons (ie_tuple rfl T.n_tuple (ia_cons (ie_lc (own := [("_law_k", 4)]) rfl sc__law_names.nd (ii_range1 rfl T.n_range (ia_cons (ie_callF (fn__law_take T) (hr.mono (by decide)) (takes_of rfl rfl rfl rfl) (ia_cons (ie_var 0) (ia_cons ie_int ia_nil))) ia_nil)) (blkOk_by (N := ["_law_pot_here", "_law_words_here", "_law_found", "_law_turn", "_law_k"]) (sc := defScope (top 48)) (own := [("_law_k", 4)]) (by decide +kernel)) (fun _ _ _ _ _ => (ig_name (i := 4) (by decide) ExOk.none sc__law_names.nd rfl (.inl rfl))) (fun _ _ _ _ _ => (ie_ix (ie_var 1) (ie_callF (fn__law_take T) (hr.mono (by decide)) takes0 (ia_cons (ie_var 0) (ia_cons ie_int ia_nil)))))) ia_nil)) ia_nil)))))
    (is_one (is_ret (ie_var 2))))))), T.D__law_names.m, T.D__law_names.F.kp, T.D__law_names.b⟩
/-! _law_in -/
theorem sc__law_in : FnScope ["_law_value", "_law_bound"] ["_law_value", "_law_bound"] (defScope (top 49)) := ⟨rfl, rfl, rfl, by decide +kernel, rfl, by decide +kernel, by decide +kernel⟩
def b__law_in : DS := (sRet (dAndV (dApp isiW (dCons (dVar 0) (dCons (dC (.gl (.ty "int"))) dNil))) (dAndV (dNotV (dApp isiW (dCons (dVar 0) (dCons (dC (.gl (.ty "bool"))) dNil)))) (dChain leW ltW (dC (.int 0)) (dVar 0) (dVar 1)))))
def d__law_in : List W → Store → Res W := fnDen 2 b__law_in
def fn__law_in (T : Txt P w K mg base) : FnF P w K mg base "_law_in" ["_law_value", "_law_bound"] 1 2 d__law_in :=
  ⟨T.D__law_in.f, T.D__law_in.fd, fn_ok (k := 0) T.D__law_in.F sc__law_in (fun cdv A outer s H E hr => (is_one (is_ret (ie_and (ie_isi rfl T.n_isinstance (ia_cons (ie_var 0) (ia_cons (ie_ty (T := "int") rfl T.n_int (by decide +kernel)) ia_nil))) (ie_and (ie_notV (ie_isi rfl T.n_isinstance (ia_cons (ie_var 0) (ia_cons (ie_ty (T := "bool") rfl T.n_bool (by decide +kernel)) ia_nil)))) (ie_one (ie_lelt ie_int (ie_var 0) (ie_var 1)))))))), T.D__law_in.m, T.D__law_in.F.kp, T.D__law_in.b⟩
/-! _law_asked -/
theorem sc__law_asked : FnScope ["_law_value"] ["_law_value"] (defScope (top 50)) := ⟨rfl, rfl, rfl, by decide +kernel, rfl, by decide +kernel, by decide +kernel⟩
def b__law_asked : DS := (sRet (dAndV (dCall 1 d__law_is_name (dCons (dVar 0) dNil)) (dOp neW (dSl (dVar 0) dNoPart (dPart (dC (.int 1)))) (dTup (dCons (dC (.str "*")) dNil)))))
def d__law_asked : List W → Store → Res W := fnDen 1 b__law_asked
def fn__law_asked (T : Txt P w K mg base) : FnF P w K mg base "_law_asked" ["_law_value"] 3 1 d__law_asked :=
  ⟨T.D__law_asked.f, T.D__law_asked.fd, fn_ok (k := 2) T.D__law_asked.F sc__law_asked (fun cdv A outer s H E hr => (is_one (is_ret (ie_and (ie_callF (fn__law_is_name T) (hr.mono (by decide)) (takes_of rfl rfl rfl rfl) (ia_cons (ie_var 0) ia_nil)) (ie_one (ie_ne hr (ie_slice (ie_var 0) io_none (io_some ie_int)) (ie_tup (ia_cons ie_str ia_nil)))))))), T.D__law_asked.m, T.D__law_asked.F.kp, T.D__law_asked.b⟩
/-! _law_is_data -/
theorem sc__law_is_data : FnScope ["_law_kind", "_law_value", "_law_rest", "_law_good", "_law_k", "_law_sign"] ["_law_kind", "_law_value"] (defScope (top 51)) := ⟨rfl, rfl, rfl, by decide +kernel, rfl, by decide +kernel, by decide +kernel⟩
def b__law_is_data : DS := (sSeq (sIf (dBool (dOp eqW (dVar 0) (dC (.str "addr"))))
    (sRet (dCall 2 d__law_in (dCons (dVar 1) (dCons (dOp powW (dC (.int 2)) (dC (.int 32))) dNil))))
    sNil)
    (sSeq (sIf (dBool (dOp eqW (dVar 0) (dC (.str "text"))))
    (sSeq (sAsg (dAndV (dApp isiW (dCons (dVar 1) (dCons (dC (.gl (.ty "str"))) dNil))) (dOp leW (dApp lenW (dCons (dVar 1) dNil)) (dC (.int 60)))) (tName 3))
    (sRet (dAndV (dVar 3) (dApp allW (dCons (dLc (dIt (dVar 1)) [5] (tName 5) dYes (dAndV (dChain leW leW (dC (.int 32)) (dApp ordFW (dCons (dVar 5) dNil)) (dC (.int 126))) (dOp neW (dApp ordFW (dCons (dVar 5) dNil)) (dC (.int 37))))) dNil)))))
    sNil)
    (sSeq (sIf (dBool (dOp (inW false) (dVar 0) (dTup (dCons (dC (.str "alias")) (dCons (dC (.str "back")) (dCons (dC (.str "server")) (dCons (dC (.str "tree")) dNil)))))))
    (sRet (dCall 1 d__law_asked (dCons (dVar 1) dNil)))
    sNil)
    (sSeq (sIf (dOr (dNot (dBool (dApp isiW (dCons (dVar 1) (dCons (dC (.gl (.ty "tuple"))) dNil))))) (dBool (dOp neW (dApp lenW (dCons (dVar 1) dNil)) (dOp ixW (dLst (dCons (dC (.int 6)) (dCons (dC (.int 2)) dNil))) (dApp intOfW (dCons (dOp eqW (dVar 0) (dC (.str "mail"))) dNil))))))
    (sRet (dC (.bl false)))
    sNil)
    (sSeq (sIf (dBool (dOp eqW (dVar 0) (dC (.str "mail"))))
    (sRet (dAndV (dCall 2 d__law_in (dCons (dOp ixW (dVar 1) (dC (.int 0))) (dCons (dOp powW (dC (.int 2)) (dC (.int 16))) dNil))) (dCall 1 d__law_asked (dCons (dOp ixW (dVar 1) (dC (.int 1))) dNil))))
    sNil)
    (sSeq (sAsg (dApp allW (dCons (dLc (dRange2 (dCons (dC (.int 2)) (dCons (dC (.int 6)) dNil))) [4] (tName 4) dYes (dCall 2 d__law_in (dCons (dOp ixW (dVar 1) (dVar 4)) (dCons (dOp powW (dC (.int 2)) (dC (.int 31))) dNil)))) dNil)) (tName 2))
    (sRet (dAndV (dCall 1 d__law_asked (dCons (dOp ixW (dVar 1) (dC (.int 0))) dNil)) (dAndV (dCall 2 d__law_in (dCons (dOp ixW (dVar 1) (dC (.int 1))) (dCons (dOp powW (dC (.int 2)) (dC (.int 32))) dNil))) (dVar 2))))))))))
def d__law_is_data : List W → Store → Res W := fnDen 6 b__law_is_data
def fn__law_is_data (T : Txt P w K mg base) : FnF P w K mg base "_law_is_data" ["_law_kind", "_law_value"] 4 2 d__law_is_data :=
  ⟨T.D__law_is_data.f, T.D__law_is_data.fd, fn_ok (k := 3) T.D__law_is_data.F sc__law_is_data (fun cdv A outer s H E hr => (is_cons (is_if (it_eq hr (ie_var 0) ie_str)
    (is_one (is_ret (ie_callF (fn__law_in T) (hr.mono (by decide)) (takes_of rfl rfl rfl rfl) (ia_cons (ie_var 1) (ia_cons (ie_pow ie_int ie_int) ia_nil)))))
    is_nil)
    (is_cons (is_if (it_eq hr (ie_var 0) ie_str)
    (is_cons (is_set (i := 3) ExOk.none sc__law_is_data.nd rfl (.inl rfl) (ie_and (ie_isi rfl T.n_isinstance (ia_cons (ie_var 1) (ia_cons (ie_ty (T := "str") rfl T.n_str (by decide +kernel)) ia_nil))) (ie_one (ie_le (ie_len rfl T.n_len (ia_cons (ie_var 1) ia_nil)) ie_int))))
    (is_one (is_ret (ie_and (ie_var 3) (ie_one (ie_all rfl rfl T.n_all (ia_cons (ie_lc (own := [("_law_sign", 5)]) rfl sc__law_is_data.nd (ii_val (ie_var 1)) (blkOk_by (N := ["_law_kind", "_law_value", "_law_rest", "_law_good", "_law_k", "_law_sign"]) (sc := defScope (top 51)) (own := [("_law_sign", 5)]) (by decide +kernel)) (fun _ _ _ _ _ => (ig_name (i := 5) (by decide) ExOk.none sc__law_is_data.nd rfl (.inl rfl))) (fun _ _ _ _ _ => (ie_and (ie_lele ie_int (ie_ord rfl T.n_ord (ia_cons (ie_var 5) ia_nil)) ie_int) (ie_one (ie_ne hr (ie_ord rfl T.n_ord (ia_cons (ie_var 5) ia_nil)) ie_int))))) ia_nil)))))))
    is_nil)
    (is_cons (is_if (it_in (ie_var 0) (ie_tup (ia_cons ie_str (ia_cons ie_str (ia_cons ie_str (ia_cons ie_str ia_nil))))))
    (is_one (is_ret (ie_callF (fn__law_asked T) (hr.mono (by decide)) (takes_of rfl rfl rfl rfl) (ia_cons (ie_var 1) ia_nil))))
    is_nil)
    (is_cons (is_if (it_w (iw_or (it_not (it_val (ie_isi rfl T.n_isinstance (ia_cons (ie_var 1) (ia_cons (ie_ty (T := "tuple") rfl T.n_tuple (by decide +kernel)) ia_nil))))) (iw_or1 (it_ne hr (ie_len rfl T.n_len (ia_cons (ie_var 1) ia_nil)) (ie_ix (ie_lst (ia_cons ie_int (ia_cons ie_int ia_nil))) (ie_intOf rfl T.n_int (ia_cons (ie_eq hr (ie_var 0) ie_str) ia_nil)))))))
    (is_one (is_ret ie_bl))
    is_nil)
    (is_cons (is_if (it_eq hr (ie_var 0) ie_str)
    (is_one (is_ret (ie_and (ie_callF (fn__law_in T) (hr.mono (by decide)) (takes_of rfl rfl rfl rfl) (ia_cons (ie_ix (ie_var 1) ie_int) (ia_cons (ie_pow ie_int ie_int) ia_nil))) (ie_one (ie_callF (fn__law_asked T) (hr.mono (by decide)) (takes_of rfl rfl rfl rfl) (ia_cons (ie_ix (ie_var 1) ie_int) ia_nil))))))
    is_nil)
    (is_cons (is_set (i := 2) ExOk.none sc__law_is_data.nd rfl (.inl rfl) (ie_all rfl rfl T.n_all (ia_cons (ie_lc (own := [("_law_k", 4)]) rfl sc__law_is_data.nd (ii_range2 rfl T.n_range (ia_cons ie_int (ia_cons ie_int ia_nil))) (blkOk_by (N := ["_law_kind", "_law_value", "_law_rest", "_law_good", "_law_k", "_law_sign"]) (sc := defScope (top 51)) (own := [("_law_k", 4)]) (by decide +kernel)) (fun _ _ _ _ _ => (ig_name (i := 4) (by decide) ExOk.none sc__law_is_data.nd rfl (.inl rfl))) (fun _ _ _ _ _ => (ie_callF (fn__law_in T) (hr.mono (by decide)) takes0 (ia_cons (ie_ix (ie_var 1) (ie_var 4)) (ia_cons (ie_pow ie_int ie_int) ia_nil))))) ia_nil)))
    (is_one (is_ret (ie_and (ie_callF (fn__law_asked T) (hr.mono (by decide)) (takes_of rfl rfl rfl rfl) (ia_cons (ie_ix (ie_var 1) ie_int) ia_nil)) (ie_and (ie_callF (fn__law_in T) (hr.mono (by decide)) (takes_of rfl rfl rfl rfl) (ia_cons (ie_ix (ie_var 1) ie_int) (ia_cons (ie_pow ie_int ie_int) ia_nil))) (ie_one (ie_var 2))))))))))))), T.D__law_is_data.m, T.D__law_is_data.F.kp, T.D__law_is_data.b⟩
/-! _law_bent -/
theorem sc__law_bent : FnScope ["_law_pot_here", "_law_value", "_law_names_here", "_law_way", "_law_some", "_law_at", "_law_bounds"] ["_law_pot_here", "_law_value", "_law_names_here"] (defScope (top 52)) := ⟨rfl, rfl, rfl, by decide +kernel, rfl, by decide +kernel, by decide +kernel⟩
def b__law_bent (rec : List W → Store → Res W) : DS := (sSeq (sAsg (dCall 2 d__law_take (dCons (dVar 0) (dCons (dC (.int 8)) dNil))) (tName 3))
    (sSeq (sIf (dAnd (dBool (dApp isiW (dCons (dVar 1) (dCons (dC (.gl (.ty "tuple"))) dNil)))) (dAnd (dBool (dOp neW (dVar 1) (dTup dNil))) (dAnd (dNot (dBool (dApp isiW (dCons (dOp ixW (dVar 1) (dC (.int 0))) (dCons (dC (.gl (.ty "str"))) dNil))))) (dBool (dOp ltW (dVar 3) (dC (.int 4)))))))
    (sSeq (sAsg (dCall 2 d__law_take (dCons (dVar 0) (dCons (dApp lenW (dCons (dVar 1) dNil)) dNil))) (tName 5))
    (sRet (dOp addW (dOp addW (dSl (dVar 1) dNoPart (dPart (dVar 5))) (dTup (dCons (dCall 3 rec (dCons (dVar 0) (dCons (dOp ixW (dVar 1) (dVar 5)) (dCons (dVar 2) dNil)))) dNil))) (dSl (dVar 1) (dPart (dOp addW (dVar 5) (dC (.int 1)))) dNoPart))))
    sNil)
    (sSeq (sIf (dAnd (dBool (dApp isiW (dCons (dVar 1) (dCons (dC (.gl (.ty "tuple"))) dNil)))) (dBool (dOp ltW (dVar 3) (dC (.int 6)))))
    (sRet (dOp ixW (dLst (dCons (dSl (dVar 1) (dPart (dC (.int 1))) dNoPart) (dCons (dOp addW (dVar 1) (dTup (dCons (dC (.str "a")) dNil))) (dCons (dOp addW (dVar 1) (dTup (dCons (dC (.int 5)) dNil))) (dCons (dApp listAW (dCons (dVar 1) dNil)) (dCons (dOp addW (dTup (dCons (dC (.str "*")) dNil)) (dVar 1)) (dCons (dTup (dCons (dC (.str "*")) (dCons (dC (.str "*")) dNil))) dNil))))))) (dCall 2 d__law_take (dCons (dVar 0) (dCons (dC (.int 6)) dNil)))))
    sNil)
    (sSeq (sIf (dAnd (dBool (dApp isiW (dCons (dVar 1) (dCons (dC (.gl (.ty "int"))) dNil)))) (dBool (dOp ltW (dVar 3) (dC (.int 6)))))
    (sSeq (sAsg (dLst (dCons (dOp powW (dC (.int 2)) (dC (.int 16))) (dCons (dOp powW (dC (.int 2)) (dC (.int 31))) (dCons (dOp powW (dC (.int 2)) (dC (.int 32))) (dCons (dUn negW (dC (.int 1))) (dCons (dOp subW (dOp powW (dC (.int 2)) (dC (.int 16))) (dC (.int 1))) (dCons (dOp subW (dOp powW (dC (.int 2)) (dC (.int 31))) (dC (.int 1))) (dCons (dOp subW (dOp powW (dC (.int 2)) (dC (.int 32))) (dC (.int 1))) (dCons (dC (.bl true)) (dCons (dUn negW (dOp powW (dC (.int 2)) (dC (.int 40)))) dNil)))))))))) (tName 6))
    (sRet (dOp ixW (dVar 6) (dCall 2 d__law_take (dCons (dVar 0) (dCons (dC (.int 9)) dNil))))))
    sNil)
    (sSeq (sIf (dAnd (dBool (dApp isiW (dCons (dVar 1) (dCons (dC (.gl (.ty "str"))) dNil)))) (dBool (dOp ltW (dVar 3) (dC (.int 6)))))
    (sRet (dOp ixW (dLst (dCons (dOp addW (dVar 1) (dC (.str "\n"))) (dCons (dOp addW (dC (.str "	")) (dVar 1)) (dCons (dOp mulW (dC (.str "x")) (dC (.int 61))) (dCons (dOp mulW (dC (.str "x")) (dC (.int 60))) (dCons (dOp mulW (dVar 1) (dC (.int 2))) (dCons (dC (.str "")) dNil))))))) (dCall 2 d__law_take (dCons (dVar 0) (dCons (dC (.int 6)) dNil)))))
    sNil)
    (sSeq (sAsg (dLst (dCons (dCall 1 d__law_odd (dCons (dVar 0) dNil)) (dCons (dOp ixW (dVar 2) (dCall 2 d__law_take (dCons (dVar 0) (dCons (dApp lenW (dCons (dVar 2) dNil)) dNil)))) (dCons (dC (.int 5)) (dCons (dC (.str "text")) (dCons (dTup (dCons (dC (.int 10)) (dCons (dTup dNil) dNil))) (dCons (dTup (dCons (dC (.int 10)) (dCons (dTup (dCons (dC (.str "a")) dNil)) (dCons (dC (.int 3)) dNil)))) (dCons (dLst (dCons (dC (.int 10)) (dCons (dTup (dCons (dC (.str "a")) dNil)) dNil))) dNil)))))))) (tName 4))
    (sRet (dOp ixW (dVar 4) (dCall 2 d__law_take (dCons (dVar 0) (dCons (dC (.int 7)) dNil)))))))))))
def d__law_bent : Nat → List W → Store → Res W
  | 0 => fun _ _ => .stuck
  | n + 1 => fnDen 7 (b__law_bent (d__law_bent n))
def fn__law_bent (T : Txt P w K mg base) : (n : Nat) → FnF P w K mg base "_law_bent" ["_law_pot_here", "_law_value", "_law_names_here"] (2 + n) 3 (d__law_bent n)
  | 0 => ⟨T.D__law_bent.f, T.D__law_bent.fd, fn_stuck, T.D__law_bent.m, T.D__law_bent.F.kp, T.D__law_bent.b⟩
  | n + 1 => ⟨T.D__law_bent.f, T.D__law_bent.fd, fn_ok (k := 2 + n) T.D__law_bent.F sc__law_bent (fun cdv A outer s H E hr => (is_cons (is_set (i := 3) ExOk.none sc__law_bent.nd rfl (.inl rfl) (ie_callF (fn__law_take T) (hr.mono (by omega)) (takes_of rfl rfl rfl rfl) (ia_cons (ie_var 0) (ia_cons ie_int ia_nil))))
    (is_cons (is_if (it_w (iw_and (it_val (ie_isi rfl T.n_isinstance (ia_cons (ie_var 1) (ia_cons (ie_ty (T := "tuple") rfl T.n_tuple (by decide +kernel)) ia_nil)))) (iw_and (it_ne hr (ie_var 1) (ie_tup ia_nil)) (iw_and (it_not (it_val (ie_isi rfl T.n_isinstance (ia_cons (ie_ix (ie_var 1) ie_int) (ia_cons (ie_ty (T := "str") rfl T.n_str (by decide +kernel)) ia_nil))))) (iw_and1 (it_lt (ie_var 3) ie_int))))))
    (is_cons (is_set (i := 5) ExOk.none sc__law_bent.nd rfl (.inl rfl) (ie_callF (fn__law_take T) (hr.mono (by omega)) (takes_of rfl rfl rfl rfl) (ia_cons (ie_var 0) (ia_cons (ie_len rfl T.n_len (ia_cons (ie_var 1) ia_nil)) ia_nil))))
    (is_one (is_ret (ie_add (ie_add (ie_slice (ie_var 1) io_none (io_some (ie_var 5))) (ie_tup (ia_cons (ie_callF (fn__law_bent T n) (hr) (takes_of rfl rfl rfl rfl) (ia_cons (ie_var 0) (ia_cons (ie_ix (ie_var 1) (ie_var 5)) (ia_cons (ie_var 2) ia_nil)))) ia_nil))) (ie_slice (ie_var 1) (io_some (ie_add (ie_var 5) ie_int)) io_none)))))
    is_nil)
    (is_cons (is_if (it_w (iw_and (it_val (ie_isi rfl T.n_isinstance (ia_cons (ie_var 1) (ia_cons (ie_ty (T := "tuple") rfl T.n_tuple (by decide +kernel)) ia_nil)))) (iw_and1 (it_lt (ie_var 3) ie_int))))
    (is_one (is_ret (ie_ix (ie_lst (ia_cons (ie_slice (ie_var 1) (io_some ie_int) io_none) (ia_cons (ie_add (ie_var 1) (ie_tup (ia_cons ie_str ia_nil))) (ia_cons (ie_add (ie_var 1) (ie_tup (ia_cons ie_int ia_nil))) (ia_cons (ie_listA rfl rfl T.n_list (ia_cons (ie_var 1) ia_nil)) (ia_cons (ie_add (ie_tup (ia_cons ie_str ia_nil)) (ie_var 1)) (ia_cons (ie_tup (ia_cons ie_str (ia_cons ie_str ia_nil))) ia_nil))))))) (ie_callF (fn__law_take T) (hr.mono (by omega)) (takes_of rfl rfl rfl rfl) (ia_cons (ie_var 0) (ia_cons ie_int ia_nil))))))
    is_nil)
    (is_cons (is_if (it_w (iw_and (it_val (ie_isi rfl T.n_isinstance (ia_cons (ie_var 1) (ia_cons (ie_ty (T := "int") rfl T.n_int (by decide +kernel)) ia_nil)))) (iw_and1 (it_lt (ie_var 3) ie_int))))
    (is_cons (is_set (i := 6) ExOk.none sc__law_bent.nd rfl (.inl rfl) (ie_lst (ia_cons (ie_pow ie_int ie_int) (ia_cons (ie_pow ie_int ie_int) (ia_cons (ie_pow ie_int ie_int) (ia_cons (ie_neg ie_int) (ia_cons (ie_sub (ie_pow ie_int ie_int) ie_int) (ia_cons (ie_sub (ie_pow ie_int ie_int) ie_int) (ia_cons (ie_sub (ie_pow ie_int ie_int) ie_int) (ia_cons ie_bl (ia_cons (ie_neg (ie_pow ie_int ie_int)) ia_nil)))))))))))
    (is_one (is_ret (ie_ix (ie_var 6) (ie_callF (fn__law_take T) (hr.mono (by omega)) (takes_of rfl rfl rfl rfl) (ia_cons (ie_var 0) (ia_cons ie_int ia_nil)))))))
    is_nil)
    (is_cons (is_if (it_w (iw_and (it_val (ie_isi rfl T.n_isinstance (ia_cons (ie_var 1) (ia_cons (ie_ty (T := "str") rfl T.n_str (by decide +kernel)) ia_nil)))) (iw_and1 (it_lt (ie_var 3) ie_int))))
    (is_one (is_ret (ie_ix (ie_lst (ia_cons (ie_add (ie_var 1) ie_str) (ia_cons (ie_add ie_str (ie_var 1)) (ia_cons (ie_mul ie_str ie_int) (ia_cons (ie_mul ie_str ie_int) (ia_cons (ie_mul (ie_var 1) ie_int) (ia_cons ie_str ia_nil))))))) (ie_callF (fn__law_take T) (hr.mono (by omega)) (takes_of rfl rfl rfl rfl) (ia_cons (ie_var 0) (ia_cons ie_int ia_nil))))))
    is_nil)
    (is_cons (is_set (i := 4) ExOk.none sc__law_bent.nd rfl (.inl rfl) (ie_lst (ia_cons (ie_callF (fn__law_odd T) (hr.mono (by omega)) (takes_of rfl rfl rfl rfl) (ia_cons (ie_var 0) ia_nil)) (ia_cons (ie_ix (ie_var 2) (ie_callF (fn__law_take T) (hr.mono (by omega)) (takes_of rfl rfl rfl rfl) (ia_cons (ie_var 0) (ia_cons (ie_len rfl T.n_len (ia_cons (ie_var 2) ia_nil)) ia_nil)))) (ia_cons ie_int (ia_cons ie_str (ia_cons (ie_tup (ia_cons ie_int (ia_cons (ie_tup ia_nil) ia_nil))) (ia_cons (ie_tup (ia_cons ie_int (ia_cons (ie_tup (ia_cons ie_str ia_nil)) (ia_cons ie_int ia_nil)))) (ia_cons (ie_lst (ia_cons ie_int (ia_cons (ie_tup (ia_cons ie_str ia_nil)) ia_nil))) ia_nil)))))))))
    (is_one (is_ret (ie_ix (ie_var 4) (ie_callF (fn__law_take T) (hr.mono (by omega)) (takes_of rfl rfl rfl rfl) (ia_cons (ie_var 0) (ia_cons ie_int ia_nil))))))))))))), T.D__law_bent.m, T.D__law_bent.F.kp, T.D__law_bent.b⟩
/-! _law_odd_kind -/
theorem sc__law_odd_kind : FnScope ["_law_pot_here", "_law_some"] ["_law_pot_here"] (defScope (top 53)) := ⟨rfl, rfl, rfl, by decide +kernel, rfl, by decide +kernel, by decide +kernel⟩
def b__law_odd_kind : DS := (sSeq (sAsg (dLst (dCons (dC .non) (dCons (dC (.int 5)) (dCons (dC (.str "")) (dCons (dC (.str "Addr")) (dCons (dC (.str "addr ")) (dCons (dC (.str "ADDR")) (dCons (dTup (dCons (dC (.str "addr")) dNil)) (dCons (dLst (dCons (dC (.str "addr")) dNil)) (dCons (dC (.bl true)) (dCons (dC (.str "names")) (dCons (dC (.str "a")) (dCons (dTup (dCons (dC (.str "a")) (dCons (dC (.str "b")) dNil))) (dCons (dC (.str "addrtext")) (dCons (dLst dNil) dNil))))))))))))))) (tName 1))
    (sRet (dOp ixW (dVar 1) (dCall 2 d__law_take (dCons (dVar 0) (dCons (dApp lenW (dCons (dVar 1) dNil)) dNil))))))
def d__law_odd_kind : List W → Store → Res W := fnDen 2 b__law_odd_kind
def fn__law_odd_kind (T : Txt P w K mg base) : FnF P w K mg base "_law_odd_kind" ["_law_pot_here"] 2 1 d__law_odd_kind :=
  ⟨T.D__law_odd_kind.f, T.D__law_odd_kind.fd, fn_ok (k := 1) T.D__law_odd_kind.F sc__law_odd_kind (fun cdv A outer s H E hr => (is_cons (is_set (i := 1) ExOk.none sc__law_odd_kind.nd rfl (.inl rfl) (ie_lst (ia_cons ie_non (ia_cons ie_int (ia_cons ie_str (ia_cons ie_str (ia_cons ie_str (ia_cons ie_str (ia_cons (ie_tup (ia_cons ie_str ia_nil)) (ia_cons (ie_lst (ia_cons ie_str ia_nil)) (ia_cons ie_bl (ia_cons ie_str (ia_cons ie_str (ia_cons (ie_tup (ia_cons ie_str (ia_cons ie_str ia_nil))) (ia_cons ie_str (ia_cons (ie_lst ia_nil) ia_nil))))))))))))))))
    (is_one (is_ret (ie_ix (ie_var 1) (ie_callF (fn__law_take T) (hr.mono (by decide)) (takes_of rfl rfl rfl rfl) (ia_cons (ie_var 0) (ia_cons (ie_len rfl T.n_len (ia_cons (ie_var 1) ia_nil)) ia_nil)))))))), T.D__law_odd_kind.m, T.D__law_odd_kind.F.kp, T.D__law_odd_kind.b⟩
/-! _law_refused -/
theorem sc__law_refused : FnScope ["_law_way", "_law_kind", "_law_one", "_law_other", "_law_found", "error"] ["_law_way", "_law_kind", "_law_one", "_law_other"] (defScope (top 54)) := ⟨rfl, rfl, rfl, by decide +kernel, rfl, by decide +kernel, by decide +kernel⟩
def b__law_refused : DS := (sSeq (sAsg (dLst dNil) (tName 4))
    (sSeq (sTryAs 5 (sSeq (sIf (dBool (dOp eqW (dVar 0) (dC (.int 0))))
    (sExpr (dCall 2 d_is_data (dCons (dVar 1) (dCons (dVar 2) dNil))))
    sNil)
    (sIf (dBool (dOp eqW (dVar 0) (dC (.int 1))))
    (sExpr (dCall 3 d_data_compared (dCons (dVar 1) (dCons (dVar 2) (dCons (dVar 3) dNil)))))
    sNil)) (subL [("TreeError", false), ("InvalidKind", true)]) (fun cN wv => (sAsg (dLst (dCons (dExc wv) dNil)) (tName 4))))
    (sRet (dVar 4))))
def d__law_refused : List W → Store → Res W := fnDen 6 b__law_refused
def fn__law_refused (T : Txt P w K mg base) : FnF P w K mg base "_law_refused" ["_law_way", "_law_kind", "_law_one", "_law_other"] 11 4 d__law_refused :=
  ⟨T.D__law_refused.f, T.D__law_refused.fd, fn_ok (k := 10) T.D__law_refused.F sc__law_refused (fun cdv A outer s H E hr => (is_cons (is_set (i := 4) ExOk.none sc__law_refused.nd rfl (.inl rfl) (ie_lst ia_nil))
    (is_cons (is_try_as (i := 5) rfl rfl sc__law_refused.nd rfl rfl ⟨rfl, by decide, .inl T.E_InvalidKind.T.mgC⟩ (takes_of rfl rfl rfl rfl) (fun Wb pnb xeb tkb hpb => (is_cons (is_if (it_eq hr (ie_var 0) ie_int)
    (is_one (is_expr (ie_callF (fn_is_data T) (hr.mono (by decide)) tkb (ia_cons (ie_var 1) (ia_cons (ie_var 2) ia_nil)))))
    is_nil)
    (is_one (is_if (it_eq hr (ie_var 0) ie_int)
    (is_one (is_expr (ie_callF (fn_data_compared T) (hr.mono (by decide)) tkb (ia_cons (ie_var 1) (ia_cons (ie_var 2) (ia_cons (ie_var 3) ia_nil))))))
    is_nil)))) (subL_ok (l := [("TreeError", false), ("InvalidKind", true)]) T.sub_InvalidKind) (fun cN C dd a y wv oe pn hsN hmN xf nv hz hfv => (is_one (is_set (i := 4) (fun x h => by cases h; show (5 : Nat) ≠ 4; decide) sc__law_refused.nd rfl (.inl rfl) (ie_lst (ia_cons (ie_exc xf nv hz hfv rfl (.inl rfl)) ia_nil))))))
    (is_one (is_ret (ie_var 4)))))), T.D__law_refused.m, T.D__law_refused.F.kp, T.D__law_refused.b⟩
/-! _law_data_right -/
theorem sc__law_data_right : FnScope ["_law_pot_here", "_law_kind", "_law_names_here", "_law_order", "_law_turn", "_law_one", "_law_other", "_law_at", "_law_value"] ["_law_pot_here", "_law_kind", "_law_names_here"] (defScope (top 55)) := ⟨rfl, rfl, rfl, by decide +kernel, rfl, by decide +kernel, by decide +kernel⟩
def b__law_data_right : DS := (sSeq (sPar 5 6 (dCons (dCall 3 d__law_data (dCons (dVar 0) (dCons (dVar 1) (dCons (dVar 2) dNil)))) (dCons (dCall 3 d__law_data (dCons (dVar 0) (dCons (dVar 1) (dCons (dVar 2) dNil)))) dNil)))
    (sSeq (sIf (dAnd (dBool (dApp isiW (dCons (dVar 5) (dCons (dC (.gl (.ty "tuple"))) dNil)))) (dAnd (dBool (dOp (inW false) (dVar 1) (dTup (dCons (dC (.str "mail")) (dCons (dC (.str "start")) dNil))))) (dBool (dOp eqW (dCall 2 d__law_take (dCons (dVar 0) (dCons (dC (.int 2)) dNil))) (dC (.int 0))))))
    (sSeq (sAsg (dOp addW (dC (.int 1)) (dCall 2 d__law_take (dCons (dVar 0) (dCons (dApp lenW (dCons (dVar 5) dNil)) dNil)))) (tName 7))
    (sAsg (dOp addW (dSl (dVar 5) dNoPart (dPart (dVar 7))) (dSl (dVar 6) (dPart (dVar 7)) dNoPart)) (tName 6)))
    sNil)
    (sSeq (sAsg (dC (.int 0)) (tName 3))
    (sSeq (sIf (dBool (dOp neW (dVar 5) (dVar 6)))
    (sAsg (dOp ixW (dLst (dCons (dC (.int 1)) (dCons (dUn negW (dC (.int 1))) dNil))) (dApp intOfW (dCons (dOp ltUW (dCall 2 d__law_data_key (dCons (dVar 1) (dCons (dVar 5) dNil))) (dCall 2 d__law_data_key (dCons (dVar 1) (dCons (dVar 6) dNil)))) dNil))) (tName 3))
    sNil)
    (sSeq (sIf (dNot (dBool (dCall 2 (d__law_same 8) (dCons (dCall 3 d_data_compared (dCons (dVar 1) (dCons (dVar 5) (dCons (dVar 6) dNil)))) (dCons (dVar 3) dNil)))))
    (sRet (dC (.bl false)))
    sNil)
    (sSeq (sIf (dNot (dBool (dCall 2 (d__law_same 8) (dCons (dCall 3 d_data_compared (dCons (dVar 1) (dCons (dVar 6) (dCons (dVar 5) dNil)))) (dCons (dUn negW (dVar 3)) dNil)))))
    (sRet (dC (.bl false)))
    sNil)
    (sSeq (sIf (dOr (dNot (dBool (dCall 2 (d__law_same 8) (dCons (dCall 2 d_is_data (dCons (dVar 1) (dCons (dVar 5) dNil))) (dCons (dC (.bl true)) dNil))))) (dNot (dBool (dCall 2 (d__law_same 8) (dCons (dCallP 2 [1, 0] d_is_data (dCons (dVar 5) (dCons (dVar 1) dNil))) (dCons (dC (.bl true)) dNil))))))
    (sRet (dC (.bl false)))
    sNil)
    (sSeq (sFor (dRange1 (dCons (dC (.int 3)) dNil)) (tName 4)
    (sSeq (sAsg (dCall 3 (d__law_bent 8) (dCons (dVar 0) (dCons (dVar 5) (dCons (dVar 2) dNil)))) (tName 8))
    (sIf (dNot (dBool (dCall 2 (d__law_same 8) (dCons (dCall 2 d_is_data (dCons (dVar 1) (dCons (dVar 8) dNil))) (dCons (dCall 2 d__law_is_data (dCons (dVar 1) (dCons (dVar 8) dNil))) dNil)))))
    (sRet (dC (.bl false)))
    sNil)))
    (sRet (dC (.bl true)))))))))))
def d__law_data_right : List W → Store → Res W := fnDen 9 b__law_data_right
def fn__law_data_right (T : Txt P w K mg base) : FnF P w K mg base "_law_data_right" ["_law_pot_here", "_law_kind", "_law_names_here"] 11 3 d__law_data_right :=
  ⟨T.D__law_data_right.f, T.D__law_data_right.fd, fn_ok (k := 10) T.D__law_data_right.F sc__law_data_right (fun cdv A outer s H E hr => (is_cons (is_par (i := 5) (j := 6) rfl sc__law_data_right.nd rfl rfl (by decide) rfl rfl ExOk.none ExOk.none (ia_cons (ie_callF (fn__law_data T) (hr.mono (by decide)) (takes_of rfl rfl rfl rfl) (ia_cons (ie_var 0) (ia_cons (ie_var 1) (ia_cons (ie_var 2) ia_nil)))) (ia_cons (ie_callF (fn__law_data T) (hr.mono (by decide)) (takes_of rfl rfl rfl rfl) (ia_cons (ie_var 0) (ia_cons (ie_var 1) (ia_cons (ie_var 2) ia_nil)))) ia_nil)))
    (is_cons (is_if (it_w (iw_and (it_val (ie_isi rfl T.n_isinstance (ia_cons (ie_var 5) (ia_cons (ie_ty (T := "tuple") rfl T.n_tuple (by decide +kernel)) ia_nil)))) (iw_and (it_in (ie_var 1) (ie_tup (ia_cons ie_str (ia_cons ie_str ia_nil)))) (iw_and1 (it_eq hr (ie_callF (fn__law_take T) (hr.mono (by decide)) (takes_of rfl rfl rfl rfl) (ia_cons (ie_var 0) (ia_cons ie_int ia_nil))) ie_int)))))
    (is_cons (is_set (i := 7) ExOk.none sc__law_data_right.nd rfl (.inl rfl) (ie_add ie_int (ie_callF (fn__law_take T) (hr.mono (by decide)) (takes_of rfl rfl rfl rfl) (ia_cons (ie_var 0) (ia_cons (ie_len rfl T.n_len (ia_cons (ie_var 5) ia_nil)) ia_nil)))))
    (is_one (is_set (i := 6) ExOk.none sc__law_data_right.nd rfl (.inl rfl) (ie_add (ie_slice (ie_var 5) io_none (io_some (ie_var 7))) (ie_slice (ie_var 6) (io_some (ie_var 7)) io_none)))))
    is_nil)
    (is_cons (is_set (i := 3) ExOk.none sc__law_data_right.nd rfl (.inl rfl) ie_int)
    (is_cons (is_if (it_ne hr (ie_var 5) (ie_var 6))
    (is_one (is_set (i := 3) ExOk.none sc__law_data_right.nd rfl (.inl rfl) (ie_ix (ie_lst (ia_cons ie_int (ia_cons (ie_neg ie_int) ia_nil))) (ie_intOf rfl T.n_int (ia_cons (ie_ltU hr (ie_callF (fn__law_data_key T) (hr.mono (by decide)) (takes_of rfl rfl rfl rfl) (ia_cons (ie_var 1) (ia_cons (ie_var 5) ia_nil))) (ie_callF (fn__law_data_key T) (hr.mono (by decide)) (takes_of rfl rfl rfl rfl) (ia_cons (ie_var 1) (ia_cons (ie_var 6) ia_nil)))) ia_nil)))))
    is_nil)
    (is_cons (is_if (it_not (it_val (ie_callF (fn__law_same T 8) (hr.mono (by decide)) (takes_of rfl rfl rfl rfl) (ia_cons (ie_callF (fn_data_compared T) (hr.mono (by decide)) (takes_of rfl rfl rfl rfl) (ia_cons (ie_var 1) (ia_cons (ie_var 5) (ia_cons (ie_var 6) ia_nil)))) (ia_cons (ie_var 3) ia_nil)))))
    (is_one (is_ret ie_bl))
    is_nil)
    (is_cons (is_if (it_not (it_val (ie_callF (fn__law_same T 8) (hr.mono (by decide)) (takes_of rfl rfl rfl rfl) (ia_cons (ie_callFK (fn_data_compared T) (hr.mono (by decide)) (takes_of rfl rfl rfl rfl) T.k_data_compared (ik_cons (ie_var 1) (ik_cons (ie_var 6) (ik_cons (ie_var 5) ik_nil)))) (ia_cons (ie_neg (ie_var 3)) ia_nil)))))
    (is_one (is_ret ie_bl))
    is_nil)
    (is_cons (is_if (it_w (iw_or (it_not (it_val (ie_callF (fn__law_same T 8) (hr.mono (by decide)) (takes_of rfl rfl rfl rfl) (ia_cons (ie_callF (fn_is_data T) (hr.mono (by decide)) (takes_of rfl rfl rfl rfl) (ia_cons (ie_var 1) (ia_cons (ie_var 5) ia_nil))) (ia_cons ie_bl ia_nil))))) (iw_or1 (it_not (it_val (ie_callF (fn__law_same T 8) (hr.mono (by decide)) (takes_of rfl rfl rfl rfl) (ia_cons (ie_callFKP (fn_is_data T) (hr.mono (by decide)) (takes_of rfl rfl rfl rfl) T.k_is_data_1_0 (ik_cons (ie_var 5) (ik_cons (ie_var 1) ik_nil))) (ia_cons ie_bl ia_nil))))))))
    (is_one (is_ret ie_bl))
    is_nil)
    (is_cons (is_for (vs := [4]) (passes_of rfl) rfl (ii_range1 rfl T.n_range (ia_cons ie_int ia_nil)) (ig_name (i := 4) (by decide) ExOk.none sc__law_data_right.nd rfl (.inl rfl))
    (is_cons (is_set (i := 8) ExOk.none sc__law_data_right.nd rfl (.inl rfl) (ie_callF (fn__law_bent T 8) (hr.mono (by decide)) (takes_of rfl rfl rfl rfl) (ia_cons (ie_var 0) (ia_cons (ie_var 5) (ia_cons (ie_var 2) ia_nil)))))
    (is_one (is_if (it_not (it_val (ie_callF (fn__law_same T 8) (hr.mono (by decide)) (takes_of rfl rfl rfl rfl) (ia_cons (ie_callF (fn_is_data T) (hr.mono (by decide)) (takes_of rfl rfl rfl rfl) (ia_cons (ie_var 1) (ia_cons (ie_var 8) ia_nil))) (ia_cons (ie_callF (fn__law_is_data T) (hr.mono (by decide)) (takes_of rfl rfl rfl rfl) (ia_cons (ie_var 1) (ia_cons (ie_var 8) ia_nil))) ia_nil)))))
    (is_one (is_ret ie_bl))
    is_nil))))
    (is_one (is_ret ie_bl))))))))))), T.D__law_data_right.m, T.D__law_data_right.F.kp, T.D__law_data_right.b⟩
/-! _law_records_right -/
theorem sc__law_records_right : FnScope ["_law_pot_here", "_law_kind", "_law_names_here", "_law_data_here", "_law_name", "_law_record", "_law_turn", "_law_odd_here", "_law_value", "_law_at", "_law_good"] ["_law_pot_here", "_law_kind", "_law_names_here"] (defScope (top 56)) := ⟨rfl, rfl, rfl, by decide +kernel, rfl, by decide +kernel, by decide +kernel⟩
def b__law_records_right : DS := (sSeq (sAsg (dCall 3 d__law_data (dCons (dVar 0) (dCons (dVar 1) (dCons (dVar 2) dNil)))) (tName 3))
    (sSeq (sAsg (dOp addW (dOp mulTW (dTup (dCons (dC (.str "*")) dNil)) (dCall 2 d__law_take (dCons (dVar 0) (dCons (dC (.int 2)) dNil)))) (dSl (dOp ixW (dVar 2) (dCall 2 d__law_take (dCons (dVar 0) (dCons (dApp lenW (dCons (dVar 2) dNil)) dNil)))) dNoPart (dPart (dC (.int 11))))) (tName 4))
    (sSeq (sAsg (dTup (dCons (dVar 4) (dCons (dVar 1) (dCons (dCall 2 d__law_number (dCons (dVar 0) (dCons (dOp powW (dC (.int 2)) (dC (.int 31))) dNil))) (dCons (dVar 3) dNil))))) (tName 5))
    (sSeq (sIf (dOr (dNot (dBool (dCall 2 (d__law_same 8) (dCons (dCall 1 d_is_record (dCons (dVar 5) dNil)) (dCons (dC (.bl true)) dNil))))) (dNot (dBool (dCall 2 (d__law_same 8) (dCons (dCall 1 d_is_record (dCons (dVar 5) dNil)) (dCons (dC (.bl true)) dNil))))))
    (sRet (dC (.bl false)))
    sNil)
    (sSeq (sFor (dRange1 (dCons (dC (.int 3)) dNil)) (tName 6)
    (sSeq (sAsg (dApp listAW (dCons (dVar 5) dNil)) (tName 8))
    (sSeq (sAsg (dCall 2 d__law_take (dCons (dVar 0) (dCons (dC (.int 4)) dNil))) (tName 9))
    (sSeq (sAsg (dCall 3 (d__law_bent 8) (dCons (dVar 0) (dCons (dOp ixW (dVar 8) (dVar 9)) (dCons (dVar 2) dNil)))) (tSub (dVar 8) (dVar 9)))
    (sSeq (sAsg (dApp tupleW (dCons (dVar 8) dNil)) (tName 8))
    (sSeq (sAsg (dAndV (dCall 1 d__law_is_name (dCons (dOp ixW (dVar 8) (dC (.int 0))) dNil)) (dAndV (dOp inDW (dOp ixW (dVar 8) (dC (.int 1))) (dCall 0 d__law_kinds dNil)) (dCall 2 d__law_in (dCons (dOp ixW (dVar 8) (dC (.int 2))) (dCons (dOp powW (dC (.int 2)) (dC (.int 31))) dNil))))) (tName 10))
    (sIf (dNot (dBool (dCall 2 (d__law_same 8) (dCons (dCall 1 d_is_record (dCons (dVar 8) dNil)) (dCons (dAndV (dVar 10) (dCall 2 d__law_is_data (dCons (dOp ixW (dVar 8) (dC (.int 1))) (dCons (dOp ixW (dVar 8) (dC (.int 3))) dNil)))) dNil)))))
    (sRet (dC (.bl false)))
    sNil)))))))
    (sSeq (sAsg (dOp ixW (dLst (dCons (dApp listAW (dCons (dVar 5) dNil)) (dCons (dSl (dVar 5) dNoPart (dPart (dC (.int 3)))) (dCons (dOp addW (dVar 5) (dTup (dCons (dC (.int 5)) dNil))) (dCons (dTup (dCons (dVar 5) dNil)) (dCons (dC .non) (dCons (dC (.int 7)) (dCons (dC (.str "addr")) (dCons (dTup dNil) (dCons (dLst (dCons (dVar 5) dNil)) dNil)))))))))) (dCall 2 d__law_take (dCons (dVar 0) (dCons (dC (.int 9)) dNil)))) (tName 7))
    (sRet (dCall 2 (d__law_same 8) (dCons (dCall 1 d_is_record (dCons (dVar 7) dNil)) (dCons (dC (.bl false)) dNil))))))))))
def d__law_records_right : List W → Store → Res W := fnDen 11 b__law_records_right
def fn__law_records_right (T : Txt P w K mg base) : FnF P w K mg base "_law_records_right" ["_law_pot_here", "_law_kind", "_law_names_here"] 12 3 d__law_records_right :=
  ⟨T.D__law_records_right.f, T.D__law_records_right.fd, fn_ok (k := 11) T.D__law_records_right.F sc__law_records_right (fun cdv A outer s H E hr => (is_cons (is_set (i := 3) ExOk.none sc__law_records_right.nd rfl (.inl rfl) (ie_callF (fn__law_data T) (hr.mono (by decide)) (takes_of rfl rfl rfl rfl) (ia_cons (ie_var 0) (ia_cons (ie_var 1) (ia_cons (ie_var 2) ia_nil)))))
    (is_cons (is_set (i := 4) ExOk.none sc__law_records_right.nd rfl (.inl rfl) (ie_add (ie_mulT (ie_tup (ia_cons ie_str ia_nil)) (ie_callF (fn__law_take T) (hr.mono (by decide)) (takes_of rfl rfl rfl rfl) (ia_cons (ie_var 0) (ia_cons ie_int ia_nil)))) (ie_slice (ie_ix (ie_var 2) (ie_callF (fn__law_take T) (hr.mono (by decide)) (takes_of rfl rfl rfl rfl) (ia_cons (ie_var 0) (ia_cons (ie_len rfl T.n_len (ia_cons (ie_var 2) ia_nil)) ia_nil)))) io_none (io_some ie_int))))
    (is_cons (is_set (i := 5) ExOk.none sc__law_records_right.nd rfl (.inl rfl) (ie_tup (ia_cons (ie_var 4) (ia_cons (ie_var 1) (ia_cons (ie_callF (fn__law_number T) (hr.mono (by decide)) (takes_of rfl rfl rfl rfl) (ia_cons (ie_var 0) (ia_cons (ie_pow ie_int ie_int) ia_nil))) (ia_cons (ie_var 3) ia_nil))))))
    (is_cons (is_if (it_w (iw_or (it_not (it_val (ie_callF (fn__law_same T 8) (hr.mono (by decide)) (takes_of rfl rfl rfl rfl) (ia_cons (ie_callF (fn_is_record T) (hr.mono (by decide)) (takes_of rfl rfl rfl rfl) (ia_cons (ie_var 5) ia_nil)) (ia_cons ie_bl ia_nil))))) (iw_or1 (it_not (it_val (ie_callF (fn__law_same T 8) (hr.mono (by decide)) (takes_of rfl rfl rfl rfl) (ia_cons (ie_callFK (fn_is_record T) (hr.mono (by decide)) (takes_of rfl rfl rfl rfl) T.k_is_record (ik_cons (ie_var 5) ik_nil)) (ia_cons ie_bl ia_nil))))))))
    (is_one (is_ret ie_bl))
    is_nil)
    (is_cons (is_for (vs := [6]) (passes_of rfl) rfl (ii_range1 rfl T.n_range (ia_cons ie_int ia_nil)) (ig_name (i := 6) (by decide) ExOk.none sc__law_records_right.nd rfl (.inl rfl))
    (is_cons (is_set (i := 8) ExOk.none sc__law_records_right.nd rfl (.inl rfl) (ie_listA rfl rfl T.n_list (ia_cons (ie_var 5) ia_nil)))
    (is_cons (is_set (i := 9) ExOk.none sc__law_records_right.nd rfl (.inl rfl) (ie_callF (fn__law_take T) (hr.mono (by decide)) (takes_of rfl rfl rfl rfl) (ia_cons (ie_var 0) (ia_cons ie_int ia_nil))))
    (is_cons (is_asg (vs := []) (ie_callF (fn__law_bent T 8) (hr.mono (by decide)) (takes_of rfl rfl rfl rfl) (ia_cons (ie_var 0) (ia_cons (ie_ix (ie_var 8) (ie_var 9)) (ia_cons (ie_var 2) ia_nil)))) (ig_sub (ie_var 8) (ie_var 9)))
    (is_cons (is_set (i := 8) ExOk.none sc__law_records_right.nd rfl (.inl rfl) (ie_tuple rfl T.n_tuple (ia_cons (ie_var 8) ia_nil)))
    (is_cons (is_set (i := 10) ExOk.none sc__law_records_right.nd rfl (.inl rfl) (ie_and (ie_callF (fn__law_is_name T) (hr.mono (by decide)) (takes_of rfl rfl rfl rfl) (ia_cons (ie_ix (ie_var 8) ie_int) ia_nil)) (ie_and (ie_inD hr (ie_ix (ie_var 8) ie_int) (ie_callF0 (fn__law_kinds T) (hr.mono (by decide)) (takes_of rfl rfl rfl rfl))) (ie_one (ie_callF (fn__law_in T) (hr.mono (by decide)) (takes_of rfl rfl rfl rfl) (ia_cons (ie_ix (ie_var 8) ie_int) (ia_cons (ie_pow ie_int ie_int) ia_nil)))))))
    (is_one (is_if (it_not (it_val (ie_callF (fn__law_same T 8) (hr.mono (by decide)) (takes_of rfl rfl rfl rfl) (ia_cons (ie_callF (fn_is_record T) (hr.mono (by decide)) (takes_of rfl rfl rfl rfl) (ia_cons (ie_var 8) ia_nil)) (ia_cons (ie_and (ie_var 10) (ie_one (ie_callF (fn__law_is_data T) (hr.mono (by decide)) (takes_of rfl rfl rfl rfl) (ia_cons (ie_ix (ie_var 8) ie_int) (ia_cons (ie_ix (ie_var 8) ie_int) ia_nil))))) ia_nil)))))
    (is_one (is_ret ie_bl))
    is_nil))))))))
    (is_cons (is_set (i := 7) ExOk.none sc__law_records_right.nd rfl (.inl rfl) (ie_ix (ie_lst (ia_cons (ie_listA rfl rfl T.n_list (ia_cons (ie_var 5) ia_nil)) (ia_cons (ie_slice (ie_var 5) io_none (io_some ie_int)) (ia_cons (ie_add (ie_var 5) (ie_tup (ia_cons ie_int ia_nil))) (ia_cons (ie_tup (ia_cons (ie_var 5) ia_nil)) (ia_cons ie_non (ia_cons ie_int (ia_cons ie_str (ia_cons (ie_tup ia_nil) (ia_cons (ie_lst (ia_cons (ie_var 5) ia_nil)) ia_nil)))))))))) (ie_callF (fn__law_take T) (hr.mono (by decide)) (takes_of rfl rfl rfl rfl) (ia_cons (ie_var 0) (ia_cons ie_int ia_nil)))))
    (is_one (is_ret (ie_callF (fn__law_same T 8) (hr.mono (by decide)) (takes_of rfl rfl rfl rfl) (ia_cons (ie_callF (fn_is_record T) (hr.mono (by decide)) (takes_of rfl rfl rfl rfl) (ia_cons (ie_var 7) ia_nil)) (ia_cons ie_bl ia_nil)))))))))))), T.D__law_records_right.m, T.D__law_records_right.F.kp, T.D__law_records_right.b⟩
/-! law -/
theorem sc_law : FnScope ["_law_script", "_law_k", "_law_pot_here", "_law_names_here", "_law_kinds_here", "_law_some", "_law_kind", "_law_odd_here", "_law_data_here", "_law_turn"] ["_law_script"] (defScope (top 57)) := ⟨rfl, rfl, rfl, by decide +kernel, rfl, by decide +kernel, by decide +kernel⟩
def b_law : DS := (sSeq (sFor (dRange1 (dCons (dApp maxW (dCons (dC (.int 1)) (dCons (dApp minW (dCons (dC (.int 4)) (dCons (dApp lenW (dCons (dVar 0) dNil)) dNil))) dNil))) dNil)) (tName 1)
    (sSeq (sAsg (dCall 2 d__law_pot (dCons (dVar 0) (dCons (dVar 1) dNil))) (tName 2))
    (sSeq (sAsg (dCall 1 d__law_names (dCons (dVar 2) dNil)) (tName 3))
    (sSeq (sAsg (dCall 0 d__law_kinds dNil) (tName 4))
    (sSeq (sAsg (dLc (dRange1 (dCons (dC (.int 3)) dNil)) [9] (tName 9) dYes (dOp ixW (dVar 4) (dCall 2 d__law_take (dCons (dVar 2) (dCons (dC (.int 8)) dNil))))) (tName 5))
    (sSeq (sFor (dIt (dVar 5)) (tName 6)
    (sSeq (sIf (dOr (dNot (dBool (dCall 3 d__law_data_right (dCons (dVar 2) (dCons (dVar 6) (dCons (dVar 3) dNil)))))) (dNot (dBool (dCall 3 d__law_records_right (dCons (dVar 2) (dCons (dVar 6) (dCons (dVar 3) dNil)))))))
    (sRet (dC (.bl false)))
    sNil)
    (sIf (dOr (dNot (dBool (dCall 2 (d__law_same 8) (dCons (dCall 1 d_is_kind (dCons (dVar 6) dNil)) (dCons (dC (.bl true)) dNil))))) (dNot (dBool (dCall 2 (d__law_same 8) (dCons (dCall 1 d_is_kind (dCons (dVar 6) dNil)) (dCons (dC (.bl true)) dNil))))))
    (sRet (dC (.bl false)))
    sNil)))
    (sSeq (sAsg (dCall 1 d__law_odd_kind (dCons (dVar 2) dNil)) (tName 7))
    (sSeq (sAsg (dCall 3 d__law_data (dCons (dVar 2) (dCons (dOp ixW (dVar 5) (dC (.int 0))) (dCons (dVar 3) dNil)))) (tName 8))
    (sSeq (sIf (dOr (dNot (dBool (dCall 2 (d__law_same 8) (dCons (dCall 1 d_is_kind (dCons (dVar 7) dNil)) (dCons (dC (.bl false)) dNil))))) (dBool (dOp neW (dCall 4 d__law_refused (dCons (dC (.int 0)) (dCons (dVar 7) (dCons (dVar 8) (dCons (dVar 8) dNil))))) (dLst (dCons (dVar 7) dNil)))))
    (sRet (dC (.bl false)))
    sNil)
    (sIf (dOr (dBool (dOp neW (dCall 4 d__law_refused (dCons (dC (.int 1)) (dCons (dVar 7) (dCons (dVar 8) (dCons (dVar 8) dNil))))) (dLst (dCons (dVar 7) dNil)))) (dBool (dOp neW (dCall 4 d__law_refused (dCons (dC (.int 0)) (dCons (dVar 7) (dCons (dC .non) (dCons (dC .non) dNil))))) (dLst (dCons (dVar 7) dNil)))))
    (sRet (dC (.bl false)))
    sNil))))))))))
    (sRet (dC (.bl true))))
def d_law : List W → Store → Res W := fnDen 10 b_law
def fn_law (T : Txt P w K mg base) : FnF P w K mg base "law" ["_law_script"] 13 1 d_law :=
  ⟨T.D_law.f, T.D_law.fd, fn_ok (k := 12) T.D_law.F sc_law (fun cdv A outer s H E hr => (is_cons (is_for (vs := [1]) (passes_of rfl) rfl (ii_range1 rfl T.n_range (ia_cons (ie_max rfl rfl T.n_max (ia_cons ie_int (ia_cons (ie_min rfl rfl T.n_min (ia_cons ie_int (ia_cons (ie_len rfl T.n_len (ia_cons (ie_var 0) ia_nil)) ia_nil))) ia_nil))) ia_nil)) (ig_name (i := 1) (by decide) ExOk.none sc_law.nd rfl (.inl rfl))
    (is_cons (is_set (i := 2) ExOk.none sc_law.nd rfl (.inr rfl) (ie_callF (fn__law_pot T) (hr.mono (by decide)) (takes_of rfl rfl rfl rfl) (ia_cons (ie_var 0) (ia_cons (ie_var 1) ia_nil))))
    (is_cons (is_set (i := 3) ExOk.none sc_law.nd rfl (.inl rfl) (ie_callF (fn__law_names T) (hr.mono (by decide)) (takes_of rfl rfl rfl rfl) (ia_cons (ie_var 2) ia_nil)))
    (is_cons (is_set (i := 4) ExOk.none sc_law.nd rfl (.inr rfl) (ie_callF0 (fn__law_kinds T) (hr.mono (by decide)) (takes_of rfl rfl rfl rfl)))
    (is_cons (is_setLc (i := 5) (own := [("_law_turn", 9)]) rfl sc_law.nd rfl rfl (sw_true rfl rfl rfl (by decide +kernel)) (ii_range1 rfl T.n_range (ia_cons ie_int ia_nil)) (blkOk_by (N := ["_law_script", "_law_k", "_law_pot_here", "_law_names_here", "_law_kinds_here", "_law_some", "_law_kind", "_law_odd_here", "_law_data_here", "_law_turn"]) (sc := defScope (top 57)) (own := [("_law_turn", 9)]) (by decide +kernel)) (fun _ _ _ _ _ => (ig_name (i := 9) (by decide) ExOk.none sc_law.nd rfl (.inl rfl))) (fun _ _ _ _ _ => (ie_ix (ie_var 4) (ie_callF (fn__law_take T) (hr.mono (by decide)) takes0 (ia_cons (ie_var 2) (ia_cons ie_int ia_nil))))))
    (is_cons (is_for (vs := [6]) (passes_of rfl) rfl (ii_val (ie_var 5)) (ig_name (i := 6) (by decide) ExOk.none sc_law.nd rfl (.inl rfl))
    (is_cons (is_if (it_w (iw_or (it_not (it_val (ie_callF (fn__law_data_right T) (hr.mono (by decide)) (takes_of rfl rfl rfl rfl) (ia_cons (ie_var 2) (ia_cons (ie_var 6) (ia_cons (ie_var 3) ia_nil)))))) (iw_or1 (it_not (it_val (ie_callF (fn__law_records_right T) (hr.mono (by decide)) (takes_of rfl rfl rfl rfl) (ia_cons (ie_var 2) (ia_cons (ie_var 6) (ia_cons (ie_var 3) ia_nil)))))))))
    (is_one (is_ret ie_bl))
    is_nil)
    (is_one (is_if (it_w (iw_or (it_not (it_val (ie_callF (fn__law_same T 8) (hr.mono (by decide)) (takes_of rfl rfl rfl rfl) (ia_cons (ie_callF (fn_is_kind T) (hr.mono (by decide)) (takes_of rfl rfl rfl rfl) (ia_cons (ie_var 6) ia_nil)) (ia_cons ie_bl ia_nil))))) (iw_or1 (it_not (it_val (ie_callF (fn__law_same T 8) (hr.mono (by decide)) (takes_of rfl rfl rfl rfl) (ia_cons (ie_callFK (fn_is_kind T) (hr.mono (by decide)) (takes_of rfl rfl rfl rfl) T.k_is_kind (ik_cons (ie_var 6) ik_nil)) (ia_cons ie_bl ia_nil))))))))
    (is_one (is_ret ie_bl))
    is_nil))))
    (is_cons (is_set (i := 7) ExOk.none sc_law.nd rfl (.inl rfl) (ie_callF (fn__law_odd_kind T) (hr.mono (by decide)) (takes_of rfl rfl rfl rfl) (ia_cons (ie_var 2) ia_nil)))
    (is_cons (is_set (i := 8) ExOk.none sc_law.nd rfl (.inl rfl) (ie_callF (fn__law_data T) (hr.mono (by decide)) (takes_of rfl rfl rfl rfl) (ia_cons (ie_var 2) (ia_cons (ie_ix (ie_var 5) ie_int) (ia_cons (ie_var 3) ia_nil)))))
    (is_cons (is_if (it_w (iw_or (it_not (it_val (ie_callF (fn__law_same T 8) (hr.mono (by decide)) (takes_of rfl rfl rfl rfl) (ia_cons (ie_callF (fn_is_kind T) (hr.mono (by decide)) (takes_of rfl rfl rfl rfl) (ia_cons (ie_var 7) ia_nil)) (ia_cons ie_bl ia_nil))))) (iw_or1 (it_ne hr (ie_callF (fn__law_refused T) (hr.mono (by decide)) (takes_of rfl rfl rfl rfl) (ia_cons ie_int (ia_cons (ie_var 7) (ia_cons (ie_var 8) (ia_cons (ie_var 8) ia_nil))))) (ie_lst (ia_cons (ie_var 7) ia_nil))))))
    (is_one (is_ret ie_bl))
    is_nil)
    (is_one (is_if (it_w (iw_or (it_ne hr (ie_callF (fn__law_refused T) (hr.mono (by decide)) (takes_of rfl rfl rfl rfl) (ia_cons ie_int (ia_cons (ie_var 7) (ia_cons (ie_var 8) (ia_cons (ie_var 8) ia_nil))))) (ie_lst (ia_cons (ie_var 7) ia_nil))) (iw_or1 (it_ne hr (ie_callF (fn__law_refused T) (hr.mono (by decide)) (takes_of rfl rfl rfl rfl) (ia_cons ie_int (ia_cons (ie_var 7) (ia_cons ie_non (ia_cons ie_non ia_nil))))) (ie_lst (ia_cons (ie_var 7) ia_nil))))))
    (is_one (is_ret ie_bl))
    is_nil)))))))))))
    (is_one (is_ret ie_bl)))), T.D_law.m, T.D_law.F.kp, T.D_law.b⟩
end
end
end K04
namespace K04
open PySem PySem.Spec PyProof.Rows L2 MP
open Classical
noncomputable section
def IN : List Nat := c_INNER.cps.toList
def EN : List Nat := c_ENDS.cps.toList
def plainB (x : Str) : Bool := decide (1 ≤ x.length) && decide (x.length ≤ 20) && x.cps.toList.all (fun c => decide (c ∈ IN)) && decide (fst0 x ∈ EN) && decide (lst0 x ∈ EN)
theorem strip_all {x y : Str} : (Txt.stripChars x y == ("" : Str)) = x.cps.toList.all (fun c => decide (c ∈ y.cps.toList)) := by
  rw [PySem.Txt.stripChars.eq_1, stripBy_eq]
  have key : ∀ (g : Nat → Bool) (l : List Nat), (∀ c ∈ l, g c = true) ↔ l.takeWhile g = l := fun g l => by
    induction l with
    | nil => simp
    | cons a l ih =>
      by_cases h : g a = true
      · rw [List.takeWhile_cons_of_pos h]; simp [h, ih]
      · rw [List.takeWhile_cons_of_neg h]; simp [h]
  have ec : ∀ c, y.cps.contains c = decide (c ∈ y.cps.toList) := fun c => by
    rw [Bool.eq_iff_iff]; simp
  have hall : x.cps.toList.all (fun c => decide (c ∈ y.cps.toList)) = x.cps.toList.all y.cps.contains := by
    congr 1; funext c; exact (ec c).symm
  rw [hall]
  generalize y.cps.contains = g
  unfold PySem.stripLo PySem.stripHi
  simp only [if_true]
  rw [Bool.eq_iff_iff, beq_iff_eq, List.all_eq_true]
  unfold PySem.Builtin.Str.strSub
  have hlen : x.length = x.cps.toList.length := by simp [Str.length]
  constructor
  · intro h
    have h' : (x.cps.extract (List.takeWhile g x.cps.toList).length (x.length - (List.takeWhile g (List.drop (List.takeWhile g x.cps.toList).length x.cps.toList).reverse).length)).size = 0 := by
      exact (congrArg (fun s : Str => s.cps.size) h).trans rfl
    rw [Array.size_extract] at h'
    rw [key]
    -- the rest behind the left run
    have hsplit := List.takeWhile_append_dropWhile (p := g) (l := x.cps.toList)
    have hd : List.drop (List.takeWhile g x.cps.toList).length x.cps.toList = List.dropWhile g x.cps.toList := by
      conv => lhs; arg 2; rw [← hsplit]
      rw [List.drop_left]
    rw [hd] at h'
    have hL : (List.takeWhile g x.cps.toList).length + (List.dropWhile g x.cps.toList).length = x.length := by
      rw [hlen, ← List.length_append, hsplit]
    cases hD : List.dropWhile g x.cps.toList with
    | nil => rw [hD, List.append_nil] at hsplit; exact hsplit
    | cons a r =>
      exfalso
      have ha : g a = false := by
        have := List.head_dropWhile_not g (l := x.cps.toList) (by rw [hD]; simp)
        simpa [hD] using this
      rw [hD] at h' hL
      have h2 : (List.takeWhile g (a :: r).reverse).length ≤ r.length := by
        rw [List.reverse_cons, List.takeWhile_append]
        split
        · rw [List.takeWhile_cons_of_neg (by simp [ha])]; simp
        · rename_i hn
          have := (List.takeWhile_sublist (p := g) (l := r.reverse)).length_le
          simpa using this
      have hs : x.cps.size = x.length := rfl
      simp only [List.length_cons] at hL
      omega
  · intro h
    have e := (key g _).mp h
    rw [e]
    have h0 : ∀ (k : Nat), x.cps.extract x.cps.toList.length k = #[] := fun k => by
      apply Array.eq_empty_of_size_eq_zero
      rw [Array.size_extract]
      have : x.cps.toList.length = x.cps.size := by simp
      omega
    exact congrArg Str.mk (h0 _)
theorem len_in {c : Nat} (h : c ∈ IN) : c < 128 := by
  have : ∀ c ∈ IN, c < 128 := by decide +kernel
  exact this c h
theorem en_in : ∀ c ∈ IN, (c ∈ EN ↔ c ≠ 45) := by decide +kernel
section
variable {st : Store} {i j : Int}
end
theorem ok_wild : okS c_WILD = true := by decide +kernel
theorem plain_ok {x : Str} {st : Store} (h : okS x = true) : d__is_plain [.str x] st = .ok (.bl (plainB x)) st := by
  unfold d__is_plain; rw [fnDen_ap]; unfold b__is_plain
  by_cases h1 : 1 ≤ x.length
  · by_cases h2 : x.length ≤ 20
    · obtain ⟨c, hc, hm, e⟩ := ix_str (x := x) (i := 0) (okS.line h) (by decide) (by omega)
      obtain ⟨t, ht, hmt, e'⟩ := ix_strL (x := x) (okS.line h) (by omega)
      have hn1 : ¬ (x.length : Int) < 1 := by omega
      have s1 : stripW (.str x) [.str c_INNER] st = .ok (.str (Txt.stripChars x c_INNER)) st := by unfold stripW; simp only [if_pos (okS.line h)]
      have hp : plainB x = (x.cps.toList.all (fun c => decide (c ∈ IN)) && (decide (c ∈ EN) && decide (t ∈ EN))) := by
        unfold plainB
        rw [fst0_of hc, lst0_of ht, decide_eq_true h1, decide_eq_true h2, Bool.and_assoc, Bool.true_and, Bool.true_and]
      have l1 : (decide ((1 : Int) ≤ (x.length : Int))) = true := decide_eq_true (by omega)
      have l2 : (decide ((x.length : Int) ≤ 20)) = true := decide_eq_true (by omega)
      have hs : (Txt.stripChars x c_INNER == ("" : Str)) = x.cps.toList.all (fun c => decide (c ∈ IN)) := strip_all
      have e1 : inW false (.str ⟨#[c]⟩) (.str c_ENDS) st = .ok (.bl (decide (c ∈ EN))) st := in_sign
      have e2 : inW false (.str ⟨#[t]⟩) (.str c_ENDS) st = .ok (.bl (decide (t ∈ EN))) st := in_sign
      rw [hp]
      generalize x.cps.toList.all (fun c => decide (c ∈ IN)) = A at hs ⊢
      generalize decide (c ∈ EN) = B at e1 ⊢
      generalize decide (t ∈ EN) = C at e2 ⊢
      simp [len_str (okS.line h), l1, l2, s1, eqW_str (okS.strip h) ok_nil, hs]
      cases A with
      | false => simp
      | true =>
        simp [e, e', e1, e2]
        cases B <;> simp [e, e', e1, e2]
    · have hp : plainB x = false := by unfold plainB; simp [h2]
      have l1 : (decide ((1 : Int) ≤ (x.length : Int))) = true := decide_eq_true (by omega)
      have l2 : (decide ((x.length : Int) ≤ 20)) = false := decide_eq_false (by omega)
      rw [hp]
      simp [len_str (okS.line h), l1, l2]
  · have hp : plainB x = false := by unfold plainB; simp [h1]
    have l1 : (decide ((1 : Int) ≤ (x.length : Int))) = false := decide_eq_false (by omega)
    rw [hp]
    simp [len_str (okS.line h), l1]
def labB (u : W) : Bool := match u with
  | .str x => x == ("*" : Str) || plainB x
  | _ => false
theorem gd_in : ∀ c, c ∈ GD ↔ c ∈ IN := fun c => ⟨fun h => (by decide +kernel : ∀ c ∈ GD, c ∈ IN) c h, fun h => (by decide +kernel : ∀ c ∈ IN, c ∈ GD) c h⟩
theorem plain_law {x : Str} (h1 : 1 ≤ x.length) (h2 : x.length ≤ 20) : plainB x = (x.cps.toList.all (fun c => decide (c ∈ GD)) && (!(fst0 x == 45) && !(lst0 x == 45))) := by
  unfold plainB
  rw [decide_eq_true h1, decide_eq_true h2]
  have hl : x.cps.toList.length = x.length := by simp [Str.length]
  have e : x.cps.toList.all (fun c => decide (c ∈ GD)) = x.cps.toList.all (fun c => decide (c ∈ IN)) := by
    congr 1; funext c; simp only [gd_in c]
  rw [e]
  cases h : x.cps.toList.all (fun c => decide (c ∈ IN)) with
  | false => rfl
  | true =>
    rw [List.all_eq_true] at h
    have hf : ∀ i, i < x.cps.toList.length → decide ((x.cps.toList[i]?).getD 0 ∈ EN) = !((x.cps.toList[i]?).getD 0 == 45) := fun i hi => by
      rw [List.getElem?_eq_getElem hi, Option.getD_some]
      have hm := en_in _ (of_decide_eq_true (h _ (List.getElem_mem hi)))
      by_cases hx : x.cps.toList[i] = 45
      · rw [decide_eq_false (fun z => hm.mp z hx), hx]; rfl
      · rw [decide_eq_true (hm.mpr hx), beq_false_of_ne hx]; rfl
    have f1 := hf 0 (by omega)
    have f2 := hf (x.length - 1) (by omega)
    unfold fst0 lst0
    rw [f1, f2]; simp
theorem law_label_ok {w u : W} {st : Store} (h : Pic st w u) : d__law_is_label [w] st = .ok (.bl (labB u)) st := by
  unfold d__law_is_label; rw [fnDen_ap]; unfold b__law_is_label
  cases u with
  | str x =>
    obtain ⟨rfl, hx⟩ := Pic.str h
    have hL := okS.line hx
    by_cases h1 : 1 ≤ x.length
    · by_cases h2 : x.length ≤ 20
      · have l1 : (decide ((x.length : Int) < 1)) = false := decide_eq_false (by omega)
        have l2 : (decide ((20 : Int) < (x.length : Int))) = false := decide_eq_false (by omega)
        by_cases h3 : (x == ("*" : Str)) = true
        · have : labB (.str x) = true := by unfold labB; simp [h3]
          rw [this]
          simp [pic_isS h, isS, len_str hL, l1, l2, eqW_str hx ok_star, h3]
        · have h3 : (x == ("*" : Str)) = false := by simpa using h3
          have hb : labB (.str x) = plainB x := by show (x == ("*" : Str) || plainB x) = _; rw [h3]; rfl
          obtain ⟨c, hc, hm, e⟩ := ix_str (x := x) (i := 0) hL (by decide) (by omega)
          obtain ⟨t, ht, hmt, e'⟩ := ix_str (x := x) (i := (x.length : Int) - 1) hL (by omega) (by omega)
          have ht' : x.cps.toList[x.length - 1]? = some t := by rw [← ht]; congr 1; omega
          have b128 := (okS_iff.mp hx).2
          have n1 : ∀ st, neW (.str ⟨#[c]⟩) (.str ("-" : Str)) st = .ok (.bl (!(c == 45))) st := fun st => by rw [neW_str (ok_one (b128 c hm)) ok_dash, beq_sign]
          have n2 : ∀ st, neW (.str ⟨#[t]⟩) (.str ("-" : Str)) st = .ok (.bl (!(t == 45))) st := fun st => by rw [neW_str (ok_one (b128 t hmt)) ok_dash, beq_sign]
          rw [hb, plain_law h1 h2, fst0_of hc, lst0_of ht']
          have kl := kLc_mapB (env := [some (.str x), some (.str ("abcdefghijklmnopqrstuvwxyz0123456789-" : Str)), none]) (i := 2) (e := dOp (inW false) (dVar 2) (dVar 1)) (st := st) (src := none) (fun c : Nat => W.str ⟨#[c]⟩) (fun c => W.bl (decide (c ∈ GD))) x.cps.toList (by simp) (fun b _ => by simp [in_sign, GD]) (by rw [show x.cps.toList.length = x.length by simp [Str.length]]; exact hL)
          have hal := all_here (st := st) (l := x.cps.toList) (g := fun c => decide (c ∈ GD))
          simp only [Array.all_toList] at *
          generalize (List.map (fun c => W.bl (decide (c ∈ GD))) x.cps.toList) = LL at kl hal
          generalize x.cps.all (fun c => decide (c ∈ GD)) = A at hal ⊢
          simp [pic_isS h, isS, len_str hL, l1, l2, eqW_str hx ok_star, h3, wipeW]
          unfold MP.signs
          rw [kl]
          simp [hal]
          cases A with
          | false => simp
          | true =>
            simp [e, n1]
            cases (c == 45) with
            | true => simp
            | false => simp [len_str hL, e', n2]
      · have l1 : (decide ((x.length : Int) < 1)) = false := decide_eq_false (by omega)
        have l2 : (decide ((20 : Int) < (x.length : Int))) = true := decide_eq_true (by omega)
        have hs : (x == ("*" : Str)) = false := by
          rw [beq_eq_false_iff_ne]; intro z; rw [z] at h2; exact h2 (by decide +kernel)
        have : labB (.str x) = false := by show (x == ("*" : Str) || plainB x) = _; rw [hs]; unfold plainB; simp [h2]
        rw [this]
        simp [pic_isS h, isS, len_str hL, l1, l2]
    · have l1 : (decide ((x.length : Int) < 1)) = true := decide_eq_true (by omega)
      have hs : (x == ("*" : Str)) = false := by
        rw [beq_eq_false_iff_ne]; intro z; rw [z] at h1; exact h1 (by decide +kernel)
      have : labB (.str x) = false := by show (x == ("*" : Str) || plainB x) = _; rw [hs]; unfold plainB; simp [h1]
      rw [this]
      simp [pic_isS h, isS, len_str hL, l1]
  | _ => simp [pic_isS h, isS, labB]
def plS : W → Bool | .str x => plainB x | _ => false
def askB : W → Bool | .tup ws => ws.all plS | _ => false
def hdS : List W → Bool | .str x :: _ => x == c_WILD | _ => false
def nameB : W → Bool | .tup ws => (if hdS ws = true then ws.drop 1 else ws).all plS | _ => false
theorem asked_ok {w u : W} {st : Store} (h : Pic st w u) : d_is_asked [w] st = .ok (.bl (askB u)) st := by
  unfold d_is_asked; rw [fnDen_ap]; unfold b_is_asked
  cases u with
  | tup ws =>
    cases h with
    | pu _ h =>
      obtain ⟨hl, hi⟩ := pu_items h
      have kl := kLc_mapB (env := [some (.tup ws), none]) (i := 1) (e := dAndV (dApp isiW (dCons (dVar 1) (dCons (dC (.gl (.ty "str"))) dNil))) (dCall 1 d__is_plain (dCons (dVar 1) dNil))) (st := st) (src := none) (fun w : W => w) (fun w => W.bl (plS w)) ws (by simp) (fun b hb => by
        have hp : pu b := puB_mono (hi b hb) (by decide)
        simp [pic_isS (.pu b hp)]
        cases b with
        | str x => simp [isS, plain_ok (x := x) hp, plS]
        | _ => simp [isS, plS]) (Nat.le_trans hl (by decide))
      have hal := all_here (st := st) (l := ws) (g := plS)
      rw [List.map_id'] at kl
      simp [pic_isT (.pu (st := st) _ h), isT, wipeW, kl, hal]
      rfl
  | _ => simp [pic_isT h, isT, askB]
theorem name_ok {w u : W} {st : Store} (h : Pic st w u) : d_is_name [w] st = .ok (.bl (nameB u)) st := by
  unfold d_is_name; rw [fnDen_ap]; unfold b_is_name
  cases u with
  | tup ws =>
    cases h with
    | pu _ h =>
      have hh : eqW (.tup (ws.take 1)) (.tup [.str c_WILD]) st = .ok (.bl (hdS ws)) st := by
        rw [head_ok h ok_wild]; congr 2
      have hd : pu (.tup (ws.drop 1)) := pu_sub h _ (fun w m => List.mem_of_mem_drop m) (by simp)
      have a1 := asked_ok (.pu (st := st) _ hd)
      have a2 := asked_ok (.pu (st := st) _ h)
      have hn : nameB (.tup ws) = (if hdS ws = true then ws.drop 1 else ws).all plS := rfl
      rw [hn]
      simp [-List.drop_one, pic_isT (.pu (st := st) _ h), isT, tup_one, hh]
      cases hdS ws with
      | true => simp [-List.drop_one, a1]; rfl
      | false => simp [-List.drop_one, a2]; rfl
  | _ => simp [pic_isT h, isT, nameB]
theorem star_plain : plainB ("*" : Str) = false := by decide +kernel
theorem labs_strs : ∀ {ws : List W}, ws.all labB = true → ∃ xs : List Str, ws = xs.map W.str
  | [], _ => ⟨[], rfl⟩
  | w :: ws, h => by
    rw [List.all_cons, Bool.and_eq_true] at h
    obtain ⟨xs, rfl⟩ := labs_strs h.2
    cases w with
    | str x => exact ⟨x :: xs, rfl⟩
    | _ => exact nomatch (show false = true from h.1)
theorem lab_split (x : Str) : (labB (.str x) && !(x == ("*" : Str))) = plainB x := by
  show ((x == ("*" : Str) || plainB x) && _) = _
  cases h : (x == ("*" : Str)) with
  | true =>
    have : x = "*" := beq_iff_eq.mp h
    subst this
    rw [star_plain]; rfl
  | false => simp
theorem law_name_ok {w u : W} {st : Store} (h : Pic st w u) : d__law_is_name [w] st = .ok (.bl (nameB u)) st := by
  unfold d__law_is_name; rw [fnDen_ap]; unfold b__law_is_name
  cases u with
  | tup ws =>
    cases h with
    | pu _ h =>
      obtain ⟨hl, hi⟩ := pu_items h
      have kl := kLc_mapB (env := [some (.tup ws), none, none]) (i := 2) (e := dCall 1 d__law_is_label (dCons (dVar 2) dNil)) (st := st) (src := none) (fun w : W => w) (fun w => W.bl (labB w)) ws (by simp) (fun b hb => by
        have hp : pu b := puB_mono (hi b hb) (by decide)
        simp [law_label_ok (.pu (st := st) b hp)]) (Nat.le_trans hl (by decide))
      have hal := all_here (st := st) (l := ws) (g := labB)
      rw [List.map_id'] at kl
      simp [pic_isT (.pu (st := st) _ h), isT, wipeW, kl, hal]
      cases hA : ws.all labB with
      | false =>
        have : nameB (.tup ws) = false := by
          show (if hdS ws = true then ws.drop 1 else ws).all plS = false
          rw [Bool.eq_false_iff] at hA ⊢
          intro hn
          apply hA
          have pl : ∀ w, plS w = true → labB w = true := fun w hw => by
            cases w with
            | str x => show (x == ("*" : Str) || plainB x) = true; rw [show plainB x = true from hw]; simp
            | _ => exact nomatch (show false = true from hw)
          cases ws with
          | nil => rfl
          | cons w r =>
            rw [List.all_eq_true] at hn ⊢
            by_cases hh : hdS (w :: r) = true
            · rw [if_pos hh] at hn
              intro a ha
              rcases List.mem_cons.mp ha with rfl | ha
              · cases a with
                | str x => show (x == ("*" : Str) || plainB x) = true; rw [show (x == ("*" : Str)) = true from hh]; rfl
                | _ => exact nomatch (show false = true from hh)
              · exact pl a (hn a (by simpa using ha))
            · rw [if_neg hh] at hn
              exact fun a ha => pl a (hn a ha)
        rw [this]; simp
      | true =>
        obtain ⟨xs, rfl⟩ := labs_strs hA
        have hx : ∀ x ∈ xs, okS x = true := fun x hx => hi (.str x) (List.mem_map_of_mem hx)
        generalize ((xs.map W.str).map fun w => W.bl (labB w)) = L1
        obtain ⟨S, hS⟩ : ∃ S, S = st ++ [Ob.lst L1] := ⟨_, rfl⟩
        rw [← hS]
        have hlen : lenW [.tup (xs.map W.str)] S = .ok (.int (xs.length : Int)) S := by
          rw [len_seq (ws := xs.map W.str) rfl]; simp
        simp only [List.length_map] at hl
        have hk := kR2_ok (st := S) (i := 1) (j := (xs.length : Int)) (by decide) (by decide) (Int.natCast_nonneg _) (lt62 hl)
        have hn : nameB (.tup (xs.map W.str)) = (xs.drop 1).all fun x => !(x == ("*" : Str)) := by
          show (if hdS (xs.map W.str) = true then (xs.map W.str).drop 1 else xs.map W.str).all plS = _
          cases xs with
          | nil => rfl
          | cons x r =>
            rw [List.map_cons, List.all_cons, Bool.and_eq_true, List.all_eq_true] at hA
            have hr : ∀ y ∈ r, (!(y == ("*" : Str))) = plainB y := fun y hy => by
              rw [← lab_split y, hA.2 (.str y) (List.mem_map_of_mem hy)]; simp
            have er : (r.map W.str).all plS = r.all fun x => !(x == ("*" : Str)) := by
              rw [List.all_map, Bool.eq_iff_iff, List.all_eq_true, List.all_eq_true]
              exact ⟨fun h y hy => (hr y hy).trans (h y hy), fun h y hy => (hr y hy).symm.trans (h y hy)⟩
            have ehd : hdS ((x :: r).map W.str) = (x == ("*" : Str)) := rfl
            rw [ehd]
            cases hs : (x == ("*" : Str)) with
            | true => rw [if_pos rfl]; simpa using er
            | false =>
              rw [if_neg (by simp)]
              show (plainB x && (r.map W.str).all plS) = _
              have := lab_split x
              rw [hA.1, hs] at this
              rw [← this, er]; simp
        rw [hn]
        have kl2 := kLc_mapB (env := [some (.tup (xs.map W.str)), none, none]) (i := 1) (e := dOp neW (dOp ixW (dVar 0) (dVar 1)) (dC (.str ("*" : Str)))) (st := S) (src := none) (fun i : Nat => W.int (1 + (i : Nat))) (fun i => W.bl (!(xs.getD (i + 1) ("*" : Str) == ("*" : Str)))) (List.range (xs.length - 1)) (by simp) (fun b hb => by
          have hb := List.mem_range.mp hb
          have hb1 : b + 1 < xs.length := by omega
          obtain ⟨v, hv, hg, e⟩ := ix_mem (st := S) (a := .tup (xs.map W.str)) (ws := xs.map W.str) (i := 1 + (b : Nat)) rfl (by omega) (by simp; omega)
          have : v = .str (xs.getD (b + 1) ("*" : Str)) := by
            have h1 : (1 + (b : Int)).toNat = b + 1 := by omega
            rw [h1, List.getElem?_map, List.getElem?_eq_getElem hb1] at hg
            rw [List.getD_eq_getElem?_getD, List.getElem?_eq_getElem hb1]
            simpa using hg.symm
          subst this
          have ho : okS (xs.getD (b + 1) ("*" : Str)) = true := by
            rw [List.getD_eq_getElem?_getD, List.getElem?_eq_getElem hb1]
            exact hx _ (List.getElem_mem hb1)
          simp only [dOp_ap, dVar_ap, List.set_cons_succ, List.set_cons_zero, List.getElem?_cons_zero, List.getElem?_cons_succ, Res.bind_ok, kOp1_ap, dC_ap, e]
          exact neW_str ho ok_star) (line8 (by simp; omega))
        have hal2 := all_here (st := S) (l := List.range (xs.length - 1)) (g := fun i => !(xs.getD (i + 1) ("*" : Str) == ("*" : Str)))
        have er : (List.range (xs.length - 1)).all (fun i => !(xs.getD (i + 1) ("*" : Str) == ("*" : Str))) = (xs.drop 1).all fun x => !(x == ("*" : Str)) := by
          rw [show xs.length - 1 = (xs.drop 1).length by simp]
          refine range_all _ _ _ fun i b hb => ?_
          rw [List.getElem?_drop, Nat.add_comm] at hb
          rw [List.getD_eq_getElem?_getD, hb]; rfl
        have hz : intsW 1 ((xs.length : Int) - 1).toNat = (List.range (xs.length - 1)).map (fun i : Nat => W.int (1 + (i : Nat))) := by
          exact ints1 _
        rw [hz] at hk
        rw [er] at hal2
        generalize List.map (fun i => W.bl (!(xs.getD (i + 1) ("*" : Str) == ("*" : Str)))) (List.range (xs.length - 1)) = LL at kl2 hal2
        generalize (xs.drop 1).all (fun x => !(x == ("*" : Str))) = A at *
        simp -implicitDefEqProofs [hlen, hk, kl2, wipeW, hal2]
        rw [hS, List.append_assoc, gc_ba]
  | _ => simp [pic_isT h, isT, nameB]
theorem rebuilt_pu : ∀ (n : Nat) (w : W), puB n w = true → n ≤ 5 → ∀ (m : Nat) (st : Store), n ≤ m → d_rebuilt m [w] st = .ok w st
  | 0, _, h, _, _, _, _ => nomatch (show false = true from h)
  | n + 1, w, h, hn, 0, st, hm => by omega
  | n + 1, w, h, hn, m + 1, st, hm => by
    have hp : pu w := puB_mono h hn
    unfold d_rebuilt; rw [fnDen_ap]; unfold b_rebuilt
    cases w with
    | tup ws =>
      have h' : (decide (ws.length ≤ 8192) && ws.all (puB n)) = true := h
      rw [Bool.and_eq_true, decide_eq_true_iff, List.all_eq_true] at h'
      have kl := kLc_mapB (env := [some (.tup ws), none]) (i := 1) (e := dCall 1 (d_rebuilt m) (dCons (dVar 1) dNil)) (st := st) (src := none) (fun w : W => w) (fun w => w) ws (by simp) (fun b hb => by
        simp [rebuilt_pu n b (h'.2 b hb) (by omega) m st (by omega)]) (line8 h'.1)
      rw [List.map_id'] at kl
      have hg : gc st (.tup ws) (st ++ [.lst ws]) = .ok (.tup ws) st := gc_app (cl_pu _ 5 _ hp)
      have ht : tupleW [.loc st.length] (st ++ [.lst ws]) = .ok (.tup ws) (st ++ [.lst ws]) := by
        unfold tupleW lstW; simp
      simp [pic_isL (.pu (st := st) _ hp), pic_isT (.pu (st := st) _ hp), isT, isL, wipeW, kl, ht, hg]
    | str x => simp [pic_isL (.pu (st := st) _ hp), pic_isT (.pu (st := st) _ hp), isT, isL]
    | bl x => simp [pic_isL (.pu (st := st) _ hp), pic_isT (.pu (st := st) _ hp), isT, isL]
    | int x => simp [pic_isL (.pu (st := st) _ hp), pic_isT (.pu (st := st) _ hp), isT, isL, gc_same]
    | non => simp [pic_isL (.pu (st := st) _ hp), pic_isT (.pu (st := st) _ hp), isT, isL]
    | _ => exact nomatch (show false = true from h)
theorem rebuilt_ok {w u : W} {st : Store} (h : Pic st w u) : ∃ w' g, d_rebuilt 8 [w] st = .ok w' (st ++ g) ∧ Pic (st ++ g) w' u ∧ (∀ ws, u = .fro ws → w' = .loc st.length ∧ g = [.lst ws]) := by
  cases h with
  | pu _ h => exact ⟨w, [], by rw [rebuilt_pu 5 w h (by decide) 8 st (by decide), List.append_nil], .pu _ h, fun ws e => by subst e; exact nomatch (show false = true from h)⟩
  | ls k ws h hl hw =>
    refine ⟨.loc st.length, [.lst ws], ?_, .ls _ ws (by simp) hl hw, fun ws' e => by cases e; exact ⟨rfl, rfl⟩⟩
    have hP : Pic st (.loc k) (.fro ws) := .ls k ws h hl hw
    show d_rebuilt (7 + 1) [.loc k] st = _
    unfold d_rebuilt; rw [fnDen_ap]; unfold b_rebuilt
    have kl := kLc_mapB (env := [some (.loc k), none]) (i := 1) (e := dCall 1 (d_rebuilt 7) (dCons (dVar 1) dNil)) (st := st) (src := some k) (fun w : W => w) (fun w => w) ws (by simpa using h) (fun b hb => by
      simp [rebuilt_pu 5 b (hw b hb) (by decide) 7 st (by decide)]) (line8 hl)
    rw [List.map_id'] at kl
    have hg : gc st (.loc st.length) (st ++ [.lst ws]) = .ok (.loc st.length) (st ++ [.lst ws]) := gc_newA (Nat.le_refl _) (by simp) (cls_pu _ 5 ws hw)
    simp [pic_isL hP, isL, wipeW, itOf_loc h, kl, hg]
theorem name_strs {u : W} (h : nameB u = true) : ∃ xs : List Str, u = .tup (xs.map W.str) ∧ ∀ x ∈ xs, x.length ≤ 20 ∧ ¬ 46 ∈ x.cps.toList := by
  have pl : ∀ x, plainB x = true → x.length ≤ 20 ∧ ¬ 46 ∈ x.cps.toList := fun x hx => by
    unfold plainB at hx
    simp only [Bool.and_eq_true, decide_eq_true_eq, List.all_eq_true] at hx
    exact ⟨hx.1.1.1.2, fun z => by have := hx.1.1.2 46 z; revert this; decide +kernel⟩
  have all : ∀ ws : List W, ws.all plS = true → ∃ xs : List Str, ws = xs.map W.str ∧ ∀ x ∈ xs, x.length ≤ 20 ∧ ¬ 46 ∈ x.cps.toList := by
    intro ws
    induction ws with
    | nil => intro _; exact ⟨[], rfl, fun _ z => nomatch z⟩
    | cons w r ih =>
      intro h
      rw [List.all_cons, Bool.and_eq_true] at h
      obtain ⟨xs, rfl, hx⟩ := ih h.2
      cases w with
      | str x => exact ⟨x :: xs, rfl, fun y hy => by
          rcases List.mem_cons.mp hy with rfl | hy
          · exact pl _ h.1
          · exact hx y hy⟩
      | _ => exact nomatch (show false = true from h.1)
  cases u with
  | tup ws =>
    have h' : (if hdS ws = true then ws.drop 1 else ws).all plS = true := h
    by_cases hh : hdS ws = true
    · rw [if_pos hh] at h'
      obtain ⟨xs, e, hx⟩ := all _ h'
      cases ws with
      | nil => exact ⟨[], rfl, fun _ z => nomatch z⟩
      | cons w r =>
        cases w with
        | str x =>
          have hx' : x = c_WILD := beq_iff_eq.mp hh
          subst hx'
          refine ⟨c_WILD :: xs, ?_, fun y hy => ?_⟩
          · have e' : r = xs.map W.str := by simpa using e
            rw [e']; rfl
          · rcases List.mem_cons.mp hy with rfl | hy
            · decide +kernel
            · exact hx y hy
        | _ => exact nomatch (show false = true from hh)
    · rw [if_neg hh] at h'
      obtain ⟨xs, rfl, hx⟩ := all _ h'
      exact ⟨xs, rfl, hx⟩
  | _ => exact nomatch (show false = true from h)
def readB (t : Str) : Bool := lastDot t && nameB (.tup ((parts t).map W.str))
theorem same_bl {n : Nat} {a b : Bool} {st : Store} : d__law_same (n + 1) [.bl a, .bl b] st = .ok (.bl (a == b)) st := by
  unfold d__law_same; rw [fnDen_ap]; unfold b__law_same
  have h1 : isi2W "tuple" "list" (.bl b) st = .ok (.bl false) st := rfl
  have h2 : isNW (.bl b) .non st = .ok (.bl false) st := rfl
  have h3 : isiW [.bl b, .gl (.ty "bool")] st = .ok (.bl true) st := rfl
  have h4 : isiW [.bl a, .gl (.ty "bool")] st = .ok (.bl true) st := rfl
  simp -implicitDefEqProofs [h1, h2, h3, h4]
theorem same_seq {m : Nat} {a b : W} {T : String} {x y : Bool} {ws vs : List W} {st : Store} (ha : tyN st a = some T) (hb : tyN st b = some T) (hx : kitB T "tuple" = some x) (hy : kitB T "list" = some y) (hxy : (x || y) = true)
    (sa : seqW st a = some ws) (sb : seqW st b = some vs) (hl : ws.length = vs.length) (h8 : vs.length ≤ 8192) (hi : ∀ (i : Nat) (v w : W), ws[i]? = some v → vs[i]? = some w → d__law_same m [v, w] st = .ok (.bl true) st) :
    d__law_same (m + 1) [a, b] st = .ok (.bl true) st := by
  unfold d__law_same; rw [fnDen_ap]; unfold b__law_same
  have h1 : isi2W "tuple" "list" b st = .ok (.bl true) st := by rw [isi2_of hb hx hy, hxy]
  have h2 := isi_of hb hx
  have h3 := isi_of ha hx
  have h4 := isi_of hb hy
  have h5 := isi_of ha hy
  have h6 := len_seq sa
  have h7 := len_seq sb
  rw [hl] at h6
  have hk := kR1_ok (st := st) (j := (vs.length : Int)) (by have := Int.natCast_nonneg vs.length; exact Int.le_trans (by decide) this) (lt62 h8)
  rw [show intsW 0 ((vs.length : Int)).toNat = (List.range vs.length).map (fun i : Nat => W.int (0 + (i : Nat))) from rfl] at hk
  have kl := kLc_mapB (env := [some a, some b, none]) (i := 2) (e := dCall 2 (d__law_same m) (dCons (dOp ixW (dVar 0) (dVar 2)) (dCons (dOp ixW (dVar 1) (dVar 2)) dNil))) (st := st) (src := none) (fun i : Nat => W.int (0 + (i : Nat))) (fun _ => W.bl true) (List.range vs.length) (by simp) (fun i hm => by
    have hm := List.mem_range.mp hm
    obtain ⟨v, _, ev, e1⟩ := ix_mem (i := 0 + (i : Int)) sa (by omega) (by omega)
    obtain ⟨w, _, ew, e2⟩ := ix_mem (i := 0 + (i : Int)) sb (by omega) (by omega)
    have hr := hi _ v w ev ew
    simp only [dCall_ap, dCons_ap, dOp_ap, dVar_ap, List.set_cons_succ, List.set_cons_zero, List.getElem?_cons_zero, List.getElem?_cons_succ, Res.bind_ok, kOp1_ap, e1, e2, kCons1_ap, dNil_ap, kCons2_ap, kCall_2, hr]) (line8 (by simpa using h8))
  have hal := all_here (st := st) (l := List.range vs.length) (g := fun _ => true)
  have ht : (List.range vs.length).all (fun _ => true) = true := by simp
  rw [ht] at hal
  generalize List.map (fun x : Nat => W.bl true) (List.range vs.length) = LL at kl hal
  generalize List.map (fun i : Nat => W.int (0 + (i : Nat))) (List.range vs.length) = RR at kl hk
  simp -implicitDefEqProofs [h1, h2, h3, h4, h5, h6, h7, hk, wipeW, kl, hal]
theorem same_pu : ∀ (n : Nat) (w : W), puB n w = true → n ≤ 5 → ∀ (m : Nat) (st : Store), n ≤ m → d__law_same m [w, w] st = .ok (.bl true) st
  | 0, _, h, _, _, _, _ => nomatch (show false = true from h)
  | n + 1, w, h, hn, 0, st, hm => by omega
  | n + 1, w, h, hn, m + 1, st, hm => by
    have hp : pu w := puB_mono h hn
    cases w with
    | tup ws =>
      have h' : (decide (ws.length ≤ 8192) && ws.all (puB n)) = true := h
      rw [Bool.and_eq_true, decide_eq_true_iff, List.all_eq_true] at h'
      refine same_seq (T := "tuple") (x := true) (y := false) rfl rfl rfl rfl rfl rfl rfl rfl h'.1 fun i v w hv hw => ?_
      rw [hv] at hw; cases hw
      exact same_pu n v (h'.2 v (List.mem_of_getElem? hv)) (by omega) m st (by omega)
    | bl b => rw [same_bl]; simp
    | non =>
      unfold d__law_same; rw [fnDen_ap]; unfold b__law_same
      have h1 : isi2W "tuple" "list" .non st = .ok (.bl false) st := rfl
      have h2 : isNW .non .non st = .ok (.bl true) st := rfl
      simp -implicitDefEqProofs [h1, h2]
    | int i =>
      unfold d__law_same; rw [fnDen_ap]; unfold b__law_same
      have h1 : isi2W "tuple" "list" (.int i) st = .ok (.bl false) st := rfl
      have h2 : isNW (.int i) .non st = .ok (.bl false) st := rfl
      have h3 : isiW [.int i, .gl (.ty "bool")] st = .ok (.bl false) st := rfl
      have h4 : isiW [.int i, .gl (.ty "int")] st = .ok (.bl true) st := rfl
      simp -implicitDefEqProofs [h1, h2, h3, h4]
    | str s =>
      unfold d__law_same; rw [fnDen_ap]; unfold b__law_same
      have h1 : isi2W "tuple" "list" (.str s) st = .ok (.bl false) st := rfl
      have h2 : isNW (.str s) .non st = .ok (.bl false) st := rfl
      have h3 : isiW [.str s, .gl (.ty "bool")] st = .ok (.bl false) st := rfl
      have h4 : isiW [.str s, .gl (.ty "int")] st = .ok (.bl false) st := rfl
      have h5 : isiW [.str s, .gl (.ty "str")] st = .ok (.bl true) st := rfl
      simp -implicitDefEqProofs [h1, h2, h3, h4, h5, eqW_str hp hp]
    | _ => exact nomatch (show false = true from h)
theorem same_pic {a b u : W} {st : Store} {m : Nat} (h : Pic st a u) (h' : Pic st b u) (hm : 6 ≤ m) : d__law_same m [a, b] st = .ok (.bl true) st := by
  cases h with
  | pu _ hp =>
    cases h' with
    | pu => exact same_pu 5 _ hp (by decide) m st (by omega)
    | ls k ws => exact nomatch (show false = true from hp)
  | ls k ws hk hl hw =>
    cases h' with
    | pu _ hp => exact nomatch (show false = true from hp)
    | ls k' _ hk' =>
      obtain ⟨m, rfl⟩ : ∃ m', m = m' + 1 := ⟨m - 1, by omega⟩
      refine same_seq (T := "list") (x := false) (y := true) (ws := ws) (vs := ws) (by simp [tyN, hk]) (by simp [tyN, hk']) rfl rfl rfl (by simp [seqW, hk]) (by simp [seqW, hk']) rfl hl fun i v w hv hw' => ?_
      rw [hv] at hw'; cases hw'
      exact same_pu 5 v (hw v (List.mem_of_getElem? hv)) (by decide) m st (by omega)
theorem same_pair {a b u : W} {s : Str} {st : Store} {m : Nat} (hs : okS s = true) (h : Pic st a u) (h' : Pic st b u) (hm : 7 ≤ m) : d__law_same m [.tup [.str s, a], .tup [.str s, b]] st = .ok (.bl true) st := by
  obtain ⟨m, rfl⟩ : ∃ m', m = m' + 1 := ⟨m - 1, by omega⟩
  refine same_seq (T := "tuple") (x := true) (y := false) rfl rfl rfl rfl rfl rfl rfl rfl (by simp) fun i v w hv hw => ?_
  match i with
  | 0 => simp at hv hw; subst hv; subst hw; exact same_pu 5 _ (pu_str hs) (by decide) m st (by omega)
  | 1 => simp at hv hw; subst hv; subst hw; exact same_pic h h' (by omega)
  | n + 2 => simp at hv
theorem mod_ok {i j : Int} {st : Store} (h : 0 < j) : modW (.int i) (.int j) st = .ok (.int (i % j)) st := if_pos h
theorem mul_ok {i j : Int} {st : Store} (h : IntMulOk i j) : mulW (.int i) (.int j) st = .ok (.int (i * j)) st := if_pos h
theorem pow_ok {i j : Int} {st : Store} (h : CPowW i j) : powW (.int i) (.int j) st = .ok (.int (i ^ j.toNat)) st := if_pos h
theorem take_okG {p n : Nat} {m : Int} {st : Store} (h : PotA p n st) (hn : n ≤ 1000000) (h0 : 0 < m) (h1 : m.natAbs.log2 < 9000) :
    ∃ (r : Int) (st' : Store), d__law_take [.loc p, .int m] st = .ok (.int r) st' ∧ 0 ≤ r ∧ r < m ∧ PotA p (n + 1) st' ∧ Kp p st st' := by
  have hl := h.lt
  obtain ⟨a, b, c, hp, hb0, hb, hc0, hc⟩ := h
  have kp : ∀ o, Kp p st (st.set p o) := fun o => ⟨by simp, fun i hi => List.getElem?_set_ne (Ne.symm hi)⟩
  have fin : ∀ (r x y z : Int), 0 ≤ y → y < 10 ^ 34 → 0 ≤ z → z ≤ ((n + 1 : Nat) : Int) → gc st (.int r) (st.set p (.lst [.int x, .int y, .int z])) = .ok (.int r) (st.set p (.lst [.int x, .int y, .int z])) ∧ PotA p (n + 1) (st.set p (.lst [.int x, .int y, .int z])) := fun r x y z hy hy' hz hz' => by
    have hP : PotA p (n + 1) (st.set p (.lst [.int x, .int y, .int z])) := ⟨x, y, z, by rw [List.getElem?_set_self hl], hy, hy', hz, hz'⟩
    have := (gc_pot (v := .int r) (kp (.lst [.int x, .int y, .int z])).ext hP hl rfl).1
    rw [List.take_of_length_le (by simp)] at this
    exact ⟨this, hP⟩
  have ix : ∀ (st : Store) (x y z : Int), st[p]? = some (.lst [.int x, .int y, .int z]) → ixW (.loc p) (.int 0) st = .ok (.int x) st ∧ ixW (.loc p) (.int 1) st = .ok (.int y) st ∧ ixW (.loc p) (.int 2) st = .ok (.int z) st := fun st x y z h => by
    refine ⟨?_, ?_, ?_⟩ <;> (unfold ixW seqW; simp only [h]; rfl)
  obtain ⟨i0, i1, i2⟩ := ix st a b c hp
  unfold d__law_take; rw [fnDen_ap]; unfold b__law_take
  by_cases ha : 0 < a
  · obtain ⟨f1, f2⟩ := fin (a % m) (a / m) b c hb0 hb hc0 (by omega)
    refine ⟨a % m, _, ?_, Int.emod_nonneg _ (by omega), Int.emod_lt_of_pos _ h0, f2, kp _⟩
    have hset := setW_of (v := .int (a / m)) (i := 0) (j := 0) hp rfl
    have hk := kAsg_sub (env := [some (.loc p), some (.int m), none, some (.int (a % m))]) (st := st) (mo := dVar 0) (mi := dC (.int 0)) (v := .int (a / m)) rfl rfl hset
    simp only [List.set_cons_zero] at hk
    simp -implicitDefEqProofs [i0, ha, mod_ok h0, div_okG h0 h1, hk, f1]
  · have hp1 : (st.set p (.lst [.int a, .int b, .int (c + 1)]))[p]? = some (.lst [.int a, .int b, .int (c + 1)]) := by rw [List.getElem?_set_self hl]
    obtain ⟨j0, j1, j2⟩ := ix _ a b (c + 1) hp1
    obtain ⟨S, hS⟩ : ∃ S, S = st.set p (.lst [.int a, .int b, .int (c + 1)]) := ⟨_, rfl⟩
    rw [← hS] at j0 j1 j2
    have hset := setW_of (v := .int (c + 1)) (i := 2) (j := 2) hp rfl
    have hk := kAsg_sub (env := [some (.loc p), some (.int m), none, none]) (st := st) (mo := dVar 0) (mi := dC (.int 2)) (v := .int (c + 1)) rfl rfl hset
    simp only [List.set_cons_succ, List.set_cons_zero] at hk
    rw [← hS] at hk
    have hy : Builtin.Int.intBits (b + 999983 * (c + 1)) ≤ 128 := by
      refine intBits_le ?_
      have : b + 999983 * (c + 1) < 2 ^ 128 := by
        have e1 : (10 : Int) ^ 34 = 10000000000000000000000000000000000 := by decide
        have e2 : (2 : Int) ^ 128 = 340282366920938463463374607431768211456 := by decide
        rw [e2]; rw [e1] at hb; omega
      have e3 : ((2 ^ 128 : Nat) : Int) = 2 ^ 128 := by decide
      omega
    have hpw : CPowW (b + 999983 * (c + 1)) 3 := ⟨by decide, by
      have : (Builtin.Int.intBits (b + 999983 * (c + 1)) : Int) ≤ ((128 : Nat) : Int) := Int.ofNat_le.mpr hy
      have e : (2 : Int) ^ 27 = 134217728 := by decide
      rw [e]; omega⟩
    have m1 : mulW (.int 999983) (.int (c + 1)) S = .ok (.int (999983 * (c + 1))) S := mul_ok (small_mul (by decide) (by decide))
    have m2 : mulW (.int 7) (.int (c + 1)) S = .ok (.int (7 * (c + 1))) S := mul_ok (small_mul (by decide) (by decide))
    have p1 : powW (.int (b + 999983 * (c + 1))) (.int 3) S = .ok (.int ((b + 999983 * (c + 1)) ^ (3 : Int).toNat)) S := pow_ok hpw
    have p2 : powW (.int 10) (.int 37) S = .ok (.int (10 ^ (37 : Int).toNat)) S := pow_ok (pow10 37 (by decide) (by decide))
    have d1 : ∀ x, modW (.int x) (.int (10 ^ (37 : Int).toNat + 43)) S = .ok (.int (x % (10 ^ (37 : Int).toNat + 43))) S := fun x => mod_ok (by decide)
    obtain ⟨f1, f2⟩ := fin ((((b + 999983 * (c + 1)) ^ (3 : Int).toNat + 7 * (c + 1)) % (10 ^ (37 : Int).toNat + 43)) / 65537 % m) a b (c + 1) hb0 hb (by omega) (by omega)
    rw [← hS] at f1 f2
    refine ⟨((((b + 999983 * (c + 1)) ^ (3 : Int).toNat + 7 * (c + 1)) % (10 ^ (37 : Int).toNat + 43)) / 65537) % m, S, ?_, Int.emod_nonneg _ (by omega), Int.emod_lt_of_pos _ h0, f2, by rw [hS]; exact kp _⟩
    · generalize (10 : Int) ^ (37 : Int).toNat = T at *
      generalize (b + 999983 * (c + 1)) ^ (3 : Int).toNat = Y at *
      simp -implicitDefEqProofs [i0, ha, i2, hk]
      simp -implicitDefEqProofs [j0, j1, j2, m1, m2, p1, p2, d1, div_big, mod_ok h0, f1]
theorem take_ok {p n : Nat} {m : Int} {st : Store} (h : PotA p n st) (hn : n ≤ 1000000) (h0 : 0 < m) (h1 : m < 9000) :
    ∃ (r : Int) (st' : Store), d__law_take [.loc p, .int m] st = .ok (.int r) st' ∧ 0 ≤ r ∧ r < m ∧ PotA p (n + 1) st' ∧ Kp p st st' := take_okG h hn h0 (Nat.lt_of_le_of_lt (Nat.log2_le_self _) (by omega))
theorem label_draw {p n : Nat} {st : Store} (h : PotA p n st) (hn : n + 30 ≤ 1000000) :
    ∃ (x : Str) (st' : Store), d__law_label [.loc p] st = .ok (.str x) st' ∧ okS x = true ∧ x.length ≤ 20 ∧ PotA p (n + 30) st' ∧ Kp p st st' := by
  have hl := h.lt
  obtain ⟨t1, s1, e1, a1, b1, P1, K1⟩ := take_ok (m := 20) h (by omega) (by decide) (by decide)
  obtain ⟨L1, hL1⟩ : ∃ L, L = [W.int 1, .int 2, .int 3, .int (1 + t1), .int 20] := ⟨_, rfl⟩
  obtain ⟨t2, s2, e2, a2, b2, P2, K2⟩ := take_ok (m := 5) (P1.app [.lst L1]) (by omega) (by decide) (by decide)
  have hp1 : p ≠ s1.length := by have := P1.lt; omega
  have g2 : s2[s1.length]? = some (.lst L1) := by rw [K2.keep _ (Ne.symm hp1)]; simp
  obtain ⟨w, wm, _, e3⟩ := ix_mem (st := s2) (a := .loc s1.length) (ws := L1) (i := t2) (by simp [seqW, g2]) a2 (by rw [hL1]; simpa using b2)
  obtain ⟨k, rfl, k1, k2⟩ : ∃ k : Int, w = .int k ∧ 1 ≤ k ∧ k ≤ 20 := by
    rw [hL1] at wm
    simp only [List.mem_cons, List.not_mem_nil, or_false] at wm
    rcases wm with rfl | rfl | rfl | rfl | rfl
    · exact ⟨1, rfl, by decide, by decide⟩
    · exact ⟨2, rfl, by decide, by decide⟩
    · exact ⟨3, rfl, by decide, by decide⟩
    · exact ⟨1 + t1, rfl, by omega, by omega⟩
    · exact ⟨20, rfl, by decide, by decide⟩
  have hr := kR1_ok (st := s2) (j := k) (Int.le_trans (by decide) k1) (Int.lt_of_le_of_lt k2 (by decide))
  obtain ⟨l, s3, e4, hll, P3, X3, SL3⟩ := kLc_ok (env := [some (.loc p), some (.str AL), some (.int k), none, none]) (i := 4) (e := dOp ixW (dOp addW (dC (.str "-")) (dVar 1)) (dCall 2 d__law_take (dCons (dVar 0) (dCons (dC (.int 37)) dNil)))) (st := s2) (ws := intsW 0 k.toNat)
    (fun i acc S => PotA p (n + 2 + i) S ∧ Ext p s2 S ∧ StL 1 acc) (fun i w acc S hw hJ => by
      obtain ⟨hP, hX, hS⟩ := hJ
      have hi : i < k.toNat := by rw [← ints_len]; exact (List.getElem?_eq_some_iff.mp hw).1
      obtain ⟨t, s', e, a, b, P, Kq⟩ := take_ok (m := 37) hP (by omega) (by decide) (by decide)
      obtain ⟨y, hy, hyl, ey⟩ := sign_of (i := t) ok_al1 a (by rw [al1_len]; exact b)
      refine ⟨.str y, s', ?_, P, hX.trans Kq.ext, hS.app (.one hy hyl)⟩
      simp -implicitDefEqProofs [al1_add, e, ey]) (by rw [ints_len]; exact line8 (by omega)) ⟨P2, .refl, .nil⟩
  rw [ints_len] at hll
  have hlk : l.length = k.toNat := hll
  have P4 := (P3.mono (m := n + 25) (by rw [ints_len]; omega)).app [.lst l]
  obtain ⟨t5, s5, e5, a5, b5, P5, K5⟩ := take_ok (m := 36) P4 (by omega) (by decide) (by decide)
  have hle : st.length ≤ s3.length := by
    have := X3.le; rw [K2.len] at this; simp at this; rw [K1.len] at this; omega
  have hp3 : s3.length ≠ p := by omega
  have g5 : s5[s3.length]? = some (.lst l) := by rw [K5.keep _ hp3]; simp
  obtain ⟨y5, hy5, hyl5, ey5⟩ := sign_of (i := t5) ok_al a5 (by rw [al_len]; exact b5)
  have st5 := setW_of (v := .str y5) (i := 0) (j := 0) g5 (by unfold ixN; rw [if_pos (by decide), if_pos (by omega)]; rfl)
  have k5 := kAsg_sub (env := [some (.loc p), some (.str AL), some (.int k), some (.loc s3.length), none]) (st := s5) (mo := dVar 3) (mi := dC (.int 0)) (v := .str y5) rfl rfl st5
  have P5' := P5.set (k := s3.length) (o := .lst (l.set 0 (.str y5))) (Ne.symm hp3)
  obtain ⟨t6, s6, e6, a6, b6, P6, K6⟩ := take_ok (m := 36) P5' (by omega) (by decide) (by decide)
  have hl5 : s3.length < s5.length := (List.getElem?_eq_some_iff.mp g5).1
  have g6 : s6[s3.length]? = some (.lst (l.set 0 (.str y5))) := by rw [K6.keep _ hp3, List.getElem?_set_self hl5]
  obtain ⟨y6, hy6, hyl6, ey6⟩ := sign_of (i := t6) ok_al a6 (by rw [al_len]; exact b6)
  have st6 := setW_of (v := .str y6) (i := -1) (j := l.length - 1) g6 (by unfold ixN; rw [if_neg (by decide), if_pos (by rw [List.length_set]; omega)]; congr 1; rw [List.length_set]; omega)
  have k6 := kAsg_sub (env := [some (.loc p), some (.str AL), some (.int k), some (.loc s3.length), none]) (st := s6) (mo := dVar 3) (mi := dUn negW (dC (.int 1))) (v := .str y6) rfl rfl st6
  have hl6 : s3.length < s6.length := (List.getElem?_eq_some_iff.mp g6).1
  obtain ⟨LL, hLL⟩ : ∃ LL, LL = (l.set 0 (.str y5)).set (l.length - 1) (.str y6) := ⟨_, rfl⟩
  rw [← hLL] at k6
  have SL : StL 1 LL := by rw [hLL]; exact (SL3.set hy5 hyl5).set hy6 hyl6
  have hlL : LL.length = k.toNat := by rw [hLL]; simp [hlk]
  have P7 := P6.set (k := s3.length) (o := .lst LL) (Ne.symm hp3)
  obtain ⟨x, ex, okx, lx⟩ := join_StL (st := s6.set s3.length (.lst LL)) (k := s3.length) (b := 1) (ws := LL) (by rw [List.getElem?_set_self hl6]) SL (by rw [hlL]; omega)
  have X : Ext p st (s6.set s3.length (.lst LL)) := by
    have x1 : Ext p st s2 := (K1.ext.trans (.app [.lst L1])).trans K2.ext
    have x2 : Ext p st s5 := ((x1.trans X3).trans (.app [.lst l])).trans K5.ext
    exact (((x2.set hle).trans K6.ext).set hle)
  obtain ⟨G1, G2, G3⟩ := gc_pot (v := .str x) X P7 hl rfl
  refine ⟨x, _, ?_, okx, by rw [hlL] at lx; omega, G3.mono (by omega), G2⟩
  unfold d__law_label; rw [fnDen_ap]; unfold b__law_label
  rw [show ("0123456789abcdefghijklmnopqrstuvwxyz" : Str) = AL from rfl]
  have lst1 : kLst [W.int 1, .int 2, .int 3, .int (1 + t1), .int 20] s1 = .ok (.loc s1.length) (s1 ++ [.lst L1]) := by rw [hL1]; exact lst5 (by simp)
  simp -implicitDefEqProofs [e1, lst1, e2, e3, hr, wipeW]
  rw [e4]
  simp -implicitDefEqProofs only [Res.then_ok, kAsg_n, List.set_cons_succ, List.set_cons_zero, RsS.next_nx, sSeq_ap, sAsg_ap, dOp_ap, dVar_ap, List.getElem?_cons_zero, List.getElem?_cons_succ, Res.bind_ok, kOp1_ap, dCall_ap, dCons_ap, kCons1_ap, dC_ap, dNil_ap, kCons2_ap, kCall_2, e5, ey5, k5, e6, ey6, k6, sRet_ap, dBm_ap, kBm_s, ex, kRet_ap, fnR_rt, G1]
theorem take_in {p n : Nat} {m : Int} {st : Store} (h : PotA p n st) (hn : n + 1 ≤ 1000000) (h0 : 0 < m) (h1 : m < 9000) :
    ∃ (r : Int) (st' : Store), d__law_take [.loc p, .int m] st = .ok (.int r) st' ∧ 0 ≤ r ∧ r < m ∧ PotA p (n + 1) st' ∧ Kp p st st' := take_ok h (by omega) h0 h1
structure Odd (p n : Nat) (st : Store) (r : Res W) : Prop where
  ex : ∃ (w u : W) (st' g : Store), r = .ok w (st' ++ g) ∧ Pic (st' ++ g) w u ∧ nameB u = false ∧ PotA p n st' ∧ Kp p st st' ∧ ((g = [] ∧ pu w) ∨ ∃ ws, g = [.lst ws] ∧ w = .loc st.length ∧ u = .fro ws)
theorem odd_draw {p n : Nat} {st : Store} (h : PotA p n st) (hn : n + 1 ≤ 1000000) : Odd p (n + 1) st (d__law_odd [.loc p] st) := by
  have hl := h.lt
  obtain ⟨L14, h14⟩ : ∃ L, L = [W.non, .bl true, .int 7, .int (-1), .str "", .str "a", .loc st.length, .loc (st.length + 1), .tup [.str "a", .int 5], .tup [.str "a", .str "*"], .tup [.tup [.str "a"]], .tup [.str ""], .tup [.str "*", .str "*"], .str "a."] := ⟨_, rfl⟩
  obtain ⟨L9, h9⟩ : ∃ L, L = [W.tup [.str "a-"], .tup [.str "-"], .tup [.str "A"], .tup [.str "a b"], .tup [.str "a", .non], .loc (st.length + 3), .tup [.str (repS "a" 21)], .tup [.str "a", .str "", .str "b"], .tup [.str "**"]] := ⟨_, rfl⟩
  obtain ⟨S, hS⟩ : ∃ S, S = st ++ [.lst [.str "a"], .lst [], .lst L14, .lst [.tup [.str "a"]], .lst L9, .lst (L14 ++ L9)] := ⟨_, rfl⟩
  have hle : st.length + 6 = S.length := by rw [hS]; simp
  have PS : PotA p n S := by rw [hS]; exact h.app _
  obtain ⟨t, s1, e, a, b, P, K⟩ := take_ok (m := 23) PS (by omega) (by decide) (by decide)
  have get : ∀ i : Nat, p ≠ st.length + i → s1[st.length + i]? = S[st.length + i]? := fun i hi => K.keep _ (Ne.symm hi)
  have X : Ext p st s1 := ⟨by rw [K.len, ← hle]; omega, fun i hi hp => by rw [K.keep _ hp, hS, List.getElem?_append_left hi]⟩
  have gF : s1[st.length + 5]? = some (.lst (L14 ++ L9)) := by rw [get 5 (by omega), hS]; simp
  have g0 : s1[st.length]? = some (.lst [.str "a"]) := by have := get 0 (by omega); rw [Nat.add_zero] at this; rw [this, hS]; simp
  have g1 : s1[st.length + 1]? = some (.lst []) := by rw [get 1 (by omega), hS]; simp
  have g3 : s1[st.length + 3]? = some (.lst [.tup [.str "a"]]) := by rw [get 3 (by omega), hS]; simp
  obtain ⟨w, wm, _, e3⟩ := ix_mem (st := s1) (a := .loc (st.length + 5)) (ws := L14 ++ L9) (i := t) (by simp [seqW, gF]) a (by rw [h14, h9]; simpa using b)
  have run : ∀ v st', gc st w s1 = .ok v st' → d__law_odd [.loc p] st = .ok v st' := fun v st' hg => by
    unfold d__law_odd; rw [fnDen_ap]; unfold b__law_odd
    have k1 : ∀ (l : List W) (st : Store), l.length ≤ 50 → kLst l st = .ok (.loc st.length) (st ++ [.lst l]) := fun l st h => lst5 h
    have k2 : ∀ (l : List W) (st : Store), l.length ≤ 50 → kTup l st = .ok (.tup l) st := fun l st h => ten (by omega)
    have c1 := k1 [.str "a"] st (by simp)
    have c2 := k1 [] (st ++ [.lst [.str "a"]]) (by simp)
    have c3 := k1 L14 (st ++ [.lst [.str "a"], .lst []]) (by rw [h14]; simp)
    have c4 := k1 [.tup [.str "a"]] (st ++ [.lst [.str "a"], .lst [], .lst L14]) (by simp)
    have c5 := k1 L9 (st ++ [.lst [.str "a"], .lst [], .lst L14, .lst [.tup [.str "a"]]]) (by rw [h9]; simp)
    have gA : (st ++ [Ob.lst [W.str "a"], .lst [], .lst L14, .lst [.tup [.str "a"]], .lst L9])[st.length + 2]? = some (.lst L14) := by simp
    have gB : (st ++ [Ob.lst [W.str "a"], .lst [], .lst L14, .lst [.tup [.str "a"]], .lst L9])[st.length + 4]? = some (.lst L9) := by simp
    have ad := addW_l gA gB (by rw [h14, h9]; simp)
    have eS : (st ++ [Ob.lst [W.str "a"], .lst [], .lst L14, .lst [.tup [.str "a"]], .lst L9] ++ [.lst (L14 ++ L9)]) = S := by rw [hS]; simp
    have eL : (st ++ [Ob.lst [W.str "a"], .lst [], .lst L14, .lst [.tup [.str "a"]], .lst L9]).length = st.length + 5 := by simp
    rw [eS, eL] at ad
    have gS : S[st.length + 5]? = some (.lst (L14 ++ L9)) := by rw [hS]; simp
    have hlen : lenW [.loc (st.length + 5)] S = .ok (.int 23) S := by
      rw [len_seq (ws := L14 ++ L9) (by simp [seqW, gS]), h14, h9]; rfl
    have c1' := c1
    simp only [List.length_append, List.length_cons, List.length_nil, List.append_assoc, List.cons_append, List.nil_append] at c2 c3 c4 c5
    simp -implicitDefEqProofs only [sSeq_ap, sAsg_ap, dLst_ap, dCons_ap, dC_ap, Res.bind_ok, kCons1_ap, dUn_ap, negW_i, dNil_ap, kCons2_ap, dTup_ap, k2, List.length_cons, List.length_nil, Nat.reduceAdd, Nat.reduceLeDiff, c1, c2]
    rw [← h14, c3]
    simp -implicitDefEqProofs only [Res.then_ok, kAsg_n, List.map_cons, List.map_nil, List.length_cons, List.length_nil, Nat.reduceAdd, Nat.reduceSub, List.replicate_succ, List.replicate_zero, List.cons_append, List.nil_append, List.set_cons_succ, List.set_cons_zero, RsS.next_nx, sSeq_ap, sAsg_ap, dOp_ap, dVar_ap, List.getElem?_cons_zero, List.getElem?_cons_succ, Res.bind_ok, kOp1_ap, dLst_ap, dCons_ap, dTup_ap, dC_ap, kCons1_ap, dNil_ap, kCons2_ap, k2, Nat.reduceLeDiff, c4, a21]
    rw [← h9, c5]
    simp -implicitDefEqProofs only [Res.bind_ok, ad, Res.then_ok, kAsg_n, List.set_cons_succ, List.set_cons_zero, RsS.next_nx, sRet_ap, dOp_ap, dVar_ap, List.getElem?_cons_zero, List.getElem?_cons_succ, kOp1_ap, dCall_ap, dCons_ap, dApp_ap, kCons1_ap, dNil_ap, kCons2_ap, hlen, kCall_2, e, e3, kRet_ap, fnR_rt, hg]
  have pure : pu w → nameB w = false → Odd p (n + 1) st (d__law_odd [.loc p] st) := fun hp hnb => by
    obtain ⟨G1, G2, G3⟩ := gc_pot (v := w) X P hl (cl_pu _ 5 _ hp)
    exact ⟨w, w, _, [], by rw [List.append_nil]; exact run _ _ G1, .pu _ hp, hnb, G3, G2, .inl ⟨rfl, hp⟩⟩
  have list : ∀ (k : Nat) (ws : List W), w = .loc k → st.length ≤ k → s1[k]? = some (.lst ws) → ws.length ≤ 8192 → (∀ w ∈ ws, pu w) → Odd p (n + 1) st (d__law_odd [.loc p] st) := fun k ws hw hk g hl' hp => by
    subst hw
    obtain ⟨G1, G2, G3⟩ := gc_potL X P hl hk g (cls_pu _ 5 _ hp)
    refine ⟨_, .fro ws, _, [.lst ws], run _ _ G1, .ls _ ws ?_ hl' hp, rfl, G3, G2, .inr ⟨ws, rfl, rfl, rfl⟩⟩
    rw [show st.length = (List.take st.length s1).length from G2.len.symm]
    simp
  rw [h14, h9] at wm
  simp only [List.mem_append, List.mem_cons, List.not_mem_nil, or_false] at wm
  rcases wm with (rfl | rfl | rfl | rfl | rfl | rfl | rfl | rfl | rfl | rfl | rfl | rfl | rfl | rfl) | (rfl | rfl | rfl | rfl | rfl | rfl | rfl | rfl | rfl)
  · exact pure (by decide +kernel) (by decide +kernel)
  · exact pure (by decide +kernel) (by decide +kernel)
  · exact pure (by decide +kernel) (by decide +kernel)
  · exact pure (by decide +kernel) (by decide +kernel)
  · exact pure (by decide +kernel) (by decide +kernel)
  · exact pure (by decide +kernel) (by decide +kernel)
  · exact list _ _ rfl (Nat.le_refl _) g0 (by simp) (pu_one (by decide +kernel))
  · exact list _ _ rfl (by omega) g1 (by simp) (fun w hw => nomatch hw)
  · exact pure (by decide +kernel) (by decide +kernel)
  · exact pure (by decide +kernel) (by decide +kernel)
  · exact pure (by decide +kernel) (by decide +kernel)
  · exact pure (by decide +kernel) (by decide +kernel)
  · exact pure (by decide +kernel) (by decide +kernel)
  · exact pure (by decide +kernel) (by decide +kernel)
  · exact pure (by decide +kernel) (by decide +kernel)
  · exact pure (by decide +kernel) (by decide +kernel)
  · exact pure (by decide +kernel) (by decide +kernel)
  · exact pure (by decide +kernel) (by decide +kernel)
  · exact pure (by decide +kernel) (by decide +kernel)
  · exact list _ _ rfl (by omega) g3 (by simp) (pu_one (by decide +kernel))
  · exact pure (by decide +kernel) (by decide +kernel)
  · exact pure (by decide +kernel) (by decide +kernel)
  · exact pure (by decide +kernel) (by decide +kernel)
theorem pot_ok {ns : List Int} {i : Int} {st : Store} (hl : ns.length ≤ 63) (h0 : 0 ≤ i) (h1 : i ≤ 63) : ∃ st', d__law_pot [.fro (ns.map W.int), .int i] st = .ok (.loc st.length) st' ∧ PotA st.length 0 st' ∧ st'.length = st.length + 1 := by
  have m0 : mulW (.int 11) (.int i) st = .ok (.int (11 * i)) st := mul_ok (small_mul (by decide) (by decide))
  have hlen : lenW [.fro (ns.map W.int)] st = .ok (.int (ns.length : Int)) st := by rw [len_seq (ws := ns.map W.int) rfl]; simp
  obtain ⟨x, hx⟩ : ∃ x : Int, ∀ (k : EnvW → Store → RsS), (((dBool (dOp ltW (dVar 1) (dApp lenW (dCons (dVar 0) dNil)))) [some (.fro (ns.map W.int)), some (.int i), some (.int (29 + 11 * i)), none, none] st).then [some (.fro (ns.map W.int)), some (.int i), some (.int (29 + 11 * i)), none, none] (kSIf (sAsg (dOp ixW (dVar 0) (dVar 1)) (tName 2)) sNil [some (.fro (ns.map W.int)), some (.int i), some (.int (29 + 11 * i)), none, none])).next k = k [some (.fro (ns.map W.int)), some (.int i), some (.int x), none, none] st := by
    by_cases hi : i < (ns.length : Int)
    · obtain ⟨w, wm, _, e⟩ := ix_mem (st := st) (a := .fro (ns.map W.int)) (ws := ns.map W.int) (i := i) rfl h0 (by simpa using hi)
      obtain ⟨x, _, rfl⟩ := List.mem_map.mp wm
      exact ⟨x, fun k => by simp -implicitDefEqProofs [hlen, hi, e]⟩
    · exact ⟨29 + 11 * i, fun k => by simp -implicitDefEqProofs [hlen, hi]⟩
  have p33 : powW (.int 10) (.int 33) st = .ok (.int (10 ^ (33 : Int).toNat)) st := pow_ok (pow10 33 (by decide) (by decide))
  have p18 : powW (.int 10) (.int 18) st = .ok (.int (10 ^ (18 : Int).toNat)) st := pow_ok (pow10 18 (by decide) (by decide))
  have md : ∀ y, modW (.int y) (.int (10 ^ (33 : Int).toNat + 61)) st = .ok (.int (y % (10 ^ (33 : Int).toNat + 61))) st := fun y => mod_ok (by decide)
  have m1 : ∀ y, mulW (.int y) (.int 131) st = .ok (.int (y * 131)) st := fun y => mul_ok (IntMulOk.of_right (intBits_le_64 (by decide) (by decide)))
  have m2 : ∀ y, mulW (.int y) (.int 977) st = .ok (.int (y * 977)) st := fun y => mul_ok (IntMulOk.of_right (intBits_le_64 (by decide) (by decide)))
  have m3 : mulW (.int 13) (.int i) st = .ok (.int (13 * i)) st := mul_ok (small_mul (by decide) (by decide))
  have hT : (10 : Int) ^ (33 : Int).toNat + 61 ≤ 10 ^ 34 := by decide
  have hT0 : (0 : Int) < 10 ^ (33 : Int).toNat + 61 := by decide
  generalize (10 : Int) ^ (33 : Int).toNat = T at *
  generalize (10 : Int) ^ (18 : Int).toNat = T2 at *
  obtain ⟨env', st', e4, rfl, acc, v, rfl⟩ := forW_ok (chk := (ItW.mk (ns.map W.int) none).Chk) (t := tName 4) (b := sAsg (dOp modW (dApp intOfW (dCons (dOp addW (dOp mulW (dVar 3) (dC (.int 131))) (dVar 4)) dNil)) (dOp addW (dOp powW (dC (.int 10)) (dC (.int 33))) (dC (.int 61)))) (tName 3))
    (fun _ env S => S = st ∧ ∃ (acc : Int) (v : Option W), env = [some (.fro (ns.map W.int)), some (.int i), some (.int x), some (.int acc), v]) (fun _ _ _ _ => by simp) (ns.map W.int) 0 [some (.fro (ns.map W.int)), some (.int i), some (.int x), some (.int 1), none] st
    (fun j w env S hw hI => by
      obtain ⟨rfl, acc, v, rfl⟩ := hI
      obtain ⟨y, _, rfl⟩ := List.mem_map.mp (List.mem_of_getElem? hw)
      refine ⟨_, _, _, _, rfl, ?_, rfl, (acc * 131 + y) % (T + 61), some (.int y), rfl⟩
      simp -implicitDefEqProofs [m1, p33, md]) ⟨rfl, 1, none, rfl⟩
  obtain ⟨mx, hmx⟩ : ∃ q : Int, (if x - T2 > (0 : Int) then x - T2 else 0) = q := ⟨_, rfl⟩
  obtain ⟨ab, hab⟩ : ∃ q : Int, (if x < 0 then -x else x) = q := ⟨_, rfl⟩
  have hmax : maxW [.int 0, .int (x - T2)] st' = .ok (.int mx) st' := by rw [maxW_i, hmx]
  have habs : absW [.int x] st' = .ok (.int ab) st' := by rw [absW_i, hab]
  obtain ⟨c, hc⟩ : ∃ c : Int, c = (acc * 977 + ab + 13 * i) % (T + 61) := ⟨_, rfl⟩
  have c0 : 0 ≤ c := by rw [hc]; exact Int.emod_nonneg _ (by omega)
  have c1 : c < T + 61 := by rw [hc]; exact Int.emod_lt_of_pos _ hT0
  have kl : kLst [.int mx, .int c, .int 0] st' = .ok (.loc st'.length) (st' ++ [.lst [.int mx, .int c, .int 0]]) := lst5 (by simp)
  have hg : gc st' (.loc st'.length) (st' ++ [.lst [.int mx, .int c, .int 0]]) = .ok (.loc st'.length) (st' ++ [.lst [.int mx, .int c, .int 0]]) := gc_newA (Nat.le_refl _) (by simp) rfl
  refine ⟨st' ++ [.lst [.int mx, .int c, .int 0]], ?_, ⟨mx, c, 0, by simp, c0, Int.lt_of_lt_of_le c1 hT, by decide, by decide⟩, by simp⟩
  unfold d__law_pot; rw [fnDen_ap]; unfold b__law_pot
  simp -implicitDefEqProofs only [sSeq_ap, sAsg_ap, dOp_ap, dC_ap, Res.bind_ok, kOp1_ap, dVar_ap, List.map_cons, List.map_nil, List.length_cons, List.length_nil, Nat.reduceAdd, Nat.reduceSub, List.replicate_succ, List.replicate_zero, List.cons_append, List.nil_append, List.getElem?_cons_zero, List.getElem?_cons_succ, m0, addW_i, Res.then_ok, kAsg_n, List.set_cons_succ, List.set_cons_zero, RsS.next_nx, sIf_ap]
  have hx' := hx
  simp -implicitDefEqProofs only [dBool_ap, dOp_ap, dVar_ap, List.getElem?_cons_zero, List.getElem?_cons_succ, Res.bind_ok, kOp1_ap, dApp_ap, dCons_ap, kCons1_ap, dNil_ap, kCons2_ap] at hx' ⊢
  rw [hx']
  simp -implicitDefEqProofs only [sSeq_ap, sAsg_ap, dC_ap, Res.then_ok, kAsg_n, List.set_cons_succ, List.set_cons_zero, RsS.next_nx, sFor_ap, dIt_ap, dVar_ap, List.getElem?_cons_zero, List.getElem?_cons_succ, Res.bind_ok, itOf_fro, kFor]
  rw [e4]
  simp -implicitDefEqProofs only [RsS.next_nx, sRet_ap, dLst_ap, dCons_ap, dApp_ap, dC_ap, Res.bind_ok, kCons1_ap, dOp_ap, dVar_ap, List.getElem?_cons_zero, List.getElem?_cons_succ, kOp1_ap, p18, subW_i, dNil_ap, kCons2_ap, hmax, m2, habs, addW_i, m3, intOf_i, p33, md, ← hc, kl, Res.then_ok, kRet_ap, fnR_rt, hg]
end
end K04
namespace K04
open PySem PySem.Spec PyProof.Rows L2 MP
open Classical
noncomputable section
/-! values of any kind: tuples may hold lists -/
inductive Gd (st : Store) : Nat → W → Prop
  | pu (n : Nat) (w : W) (h : pu w) : Gd st n w
  | ls (n k : Nat) (ws : List W) (h : st[k]? = some (.lst ws)) (hl : ws.length ≤ 8192) (hw : ∀ w ∈ ws, pu w) : Gd st n (.loc k)
  | tp (n : Nat) (ws : List W) (hl : ws.length ≤ 8192) (h : ∀ w ∈ ws, Gd st n w) : Gd st (n + 1) (.tup ws)
section
variable {st : Store} {n : Nat} {w : W} {ws : List W}
theorem Gd.ty (h : Gd st n w) : tyN st w = some (tyU w) := by
  cases h with
  | pu _ _ h => exact (Pic.pu (st := st) _ h).ty
  | ls _ k ws h hl hw => simp only [tyN, h]; rfl
  | tp _ ws hl h => rfl
theorem Gd.str {x : Str} (h : Gd st n (.str x)) : okS x = true := by
  cases h with
  | pu _ _ h => exact h
theorem Gd.mono {m : Nat} (h : Gd st n w) (hm : n ≤ m) : Gd st m w := by
  induction h generalizing m with
  | pu n w h => exact .pu m w h
  | ls n k ws h hl hw => exact .ls m k ws h hl hw
  | tp n ws hl h ih =>
    obtain ⟨m, rfl⟩ : ∃ k, m = k + 1 := ⟨m - 1, by omega⟩
    exact .tp m ws hl fun w hw => ih w hw (by omega)
theorem Gd.items (h : Gd st n (.tup ws)) : ws.length ≤ 8192 ∧ ∀ w ∈ ws, Gd st n w := by
  cases h with
  | pu _ _ h =>
    obtain ⟨hl, hi⟩ := pu_items h
    exact ⟨hl, fun w hw => .pu n w (puB_mono (hi w hw) (by decide))⟩
  | tp _ _ hl h => exact ⟨hl, fun w hw => (h w hw).mono (by omega)⟩
theorem Gd.dat (h : Gd st n w) : ∀ m, 7 + n ≤ m → ∃ d, datF st m w = some d ∧ d.canLay0 = true ∧ d.depth ≤ 7 + n := by
  induction h with
  | pu n w h => exact fun m hm => ⟨_, datF_pu 5 w h m st (by omega), can_pu 5 w h, Nat.le_trans (dep_pu 5 w h) (by omega)⟩
  | ls n k ws h hl hw =>
    intro m hm
    obtain ⟨d1, d2⟩ := (Pic.ls k ws h hl hw).shp
    exact ⟨_, (Pic.ls k ws h hl hw).dat m (by omega), d1, by omega⟩
  | tp n ws hl h ih =>
    intro m hm
    obtain ⟨m, rfl⟩ : ∃ k, m = k + 1 := ⟨m - 1, by omega⟩
    have e : ∀ w ∈ ws, datF st m w = some ((datF st m w).getD .none) := fun w hw => by
      obtain ⟨d, e, _⟩ := ih w hw m (by omega)
      rw [e]; rfl
    have g : ∀ w ∈ ws, ((datF st m w).getD .none).canLay0 = true ∧ ((datF st m w).getD .none).depth ≤ 7 + n := fun w hw => by
      obtain ⟨d, e, h1, h2⟩ := ih w hw m (by omega)
      rw [e]; exact ⟨h1, h2⟩
    refine ⟨.tuple (ws.map fun w => (datF st m w).getD .none), ?_, canAll fun w hw => (g w hw).1, ?_⟩
    · simp only [datF]
      rw [allO_of _ _ ws e]; rfl
    · rw [PyData.depth.eq_2]
      have := depAll (f := fun w => (datF st m w).getD .none) (ws := ws) (n := 7 + n) fun w hw => (g w hw).2
      omega
theorem gd_isS (h : Gd st n w) : isiW [w, .gl (.ty "str")] st = .ok (.bl (isS w)) st := isi_of h.ty (by rw [kB_str]; cases w <;> rfl)
theorem gd_isT (h : Gd st n w) : isiW [w, .gl (.ty "tuple")] st = .ok (.bl (isT w)) st := isi_of h.ty (by rw [kB_tup]; cases w <;> rfl)
def isI : W → Bool | .int _ => true | _ => false
def isB : W → Bool | .bl _ => true | _ => false
theorem gd_isI (h : Gd st n w) : isiW [w, .gl (.ty "int")] st = .ok (.bl (isI w || isB w)) st := isi_of h.ty (by rw [kB_int]; cases w <;> rfl)
theorem gd_isB (h : Gd st n w) : isiW [w, .gl (.ty "bool")] st = .ok (.bl (isB w)) st := isi_of h.ty (by rw [kB_bool]; cases w <;> rfl)
/-- the first one and a text -/
theorem gd_head {s : Str} (h : ∀ w ∈ ws, Gd st n w) (hn : n ≤ 40) (hs : okS s = true) : eqW (.tup (ws.take 1)) (.tup [.str s]) st = .ok (.bl (hdX s ws)) st ∧ neW (.tup (ws.take 1)) (.tup [.str s]) st = .ok (.bl (!hdX s ws)) st := by
  have h2 : pu (.tup [.str s]) := by
    show (decide (1 ≤ 8192) && (okS s && true)) = true
    rw [hs]; rfl
  have e2 : datF st 66 (.tup [.str s]) = some (.tuple [.str s]) := rfl
  have s2 : SeqAt.shaped (.tuple [.str s]) = true := shaped_of ⟨can_pu 5 _ h2, Nat.le_trans (dep_pu 5 _ h2) (by decide)⟩
  cases ws with
  | nil =>
    have e1 : datF st 66 (.tup []) = some (.tuple []) := rfl
    exact ⟨eqW_of e1 e2 rfl s2, neW_of e1 e2 rfl s2⟩
  | cons w r =>
    obtain ⟨d, ed, h3, h4⟩ := (h w List.mem_cons_self).dat 65 (by omega)
    have e1 : datF st 66 (.tup [w]) = some (.tuple [d]) := by
      show (allO [datF st 65 w]).map PyData.tuple = _
      rw [ed]; rfl
    have s1 : SeqAt.shaped (.tuple [d]) = true := shaped_of ⟨canAll (f := fun _ : W => d) (ws := [w]) fun _ _ => h3, by
      rw [PyData.depth.eq_2]
      have := depAll (f := fun _ : W => d) (ws := [w]) (n := 7 + n) fun _ _ => h4
      simp only [List.map_cons, List.map_nil] at this
      omega⟩
    have q : (PyData.tuple [d]).eqv (.tuple [.str s]) = hdX s (w :: r) := by
      rw [PyData.eqv.eq_8, PyData.eqvAll.eq_2, PyData.eqvAll.eq_1, Bool.and_true]
      have hw := h w List.mem_cons_self
      cases w with
      | str x => cases ed; rw [PyData.eqv.eq_6]; rfl
      | non => cases ed; rfl
      | bl _ => cases ed; rfl
      | int _ => cases ed; rfl
      | tup us =>
        simp only [datF, Option.map_eq_some_iff] at ed
        obtain ⟨l, _, rfl⟩ := ed
        rfl
      | loc k =>
        simp only [datF] at ed
        split at ed
        · simp only [Option.map_eq_some_iff] at ed
          obtain ⟨l, _, rfl⟩ := ed
          rfl
        · cases ed
      | fro us =>
        simp only [datF, Option.map_eq_some_iff] at ed
        obtain ⟨l, _, rfl⟩ := ed
        rfl
      | gl _ => simp [datF] at ed
      | rng _ _ => simp [datF] at ed
    have E1 := eqW_of e1 e2 s1 s2
    have E2 := neW_of e1 e2 s1 s2
    rw [q] at E1 E2
    exact ⟨E1, E2⟩
end
end
end K04
namespace K04
open PySem PySem.Spec PyProof.Rows L2 MP
open Classical
noncomputable section
section
variable {st : Store} {n : Nat} {w : W} {ws : List W}
theorem gd_drop (h : Gd st n (.tup ws)) (k : Nat) : Gd st (n + 1) (.tup (ws.drop k)) := by
  obtain ⟨hl, hi⟩ := h.items
  exact .tp n _ (by rw [List.length_drop]; omega) fun w hw => hi w (List.mem_of_mem_drop hw)
theorem askedG (h : Gd st n w) : d_is_asked [w] st = .ok (.bl (askB w)) st := by
  unfold d_is_asked; rw [fnDen_ap]; unfold b_is_asked
  cases w with
  | tup ws =>
    obtain ⟨hl, hi⟩ := h.items
    have kl := kLc_mapB (env := [some (.tup ws), none]) (i := 1) (e := dAndV (dApp isiW (dCons (dVar 1) (dCons (dC (.gl (.ty "str"))) dNil))) (dCall 1 d__is_plain (dCons (dVar 1) dNil))) (st := st) (src := none) (fun w : W => w) (fun w => W.bl (plS w)) ws (by simp) (fun b hb => by
      have hp := hi b hb
      simp [gd_isS hp]
      cases b with
      | str x => simp [isS, plain_ok (x := x) hp.str, plS]
      | _ => simp [isS, plS]) (Nat.le_trans hl (by decide))
    have hal := all_here (st := st) (l := ws) (g := plS)
    rw [List.map_id'] at kl
    simp [gd_isT h, isT, wipeW, kl, hal]
    rfl
  | _ => simp [gd_isT h, isT, askB]
theorem nameG (h : Gd st n w) (hn : n ≤ 30) : d_is_name [w] st = .ok (.bl (nameB w)) st := by
  unfold d_is_name; rw [fnDen_ap]; unfold b_is_name
  cases w with
  | tup ws =>
    obtain ⟨hl, hi⟩ := h.items
    have hh : eqW (.tup (ws.take 1)) (.tup [.str c_WILD]) st = .ok (.bl (hdS ws)) st := by
      rw [(gd_head hi (by omega) ok_wild).1]; congr 2
    have a1 := askedG (gd_drop h 1)
    have a2 := askedG h
    have hnm : nameB (.tup ws) = (if hdS ws = true then ws.drop 1 else ws).all plS := rfl
    rw [hnm]
    simp [-List.drop_one, gd_isT h, isT, tup_one, hh]
    cases hdS ws with
    | true => simp [-List.drop_one, a1]; rfl
    | false => simp [-List.drop_one, a2]; rfl
  | _ => simp [gd_isT h, isT, nameB]
theorem labelG (h : Gd st n w) : d__law_is_label [w] st = .ok (.bl (labB w)) st := by
  cases w with
  | str x => exact law_label_ok (.pu _ h.str)
  | _ =>
    unfold d__law_is_label; rw [fnDen_ap]; unfold b__law_is_label
    simp [gd_isS h, isS, labB]
theorem lawnameG (h : Gd st n w) : d__law_is_name [w] st = .ok (.bl (nameB w)) st := by
  cases w with
  | tup ws =>
    obtain ⟨hl, hi⟩ := h.items
    by_cases hA : ws.all labB = true
    · have hp : pu (.tup ws) := by
        obtain ⟨xs, rfl⟩ := labs_strs hA
        show (decide ((xs.map W.str).length ≤ 8192) && (xs.map W.str).all (puB 4)) = true
        rw [Bool.and_eq_true, decide_eq_true_iff, List.all_eq_true]
        exact ⟨hl, fun a ha => by
          obtain ⟨x, hx, rfl⟩ := List.mem_map.mp ha
          exact (hi _ ha).str⟩
      exact law_name_ok (.pu _ hp)
    · have hA : ws.all labB = false := by simpa using hA
      unfold d__law_is_name; rw [fnDen_ap]; unfold b__law_is_name
      have kl := kLc_mapB (env := [some (.tup ws), none, none]) (i := 2) (e := dCall 1 d__law_is_label (dCons (dVar 2) dNil)) (st := st) (src := none) (fun w : W => w) (fun w => W.bl (labB w)) ws (by simp) (fun b hb => by
        simp [labelG (hi b hb)]) (Nat.le_trans hl (by decide))
      have hal := all_here (st := st) (l := ws) (g := labB)
      rw [List.map_id'] at kl
      rw [hA] at hal
      have hf : nameB (.tup ws) = false := by
        show (if hdS ws = true then ws.drop 1 else ws).all plS = false
        rw [Bool.eq_false_iff] at hA ⊢
        intro hn
        apply hA
        have pl : ∀ w, plS w = true → labB w = true := fun w hw => by
          cases w with
          | str x => show (x == ("*" : Str) || plainB x) = true; rw [show plainB x = true from hw]; simp
          | _ => exact nomatch (show false = true from hw)
        cases ws with
        | nil => rfl
        | cons w r =>
          rw [List.all_eq_true] at hn ⊢
          by_cases hh : hdS (w :: r) = true
          · rw [if_pos hh] at hn
            intro a ha
            rcases List.mem_cons.mp ha with rfl | ha
            · cases a with
              | str x => show (x == ("*" : Str) || plainB x) = true; rw [show (x == ("*" : Str)) = true from hh]; rfl
              | _ => exact nomatch (show false = true from hh)
            · exact pl a (hn a (by simpa using ha))
          · rw [if_neg hh] at hn
            exact fun a ha => pl a (hn a ha)
      rw [hf]
      simp [gd_isT h, isT, wipeW, kl, hal]
  | _ =>
    unfold d__law_is_name; rw [fnDen_ap]; unfold b__law_is_name
    simp [gd_isT h, isT, nameB]
theorem star_ask (ws : List W) : (nameB (.tup ws) && !hdX "*" ws) = askB (.tup ws) := by
  show ((if hdS ws = true then ws.drop 1 else ws).all plS && !hdX "*" ws) = ws.all plS
  have e : hdX "*" ws = hdS ws := by
    cases ws with
    | nil => rfl
    | cons w r => cases w <;> rfl
  rw [e]
  cases hh : hdS ws with
  | false => simp
  | true =>
    rw [if_pos rfl, Bool.not_true, Bool.and_false]
    cases ws with
    | nil => exact nomatch (show false = true from hh)
    | cons w r =>
      cases w with
      | str x =>
        have hx : (x == ("*" : Str)) = true := hh
        have : x = ("*" : Str) := by simpa using hx
        subst this
        rw [List.all_cons, show plS (.str "*") = false from star_plain]; rfl
      | _ => exact nomatch (show false = true from hh)
theorem lawaskedG (h : Gd st n w) (hn : n ≤ 30) : d__law_asked [w] st = .ok (.bl (askB w)) st := by
  unfold d__law_asked; rw [fnDen_ap]; unfold b__law_asked
  cases w with
  | tup ws =>
    obtain ⟨hl, hi⟩ := h.items
    have hh := (gd_head (s := "*") hi (by omega) ok_star).2
    rw [← star_ask]
    cases q : nameB (.tup ws) <;> simp [lawnameG h, q, tup_one, hh]
  | _ => simp [lawnameG h, nameB, askB]
end
end
end K04
namespace K04
open PySem PySem.Spec PyProof.Rows L2 MP
open Classical
noncomputable section
def rangeB (lo hi : Int) : W → Bool
  | .int z => decide (lo ≤ z) && decide (z ≤ hi)
  | _ => false
section
variable {st : Store} {n : Nat} {w : W} {ws : List W}
theorem wholeG (h : Gd st n w) : d_is_whole [w] st = .ok (.bl (isI w)) st := by
  have h1 := gd_isI h
  have h2 := gd_isB h
  unfold d_is_whole; rw [fnDen_ap]; unfold b_is_whole
  cases w <;> simp -implicitDefEqProofs [h1, h2, isI, isB]
theorem betweenG {lo hi : Int} (h : Gd st n w) : d_is_between [w, .int lo, .int hi] st = .ok (.bl (rangeB lo hi w)) st := by
  have h1 := wholeG h
  unfold d_is_between; rw [fnDen_ap]; unfold b_is_between
  cases w with
  | int z =>
    have e : rangeB lo hi (.int z) = (decide (lo ≤ z) && decide (z ≤ hi)) := rfl
    rw [e]
    cases q : decide (lo ≤ z) <;> simp -implicitDefEqProofs [h1, isI, q]
  | _ => simp -implicitDefEqProofs [h1, isI, rangeB]
theorem lawinG {m : Int} (h : Gd st n w) : d__law_in [w, .int m] st = .ok (.bl (rangeB 0 (m - 1) w)) st := by
  have h1 := gd_isI h
  have h2 := gd_isB h
  unfold d__law_in; rw [fnDen_ap]; unfold b__law_in
  cases w with
  | int z =>
    have e : rangeB 0 (m - 1) (.int z) = (decide (0 ≤ z) && decide (z < m)) := by
      show (decide (0 ≤ z) && decide (z ≤ m - 1)) = _
      congr 1
      rw [Bool.eq_iff_iff, decide_eq_true_iff, decide_eq_true_iff]; omega
    rw [e]
    cases q : decide (0 ≤ z) <;> simp -implicitDefEqProofs [h1, h2, isI, isB, q]
  | bl b => simp -implicitDefEqProofs [h1, h2, isI, isB, rangeB]
  | _ => simp -implicitDefEqProofs [h1, h2, isI, isB, rangeB]
/-! kinds -/
theorem in_strs {neg : Bool} {x : Str} {xs : List Str} : inW neg (.str x) (.tup (xs.map W.str)) st = .ok (.bl (if neg then !decide (x ∈ xs) else decide (x ∈ xs))) st := by
  unfold inW inB
  have e : allO ((xs.map W.str).map flV) = some (xs.map V.str) := by
    rw [List.map_map]; exact allO_of _ V.str xs fun _ _ => rfl
  have s : seqW st (.tup (xs.map W.str)) = some (xs.map W.str) := rfl
  simp only [s, flV, e]
  have : inV (V.str x) (xs.map V.str) = decide (x ∈ xs) := by
    unfold inV
    rw [List.any_map, Bool.eq_iff_iff, List.any_eq_true, decide_eq_true_iff]
    constructor
    · rintro ⟨y, hy, e⟩
      have : y = x := by simpa [L2.eqV] using e
      rw [← this]; exact hy
    · exact fun h => ⟨x, h, by simp [L2.eqV]⟩
  rw [this]
def kindB : W → Bool
  | .str x => decide (x ∈ c_KINDS)
  | _ => false
theorem kindG (h : Gd st n w) : d_is_kind [w] st = .ok (.bl (kindB w)) st := by
  have h1 := gd_isS h
  unfold d_is_kind; rw [fnDen_ap]; unfold b_is_kind
  cases w with
  | str x => simp -implicitDefEqProofs [h1, isS, kindB, in_strs]
  | _ => simp -implicitDefEqProofs [h1, isS, kindB]
theorem kinds_are {k : Str} (h : k ∈ c_KINDS) : k = "addr" ∨ k = "alias" ∨ k = "back" ∨ k = "mail" ∨ k = "server" ∨ k = "start" ∨ k = "text" ∨ k = "tree" := by
  unfold c_KINDS at h
  simpa using h
theorem ok_kind {k : Str} (h : k ∈ c_KINDS) : okS k = true := by
  rcases kinds_are h with rfl | rfl | rfl | rfl | rfl | rfl | rfl | rfl <;> decide +kernel
theorem checkG {k : Str} (h : k ∈ c_KINDS) : d_check_kind [.str k] st = .ok .non st := by
  have h1 := kindG (st := st) (n := 0) (.pu _ (.str k) (ok_kind h))
  rw [show kindB (.str k) = true from decide_eq_true h] at h1
  unfold d_check_kind; rw [fnDen_ap]; unfold b_check_kind
  simp -implicitDefEqProofs [h1]
theorem eqK {a b : Str} (ha : a ∈ c_KINDS) (hb : b ∈ c_KINDS) : eqW (.str a) (.str b) st = .ok (.bl (decide (a = b))) st := by
  rw [eqW_str (ok_kind ha) (ok_kind hb)]
  congr 2
/-! texts -/
def signB (c : Nat) : Bool := decide (32 ≤ c) && (decide (c ≤ 126) && !(c == 37))
def textB : W → Bool
  | .str x => decide (x.length ≤ 60) && x.cps.toList.all signB
  | _ => false
theorem one_lt (a b : Nat) : decide (([a] : List Nat) < [b]) = decide (a < b) := by
  rw [Bool.eq_iff_iff, decide_eq_true_iff, decide_eq_true_iff]
  constructor
  · intro h
    cases h with
    | rel h => exact h
    | cons h => cases h
  · exact fun h => .rel h
theorem le_lo {c : Nat} : leW (.str " ") (.str ⟨#[c]⟩) st = .ok (.bl (decide (32 ≤ c))) st := by
  show (Res.ok (W.bl (!decide (([c] : List Nat) < [32]))) st : Res W) = _
  rw [one_lt]
  congr 2
  rw [Bool.eq_iff_iff, Bool.not_eq_true', decide_eq_false_iff_not, decide_eq_true_iff]; omega
theorem le_hi {c : Nat} : leW (.str ⟨#[c]⟩) (.str "~") st = .ok (.bl (decide (c ≤ 126))) st := by
  show (Res.ok (W.bl (!decide (([126] : List Nat) < [c]))) st : Res W) = _
  rw [one_lt]
  congr 2
  rw [Bool.eq_iff_iff, Bool.not_eq_true', decide_eq_false_iff_not, decide_eq_true_iff]; omega
theorem ord1 {c : Nat} : ordFW [.str ⟨#[c]⟩] st = .ok (.int (c : Int)) st := rfl
theorem textG (h : Gd st n w) : d__is_text [w] st = .ok (.bl (textB w)) st := by
  have h1 := gd_isS h
  unfold d__is_text; rw [fnDen_ap]; unfold b__is_text
  cases w with
  | str x =>
    have hL := okS.line h.str
    have kl := kLc_mapB (env := [some (.str x), none]) (i := 1) (e := (dAndV (dChain leW leW (dC (.str " ")) (dVar 1) (dC (.str "~"))) (dOp neW (dApp ordFW (dCons (dVar 1) dNil)) (dC (.int 37))))) (st := st) (src := none) (fun c : Nat => W.str ⟨#[c]⟩) (fun c => W.bl (signB c)) x.cps.toList (by simp) (fun b _ => by
      have e : signB b = (decide (32 ≤ b) && (decide (b ≤ 126) && !((b : Int) == 37))) := by
        show (decide (32 ≤ b) && (decide (b ≤ 126) && !(b == 37))) = _
        congr 3
        rw [Bool.eq_iff_iff, beq_iff_eq, beq_iff_eq]; omega
      rw [e]
      cases q1 : decide (32 ≤ b) <;> cases q2 : decide (b ≤ 126) <;> simp -implicitDefEqProofs [-Bool.decide_eq_true, le_lo, le_hi, q1, q2, ord1]) (by rw [show x.cps.toList.length = x.length by simp [Str.length]]; exact hL)
    have hal := all_here (st := st) (l := x.cps.toList) (g := signB)
    have et : textB (.str x) = (decide (x.length ≤ 60) && x.cps.toList.all signB) := rfl
    rw [et]
    simp only [Array.all_toList] at *
    generalize (List.map (fun c => W.bl (signB c)) x.cps.toList) = LL at kl hal
    generalize x.cps.all signB = A at hal ⊢
    by_cases q : x.length ≤ 60
    · have l2 : (decide ((60 : Int) < (x.length : Int))) = false := decide_eq_false (by omega)
      simp -implicitDefEqProofs [h1, isS, len_str hL, l2, q, wipeW]
      unfold MP.signs
      rw [kl]
      simp -implicitDefEqProofs [hal]
    · have l2 : (decide ((60 : Int) < (x.length : Int))) = true := decide_eq_true (by omega)
      simp -implicitDefEqProofs [h1, isS, len_str hL, l2, q]
  | _ => simp -implicitDefEqProofs [h1, isS, textB]
end
end
end K04
namespace K04
open PySem PySem.Spec PyProof.Rows L2 MP
open Classical
noncomputable section
@[simp] theorem kCall_3 (den : List W → Store → Res W) {a b c : W} {st : Store} : kCall 3 den [a, b, c] st = den [a, b, c] st := rfl
@[simp] theorem kCall_4 (den : List W → Store → Res W) {a b c d : W} {st : Store} : kCall 4 den [a, b, c, d] st = den [a, b, c, d] st := rfl
def mailB : W → Bool
  | .tup [a, b] => rangeB 0 65535 a && askB b
  | _ => false
def startB : W → Bool
  | .tup [a, b, c, d, e, f] => askB a && (rangeB 0 4294967295 b && [c, d, e, f].all (rangeB 0 2147483647))
  | _ => false
def dataB (k : Str) (w : W) : Bool :=
  if k = "addr" then rangeB 0 4294967295 w
  else if k ∈ c_NAMING then askB w
  else if k = "mail" then mailB w
  else if k = "start" then startB w
  else textB w
section
variable {st : Store} {n : Nat} {w : W} {ws : List W}
theorem len_tup : lenW [.tup ws] st = .ok (.int (ws.length : Int)) st := len_seq rfl
theorem ix_t {j : Nat} {v : W} (h : ws[j]? = some v) : ixW (.tup ws) (.int (j : Int)) st = .ok v st := by
  have hj := (List.getElem?_eq_some_iff.mp h).1
  unfold ixW
  have s : seqW st (.tup ws) = some ws := rfl
  simp only [s]
  rw [atI_nat hj, h]
theorem mailG (h : Gd st n w) : d__is_mail [w] st = .ok (.bl (mailB w)) st := by
  unfold d__is_mail; rw [fnDen_ap]; unfold b__is_mail
  cases w with
  | tup ws =>
    obtain ⟨_, hi⟩ := h.items
    have ln := len_tup (ws := ws) (st := st)
    match ws, hi, ln, h with
    | [a, b], hi, ln, h =>
      have i0 : ixW (.tup [a, b]) (.int 0) st = .ok a st := ix_t (j := 0) rfl
      have i1 : ixW (.tup [a, b]) (.int 1) st = .ok b st := ix_t (j := 1) rfl
      have b0 := betweenG (lo := 0) (hi := 65535) (hi a (by simp))
      have b1 := askedG (hi b (by simp))
      have e : mailB (.tup [a, b]) = (rangeB 0 65535 a && askB b) := rfl
      rw [e]
      cases q : rangeB 0 65535 a <;> simp -implicitDefEqProofs [gd_isT h, isT, ln, i0, i1, b0, b1, q]
    | [], hi, ln, h => simp -implicitDefEqProofs [gd_isT h, isT, ln, mailB]
    | [a], hi, ln, h => simp -implicitDefEqProofs [gd_isT h, isT, ln, mailB]
    | a :: b :: c :: r, hi, ln, h =>
      have q : (((a :: b :: c :: r).length : Int) == 2) = false := beq_false_of_ne (by simp only [List.length_cons]; omega)
      have e : mailB (.tup (a :: b :: c :: r)) = false := rfl
      generalize ((a :: b :: c :: r).length : Int) = N at *
      simp -implicitDefEqProofs [gd_isT h, isT, ln, q, e]
  | _ => simp -implicitDefEqProofs [gd_isT h, isT, mailB]
theorem startG (h : Gd st n w) : d__is_start [w] st = .ok (.bl (startB w)) st := by
  unfold d__is_start; rw [fnDen_ap]; unfold b__is_start
  cases w with
  | tup ws =>
    obtain ⟨_, hi⟩ := h.items
    have ln := len_tup (ws := ws) (st := st)
    by_cases hl : ws.length = 6
    · match ws, hl, hi, ln, h with
      | [a, b, c, d, e, f], _, hi, ln, h =>
        have i0 : ixW (.tup [a, b, c, d, e, f]) (.int 0) st = .ok a st := ix_t (j := 0) rfl
        have i1 : ixW (.tup [a, b, c, d, e, f]) (.int 1) st = .ok b st := ix_t (j := 1) rfl
        have b0 := askedG (hi a (by simp))
        have b1 := betweenG (lo := 0) (hi := 4294967295) (hi b (by simp))
        have sl : slW (.tup [a, b, c, d, e, f]) (some 2) none st = .ok (.tup [c, d, e, f]) st := by
          show Res.ok (W.tup (cutW [a, b, c, d, e, f] (some ((2 : Nat) : Int)) none)) st = _
          rw [cut_from]; rfl
        have kl := kLc_mapB (env := [some (.tup [a, b, c, d, e, f]), none]) (i := 1) (e := (dCall 3 d_is_between (dCons (dVar 1) (dCons (dC (.int 0)) (dCons (dC (.int 2147483647)) dNil))))) (st := st) (src := none) (fun w : W => w) (fun w => W.bl (rangeB 0 2147483647 w)) [c, d, e, f] (by simp) (fun v hv => by
          have b2 := betweenG (lo := 0) (hi := 2147483647) (hi v (by simp at hv ⊢; rcases hv with rfl | rfl | rfl | rfl <;> simp))
          simp -implicitDefEqProofs [b2]) (show (4 : Nat) ≤ sizeLine by decide)
        have hal := all_here (st := st) (l := [c, d, e, f]) (g := rangeB 0 2147483647)
        rw [List.map_id'] at kl
        have et : startB (.tup [a, b, c, d, e, f]) = (askB a && (rangeB 0 4294967295 b && [c, d, e, f].all (rangeB 0 2147483647))) := rfl
        rw [et]
        generalize [c, d, e, f].all (rangeB 0 2147483647) = A at hal ⊢
        generalize List.map (fun w => W.bl (rangeB 0 2147483647 w)) [c, d, e, f] = LL at kl hal
        cases q1 : askB a <;> cases q2 : rangeB 0 4294967295 b <;> simp -implicitDefEqProofs [gd_isT h, isT, ln, i0, i1, b0, b1, q1, q2, sl, wipeW, kl, hal]
    · have q : ((ws.length : Int) == 6) = false := beq_false_of_ne (by omega)
      have e : startB (.tup ws) = false := by
        match ws, hl with
        | [], _ => rfl
        | [_], _ => rfl
        | [_, _], _ => rfl
        | [_, _, _], _ => rfl
        | [_, _, _, _], _ => rfl
        | [_, _, _, _, _], _ => rfl
        | [_, _, _, _, _, _], hl => exact absurd rfl hl
        | _ :: _ :: _ :: _ :: _ :: _ :: _ :: _, _ => rfl
      generalize (ws.length : Int) = N at *
      simp -implicitDefEqProofs [gd_isT h, isT, ln, q, e]
  | _ => simp -implicitDefEqProofs [gd_isT h, isT, startB]
end
end
end K04
namespace K04
open PySem PySem.Spec PyProof.Rows L2 MP
open Classical
noncomputable section
theorem kAddr : ("addr" : Str) ∈ c_KINDS := by unfold c_KINDS; simp
theorem kMail : ("mail" : Str) ∈ c_KINDS := by unfold c_KINDS; simp
theorem kStart : ("start" : Str) ∈ c_KINDS := by unfold c_KINDS; simp
theorem kText : ("text" : Str) ∈ c_KINDS := by unfold c_KINDS; simp
section
variable {st : Store} {n : Nat} {w : W} {ws : List W} {k : Str}
theorem dataG (hk : k ∈ c_KINDS) (h : Gd st n w) : d_is_data [.str k, w] st = .ok (.bl (dataB k w)) st := by
  have a0 := checkG (st := st) hk
  have a1 := eqK (st := st) hk kAddr
  have a2 := in_strs (st := st) (neg := false) (x := k) (xs := c_NAMING)
  have a3 := eqK (st := st) hk kMail
  have a4 := eqK (st := st) hk kStart
  have b1 := betweenG (lo := 0) (hi := 4294967295) h
  have b2 := askedG h
  have b3 := mailG h
  have b4 := startG h
  have b5 := textG h
  unfold d_is_data; rw [fnDen_ap]; unfold b_is_data dataB
  by_cases q1 : k = "addr"
  · rw [if_pos q1]
    rw [decide_eq_true q1] at a1
    simp -implicitDefEqProofs [a0, a1, b1]
  · rw [if_neg q1]
    rw [decide_eq_false q1] at a1
    by_cases q2 : k ∈ c_NAMING
    · rw [if_pos q2]
      rw [decide_eq_true q2] at a2
      simp -implicitDefEqProofs [a0, a1, a2, b2]
    · rw [if_neg q2]
      rw [decide_eq_false q2] at a2
      by_cases q3 : k = "mail"
      · rw [if_pos q3]
        rw [decide_eq_true q3] at a3
        simp -implicitDefEqProofs [a0, a1, a2, a3, b3]
      · rw [if_neg q3]
        rw [decide_eq_false q3] at a3
        by_cases q4 : k = "start"
        · rw [if_pos q4]
          rw [decide_eq_true q4] at a4
          simp -implicitDefEqProofs [a0, a1, a2, a3, a4, b4]
        · rw [if_neg q4]
          rw [decide_eq_false q4] at a4
          simp -implicitDefEqProofs [a0, a1, a2, a3, a4, b5]
theorem ktN : kTup [.str "alias", .str "back", .str "server", .str "tree"] st = .ok (.tup (c_NAMING.map W.str)) st := ten (by simp)
theorem p16 : powW (.int 2) (.int 16) st = .ok (.int 65536) st := pow_okQ ⟨by decide, by
  have : (Builtin.Int.intBits 2 : Int) = 2 := by decide +kernel
  rw [this]; decide⟩
theorem p31 : powW (.int 2) (.int 31) st = .ok (.int 2147483648) st := pow_okQ ⟨by decide, by
  have : (Builtin.Int.intBits 2 : Int) = 2 := by decide +kernel
  rw [this]; decide⟩
theorem p32 : powW (.int 2) (.int 32) st = .ok (.int 4294967296) st := pow_okQ ⟨by decide, by
  have : (Builtin.Int.intBits 2 : Int) = 2 := by decide +kernel
  rw [this]; decide⟩
theorem text_law (h : Gd st n w) : ∃ (env' : EnvW) (g : Store), (sSeq (sAsg (dAndV (dApp isiW (dCons (dVar 1) (dCons (dC (.gl (.ty "str"))) dNil))) (dOp leW (dApp lenW (dCons (dVar 1) dNil)) (dC (.int 60)))) (tName 3))
    (sRet (dAndV (dVar 3) (dApp allW (dCons (dLc (dIt (dVar 1)) [5] (tName 5) dYes (dAndV (dChain leW leW (dC (.int 32)) (dApp ordFW (dCons (dVar 5) dNil)) (dC (.int 126))) (dOp neW (dApp ordFW (dCons (dVar 5) dNil)) (dC (.int 37))))) dNil))))) [some (.str k), some w, none, none, none, none] st = .go (.rt (.bl (textB w))) env' (st ++ g) := by
  have h1 := gd_isS h
  by_cases hs : isS w = true
  case neg =>
    have hs : isS w = false := by simpa using hs
    have tb : textB w = false := by cases w <;> first | rfl | exact nomatch hs
    refine ⟨[some (.str k), some w, none, some (.bl false), none, none], [], ?_⟩
    rw [List.append_nil, tb]
    simp -implicitDefEqProofs [h1, hs]
  case pos =>
    obtain ⟨x, rfl⟩ : ∃ x, w = .str x := by cases w <;> first | exact ⟨_, rfl⟩ | exact nomatch hs
    have hL := okS.line h.str
    have kl := kLc_mapB (env := [some (.str k), some (.str x), none, some (.bl true), none, none]) (i := 5) (e := (dAndV (dChain leW leW (dC (.int 32)) (dApp ordFW (dCons (dVar 5) dNil)) (dC (.int 126))) (dOp neW (dApp ordFW (dCons (dVar 5) dNil)) (dC (.int 37))))) (st := st) (src := none) (fun c : Nat => W.str ⟨#[c]⟩) (fun c => W.bl (signB c)) x.cps.toList (by simp) (fun b _ => by
      have e : signB b = (decide ((32 : Int) ≤ (b : Int)) && (decide ((b : Int) ≤ 126) && !((b : Int) == 37))) := by
        show (decide (32 ≤ b) && (decide (b ≤ 126) && !(b == 37))) = _
        have e1 : decide (32 ≤ b) = decide ((32 : Int) ≤ (b : Int)) := by rw [Bool.eq_iff_iff, decide_eq_true_iff, decide_eq_true_iff]; omega
        have e2 : decide (b ≤ 126) = decide ((b : Int) ≤ 126) := by rw [Bool.eq_iff_iff, decide_eq_true_iff, decide_eq_true_iff]; omega
        have e3 : (b == 37) = ((b : Int) == 37) := by rw [Bool.eq_iff_iff, beq_iff_eq, beq_iff_eq]; omega
        rw [e1, e2, e3]
      rw [e]
      have o := fun T : Store => ord1 (st := T) (c := b)
      generalize (b : Int) = B at *
      simp -implicitDefEqProofs only [dAndV_ap, dChain_ap, dC_ap, dApp_ap, dCons_ap, dVar_ap, dNil_ap, dOp_ap, List.set_cons_succ, List.set_cons_zero, List.getElem?_cons_zero, List.getElem?_cons_succ, Res.bind_ok, kCh1_ap, kCons1_ap, kCons2_ap, o, kCh2_ap, leW_i, kOp1_ap, neW_i]
      cases q1 : decide (32 ≤ B) <;> cases q2 : decide (B ≤ 126) <;> simp -implicitDefEqProofs only [Res.bind_ok, kCh3_t, kCh3_f, dC_ap, leW_i, q2, kAndV_t, kAndV_f, dOp_ap, dApp_ap, dCons_ap, dVar_ap, dNil_ap, List.getElem?_cons_zero, List.getElem?_cons_succ, kCons1_ap, kCons2_ap, o, kOp1_ap, neW_i, Bool.true_and, Bool.false_and]) (by rw [show x.cps.toList.length = x.length by simp [Str.length]]; exact hL)
    have hal := all_here (st := st) (l := x.cps.toList) (g := signB)
    have et : textB (.str x) = (decide (x.length ≤ 60) && x.cps.toList.all signB) := rfl
    rw [et]
    simp only [Array.all_toList] at *
    generalize (List.map (fun c => W.bl (signB c)) x.cps.toList) = LL at kl hal ⊢
    generalize x.cps.all signB = A at hal ⊢
    by_cases q : x.length ≤ 60
    · have l2 : (decide ((x.length : Int) ≤ 60)) = true := decide_eq_true (by omega)
      rw [decide_eq_true q]
      refine ⟨[some (.str k), some (.str x), none, some (.bl true), none, none], [.lst LL], ?_⟩
      simp -implicitDefEqProofs only [sSeq_ap, sAsg_ap, dAndV_ap, dApp_ap, dCons_ap, dVar_ap, dC_ap, dNil_ap, List.getElem?_cons_zero, List.getElem?_cons_succ, Res.bind_ok, kCons1_ap, kCons2_ap, h1, isS, kAndV_t, dOp_ap, kOp1_ap, len_str hL, leW_i, l2, Res.then_ok, kAsg_n, List.set_cons_succ, List.set_cons_zero, RsS.next_nx, sRet_ap, dLc_ap, dIt_ap, itOf_str, wipeW]
      unfold MP.signs
      rw [kl]
      simp -implicitDefEqProofs only [Res.bind_ok, kCons1_ap, dNil_ap, kCons2_ap, hal, Res.then_ok, kRet_ap, Bool.true_and]
    · have l2 : (decide ((x.length : Int) ≤ 60)) = false := decide_eq_false (by omega)
      rw [decide_eq_false q]
      refine ⟨[some (.str k), some (.str x), none, some (.bl false), none, none], [], ?_⟩
      rw [List.append_nil]
      simp -implicitDefEqProofs [h1, isS, len_str hL, l2]
end
end
end K04
namespace K04
open PySem PySem.Spec PyProof.Rows L2 MP
open Classical
noncomputable section
section
variable {st : Store} {n : Nat} {w : W} {ws : List W} {k : Str}
theorem Gd.app {v : W} (g : Store) (h : Gd st n v) : Gd (st ++ g) n v := by
  induction h with
  | pu n w h => exact .pu n w h
  | ls n k ws h hl hw => exact .ls n k ws (get_app _ h) hl hw
  | tp n ws hl h ih => exact .tp n ws hl fun w hw => ih w hw
theorem seq_go {a b : DS} {env env' : EnvW} {st st' : Store} {r : RsS} (h : a env st = .go .nx env' st') (h2 : b env' st' = r) : sSeq a b env st = r := by
  rw [sSeq_ap, h, RsS.next_nx]; exact h2
theorem seq_rt {a b : DS} {env env' : EnvW} {st st' : Store} {v : W} (h : a env st = .go (.rt v) env' st') : sSeq a b env st = .go (.rt v) env' st' := by
  rw [sSeq_ap, h]; rfl
theorem gc_flags {b : Bool} {g : Store} : gc st (.bl b) (st ++ g) = .ok (.bl b) st := gc_app rfl
theorem law_mail (h : Gd st n (.tup ws)) (h2 : ws.length = 2) : dAndV (dCall 2 d__law_in (dCons (dOp ixW (dVar 1) (dC (.int 0))) (dCons (dOp powW (dC (.int 2)) (dC (.int 16))) dNil))) (dCall 1 d__law_asked (dCons (dOp ixW (dVar 1) (dC (.int 1))) dNil)) [some (.str k), some (.tup ws), none, none, none, none] st = .ok (.bl (mailB (.tup ws))) st ∨ ¬ n ≤ 30 := by
  by_cases hn : n ≤ 30
  · obtain ⟨_, hi⟩ := h.items
    match ws, h2, hi with
    | [a, b], _, hi =>
      have i0 : ixW (.tup [a, b]) (.int 0) st = .ok a st := ix_t (j := 0) rfl
      have i1 : ixW (.tup [a, b]) (.int 1) st = .ok b st := ix_t (j := 1) rfl
      have b0 := lawinG (m := 65536) (hi a (by simp))
      have b1 := lawaskedG (hi b (by simp)) hn
      have e : mailB (.tup [a, b]) = (rangeB 0 (65536 - 1) a && askB b) := rfl
      refine .inl ?_
      rw [e]
      cases q : rangeB 0 (65536 - 1) a <;> simp -implicitDefEqProofs only [dAndV_ap, dCall_ap, dCons_ap, dOp_ap, dVar_ap, dC_ap, dNil_ap, List.getElem?_cons_zero, List.getElem?_cons_succ, Res.bind_ok, kCons1_ap, kCons2_ap, kOp1_ap, kCall_1, kCall_2, i0, i1, p16, b0, b1, q, kAndV_t, kAndV_f, Bool.true_and, Bool.false_and]
  · exact .inr hn
theorem law_start (h : Gd st n (.tup ws)) (h2 : ws.length = 6) (hn : n ≤ 30) : (sSeq (sAsg (dApp allW (dCons (dLc (dRange2 (dCons (dC (.int 2)) (dCons (dC (.int 6)) dNil))) [4] (tName 4) dYes (dCall 2 d__law_in (dCons (dOp ixW (dVar 1) (dVar 4)) (dCons (dOp powW (dC (.int 2)) (dC (.int 31))) dNil)))) dNil)) (tName 2))
    (sRet (dAndV (dCall 1 d__law_asked (dCons (dOp ixW (dVar 1) (dC (.int 0))) dNil)) (dAndV (dCall 2 d__law_in (dCons (dOp ixW (dVar 1) (dC (.int 1))) (dCons (dOp powW (dC (.int 2)) (dC (.int 32))) dNil))) (dVar 2))))) [some (.str k), some (.tup ws), none, none, none, none] st = .go (.rt (.bl (startB (.tup ws)))) [some (.str k), some (.tup ws), some (.bl ((List.range 4).all fun i => rangeB 0 2147483647 (ws.getD (2 + i) .non))), none, none, none] (st ++ [.lst ((List.range 4).map fun i => W.bl (rangeB 0 2147483647 (ws.getD (2 + i) .non)))]) := by
  obtain ⟨_, hi⟩ := h.items
  have hr := kR2_ok (st := st) (i := 2) (j := 6) (by decide) (by decide) (by decide) (by decide)
  have hz : intsW 2 ((6 : Int) - 2).toNat = (List.range 4).map (fun i : Nat => W.int (2 + (i : Nat))) := rfl
  rw [hz] at hr
  have kl := kLc_mapB (env := [some (.str k), some (.tup ws), none, none, none, none]) (i := 4) (e := (dCall 2 d__law_in (dCons (dOp ixW (dVar 1) (dVar 4)) (dCons (dOp powW (dC (.int 2)) (dC (.int 31))) dNil)))) (st := st) (src := none) (fun i : Nat => W.int (2 + (i : Nat))) (fun i => W.bl (rangeB 0 2147483647 (ws.getD (2 + i) .non))) (List.range 4) (by simp) (fun b hb => by
    have hb := List.mem_range.mp hb
    have hj : 2 + b < ws.length := by omega
    have g : ws[2 + b]? = some (ws.getD (2 + b) .non) := by rw [List.getD_eq_getElem?_getD, List.getElem?_eq_getElem hj]; rfl
    have i0 := ix_t (st := st) g
    have e : (2 : Int) + (b : Int) = ((2 + b : Nat) : Int) := by omega
    rw [← e] at i0
    have b0 := lawinG (m := 2147483648) (hi _ (List.mem_of_getElem? g))
    rw [show (2147483648 : Int) - 1 = 2147483647 from rfl] at b0
    generalize ws.getD (2 + b) .non = v at *
    generalize (2 : Int) + (b : Int) = B at *
    simp -implicitDefEqProofs only [dCall_ap, dCons_ap, dOp_ap, dVar_ap, dC_ap, dNil_ap, List.set_cons_succ, List.set_cons_zero, List.getElem?_cons_zero, List.getElem?_cons_succ, Res.bind_ok, kCons1_ap, kCons2_ap, kOp1_ap, kCall_2, i0, p31, b0]) (show (4 : Nat) ≤ sizeLine by decide)
  have hal := all_here (st := st) (l := List.range 4) (g := fun i => rangeB 0 2147483647 (ws.getD (2 + i) .non))
  obtain ⟨T, hT⟩ : ∃ T, T = st ++ [Ob.lst ((List.range 4).map fun i => W.bl (rangeB 0 2147483647 (ws.getD (2 + i) .non)))] := ⟨_, rfl⟩
  rw [← hT] at kl hal ⊢
  have up : ∀ v, Gd st n v → Gd T n v := fun v hv => by rw [hT]; exact hv.app _
  match ws, h2, hi with
  | [a, b, c, d, e, f], _, hi =>
    have i0 : ixW (.tup [a, b, c, d, e, f]) (.int 0) T = .ok a T := ix_t (j := 0) rfl
    have i1 : ixW (.tup [a, b, c, d, e, f]) (.int 1) T = .ok b T := ix_t (j := 1) rfl
    have b0 := lawaskedG (up a (hi a (by simp))) hn
    have b1 := lawinG (m := 4294967296) (up b (hi b (by simp)))
    rw [show (4294967296 : Int) - 1 = 4294967295 from rfl] at b1
    have et : startB (.tup [a, b, c, d, e, f]) = (askB a && (rangeB 0 4294967295 b && ((List.range 4).all fun i => rangeB 0 2147483647 ([a, b, c, d, e, f].getD (2 + i) .non)))) := rfl
    rw [et]
    generalize ((List.range 4).all fun i => rangeB 0 2147483647 ([a, b, c, d, e, f].getD (2 + i) .non)) = A at *
    simp -implicitDefEqProofs only [sSeq_ap, sAsg_ap, dApp_ap, dCons_ap, dLc_ap, dRange2_ap, dC_ap, dNil_ap, Res.bind_ok, kCons1_ap, kCons2_ap, hr, wipeW, List.set_cons_succ, List.set_cons_zero]
    rw [kl]
    cases q1 : askB a <;> cases q2 : rangeB 0 4294967295 b <;> simp -implicitDefEqProofs only [Res.bind_ok, kCons1_ap, dNil_ap, kCons2_ap, hal, Res.then_ok, kAsg_n, List.set_cons_succ, List.set_cons_zero, RsS.next_nx, sRet_ap, dAndV_ap, dCall_ap, dCons_ap, dOp_ap, dVar_ap, dC_ap, List.getElem?_cons_zero, List.getElem?_cons_succ, kOp1_ap, kCall_1, kCall_2, i0, i1, p32, b0, b1, q1, q2, kAndV_t, kAndV_f, kRet_ap, Bool.true_and, Bool.false_and]
end
end
end K04
namespace K04
open PySem PySem.Spec PyProof.Rows L2 MP
open Classical
noncomputable section
section
variable {st : Store} {n : Nat} {w : W} {ws : List W} {k : Str}
theorem if_f {c : D Bool} {a : DS} {env : EnvW} {st st' : Store} (h : c env st = .ok false st') : sIf c a sNil env st = .go .nx env st' := by
  rw [sIf_ap, h, Res.then_ok, kSIf_f, sNil_ap]
theorem if_t {c : D Bool} {a b : DS} {env : EnvW} {st st' : Store} {r : RsS} (h : c env st = .ok true st') (h2 : a env st' = r) : sIf c a b env st = r := by
  rw [sIf_ap, h, Res.then_ok, kSIf_t]; exact h2
def tlB : DS := (sSeq (sAsg (dAndV (dApp isiW (dCons (dVar 1) (dCons (dC (.gl (.ty "str"))) dNil))) (dOp leW (dApp lenW (dCons (dVar 1) dNil)) (dC (.int 60)))) (tName 3))
    (sRet (dAndV (dVar 3) (dApp allW (dCons (dLc (dIt (dVar 1)) [5] (tName 5) dYes (dAndV (dChain leW leW (dC (.int 32)) (dApp ordFW (dCons (dVar 5) dNil)) (dC (.int 126))) (dOp neW (dApp ordFW (dCons (dVar 5) dNil)) (dC (.int 37))))) dNil)))))
theorem lawdataG (hk : k ∈ c_KINDS) (h : Gd st n w) (hn : n ≤ 30) : d__law_is_data [.str k, w] st = .ok (.bl (dataB k w)) st := by
  have a1 := fun T => eqK (st := T) hk kAddr
  have a2 := fun T => in_strs (st := T) (neg := false) (x := k) (xs := c_NAMING)
  have a3 := fun T => eqK (st := T) hk kMail
  have a4 := fun T => eqK (st := T) hk kText
  have cAddr : ∀ T, dBool (dOp eqW (dVar 0) (dC (.str "addr"))) [some (.str k), some w, none, none, none, none] T = .ok (decide (k = "addr")) T := fun T => by
    simp -implicitDefEqProofs only [dBool_ap, dOp_ap, dVar_ap, dC_ap, List.getElem?_cons_zero, Res.bind_ok, kOp1_ap, a1, kBool_ap]
  have cText : ∀ T, dBool (dOp eqW (dVar 0) (dC (.str "text"))) [some (.str k), some w, none, none, none, none] T = .ok (decide (k = "text")) T := fun T => by
    simp -implicitDefEqProofs only [dBool_ap, dOp_ap, dVar_ap, dC_ap, List.getElem?_cons_zero, Res.bind_ok, kOp1_ap, a4, kBool_ap]
  have cName : ∀ T, dBool (dOp (inW false) (dVar 0) (dTup (dCons (dC (.str "alias")) (dCons (dC (.str "back")) (dCons (dC (.str "server")) (dCons (dC (.str "tree")) dNil)))))) [some (.str k), some w, none, none, none, none] T = .ok (decide (k ∈ c_NAMING)) T := fun T => by
    have e := a2 T
    simp -implicitDefEqProofs only [dBool_ap, dOp_ap, dVar_ap, dTup_ap, dCons_ap, dC_ap, dNil_ap, List.getElem?_cons_zero, Res.bind_ok, kOp1_ap, kCons1_ap, kCons2_ap, ktN, e, kBool_ap]
    rfl
  have fin : ∀ {b : Bool} {env' : EnvW} {g : Store}, b__law_is_data [some (.str k), some w, none, none, none, none] st = .go (.rt (.bl b)) env' (st ++ g) → d__law_is_data [.str k, w] st = .ok (.bl b) st := fun {b env' g} e => by
    unfold d__law_is_data; rw [fnDen_ap]
    simp -implicitDefEqProofs only [List.map_cons, List.map_nil, List.length_cons, List.length_nil, Nat.reduceAdd, Nat.reduceSub, List.replicate_succ, List.replicate_zero, List.cons_append, List.nil_append]
    rw [e, fnR_rt, gc_flags]
  have g0 : st = st ++ [] := by simp
  unfold dataB
  by_cases q1 : k = "addr"
  · rw [if_pos q1]
    have c := cAddr st
    rw [decide_eq_true q1] at c
    have b1 := lawinG (m := 4294967296) h
    refine fin (env' := [some (.str k), some w, none, none, none, none]) (g := []) ?_
    rw [List.append_nil]
    unfold b__law_is_data
    refine seq_rt (if_t c ?_)
    simp -implicitDefEqProofs only [sRet_ap, dCall_ap, dCons_ap, dVar_ap, dOp_ap, dC_ap, dNil_ap, List.getElem?_cons_zero, List.getElem?_cons_succ, Res.bind_ok, kCons1_ap, kOp1_ap, kCons2_ap, kCall_2, p32, b1, Res.then_ok, kRet_ap]
    rfl
  · rw [if_neg q1]
    have c := cAddr st
    rw [decide_eq_false q1] at c
    by_cases q2 : k = "text"
    · have nn : ¬ k ∈ c_NAMING := by rw [q2]; unfold c_NAMING; decide +kernel
      have n3 : ¬ k = "mail" := by rw [q2]; decide +kernel
      have n4 : ¬ k = "start" := by rw [q2]; decide +kernel
      rw [if_neg nn, if_neg n3, if_neg n4]
      have c2 := cText st
      rw [decide_eq_true q2] at c2
      obtain ⟨env', g, tl⟩ := text_law (k := k) h
      refine fin (env' := env') (g := g) ?_
      unfold b__law_is_data
      exact seq_go (if_f c) (seq_rt (if_t c2 tl))
    · have c2 := cText st
      rw [decide_eq_false q2] at c2
      by_cases q3 : k ∈ c_NAMING
      · rw [if_pos q3]
        have c3 := cName st
        rw [decide_eq_true q3] at c3
        have b1 := lawaskedG h hn
        refine fin (env' := [some (.str k), some w, none, none, none, none]) (g := []) ?_
        rw [List.append_nil]
        unfold b__law_is_data
        refine seq_go (if_f c) (seq_go (if_f c2) (seq_rt (if_t c3 ?_)))
        simp -implicitDefEqProofs only [sRet_ap, dCall_ap, dCons_ap, dVar_ap, dNil_ap, List.getElem?_cons_zero, List.getElem?_cons_succ, Res.bind_ok, kCons1_ap, kCons2_ap, kCall_1, b1, Res.then_ok, kRet_ap]
      · rw [if_neg q3]
        have c3 := cName st
        rw [decide_eq_false q3] at c3
        have ht := gd_isT h
        have m3 := a3
        have mo : (k = "mail") ∨ (k = "start") := by
          rcases kinds_are hk with e | e | e | e | e | e | e | e
          · exact absurd e q1
          · exact absurd (by rw [e]; unfold c_NAMING; decide +kernel) q3
          · exact absurd (by rw [e]; unfold c_NAMING; decide +kernel) q3
          · exact .inl e
          · exact absurd (by rw [e]; unfold c_NAMING; decide +kernel) q3
          · exact .inr e
          · exact absurd e q2
          · exact absurd (by rw [e]; unfold c_NAMING; decide +kernel) q3
        have ix : ∀ T : Store, (T = st ++ [Ob.lst [W.int 6, W.int 2]]) → ixW (.loc st.length) (.int (if k = "mail" then 1 else 0)) T = .ok (.int (if k = "mail" then 2 else 6)) T := fun T hT => by
          have g : T[st.length]? = some (.lst [W.int 6, W.int 2]) := by rw [hT]; simp
          unfold ixW
          simp only [seq_loc g]
          by_cases q : k = "mail"
          · rw [if_pos q, if_pos q]; rfl
          · rw [if_neg q, if_neg q]; rfl
        have kl : kLst [.int 6, .int 2] st = .ok (.loc st.length) (st ++ [.lst [.int 6, .int 2]]) := lst5 (by simp)
        have io : ∀ T b, intOfW [.bl b] T = .ok (.int (if b = true then 1 else 0)) T := fun T b => by cases b <;> rfl
        obtain ⟨T, hT⟩ : ∃ T, T = st ++ [Ob.lst [W.int 6, W.int 2]] := ⟨_, rfl⟩
        rw [← hT] at kl
        have ix := ix T hT
        have hT' : Gd T n w := by rw [hT]; exact h.app _
        have cM : ∀ T, dBool (dOp eqW (dVar 0) (dC (.str "mail"))) [some (.str k), some w, none, none, none, none] T = .ok (decide (k = "mail")) T := fun T => by
          simp -implicitDefEqProofs only [dBool_ap, dOp_ap, dVar_ap, dC_ap, List.getElem?_cons_zero, Res.bind_ok, kOp1_ap, a3, kBool_ap]
        by_cases hs : isT w = true
        case pos =>
          obtain ⟨us, rfl⟩ : ∃ us, w = .tup us := by cases w <;> first | exact ⟨_, rfl⟩ | exact nomatch hs
          have lt : ∀ S : Store, lenW [.tup us] S = .ok (.int (us.length : Int)) S := fun S => len_tup
          have cond : dOr (dNot (dBool (dApp isiW (dCons (dVar 1) (dCons (dC (.gl (.ty "tuple"))) dNil))))) (dBool (dOp neW (dApp lenW (dCons (dVar 1) dNil)) (dOp ixW (dLst (dCons (dC (.int 6)) (dCons (dC (.int 2)) dNil))) (dApp intOfW (dCons (dOp eqW (dVar 0) (dC (.str "mail"))) dNil))))) [some (.str k), some (.tup us), none, none, none, none] st = .ok (!((us.length : Int) == (if k = "mail" then 2 else 6))) T := by
            have e3 : eqW (.str k) (.str "mail") T = .ok (.bl (decide (k = "mail"))) T := a3 T
            have i3 := io T (decide (k = "mail"))
            have f3 : (if decide (k = "mail") = true then (1 : Int) else 0) = (if k = "mail" then 1 else 0) := by simp
            rw [f3] at i3
            have ls := lt st
            generalize (us.length : Int) = N at *
            generalize (if k = "mail" then (1 : Int) else 0) = I1 at *
            generalize (if k = "mail" then (2 : Int) else 6) = I2 at *
            generalize decide (k = "mail") = Bk at *
            simp -implicitDefEqProofs only [dOr_ap, dNot_ap, dBool_ap, dApp_ap, dCons_ap, dVar_ap, dC_ap, dNil_ap, List.getElem?_cons_zero, List.getElem?_cons_succ, Res.bind_ok, kCons1_ap, kCons2_ap, ht, isT, kBool_ap, kNot_ap, Bool.not_true, kOr_f, dOp_ap, kOp1_ap, ls, dLst_ap, kl, e3, i3, ix, neW_i]
          by_cases ql : ((us.length : Int) == (if k = "mail" then 2 else 6)) = true
          · rw [ql] at cond
            rcases mo with qm | qs
            · rw [if_pos qm] at ql
              have hl2 : us.length = 2 := by have : ((us.length : Int) == 2) = true := ql; rw [beq_iff_eq] at this; omega
              have c4 := cM T
              rw [decide_eq_true qm] at c4
              rw [if_pos qm]
              have lm := (law_mail (k := k) hT' hl2).resolve_right (by simpa using hn)
              refine fin (env' := [some (.str k), some (.tup us), none, none, none, none]) (g := [Ob.lst [W.int 6, W.int 2]]) ?_
              rw [← hT]
              unfold b__law_is_data
              refine seq_go (if_f c) (seq_go (if_f c2) (seq_go (if_f c3) (seq_go (if_f cond) (seq_rt (if_t c4 ?_)))))
              rw [sRet_ap, lm]; rfl
            · have nm : ¬ k = "mail" := by rw [qs]; decide +kernel
              rw [if_neg nm] at ql
              have hl6 : us.length = 6 := by have : ((us.length : Int) == 6) = true := ql; rw [beq_iff_eq] at this; omega
              have c4 := cM T
              rw [decide_eq_false nm] at c4
              rw [if_neg nm, if_pos qs]
              have lm := law_start (k := k) hT' hl6 hn
              rw [hT, List.append_assoc, ← hT] at lm
              refine fin (env' := [some (.str k), some (.tup us), some (.bl ((List.range 4).all fun i => rangeB 0 2147483647 (us.getD (2 + i) .non))), none, none, none]) (g := [Ob.lst [W.int 6, W.int 2]] ++ [.lst ((List.range 4).map fun i => W.bl (rangeB 0 2147483647 (us.getD (2 + i) .non)))]) ?_
              unfold b__law_is_data
              exact seq_go (if_f c) (seq_go (if_f c2) (seq_go (if_f c3) (seq_go (if_f cond) (seq_go (if_f c4) lm))))
          · have ql : ((us.length : Int) == (if k = "mail" then 2 else 6)) = false := by simpa using ql
            rw [ql] at cond
            have e0 : (if k = "mail" then mailB (.tup us) else if k = "start" then startB (.tup us) else textB (.tup us)) = false := by
              rcases mo with qm | qs
              · rw [if_pos qm]
                rw [if_pos qm] at ql
                match us, ql with
                | [], _ => rfl
                | [_], _ => rfl
                | [_, _], ql => exact nomatch (show true = false from ql)
                | _ :: _ :: _ :: _, _ => rfl
              · have nm : ¬ k = "mail" := by rw [qs]; decide +kernel
                rw [if_neg nm, if_pos qs]
                rw [if_neg nm] at ql
                match us, ql with
                | [], _ => rfl
                | [_], _ => rfl
                | [_, _], _ => rfl
                | [_, _, _], _ => rfl
                | [_, _, _, _], _ => rfl
                | [_, _, _, _, _], _ => rfl
                | [_, _, _, _, _, _], ql => exact nomatch (show true = false from ql)
                | _ :: _ :: _ :: _ :: _ :: _ :: _ :: _, _ => rfl
            rw [e0]
            refine fin (env' := [some (.str k), some (.tup us), none, none, none, none]) (g := [Ob.lst [W.int 6, W.int 2]]) ?_
            rw [← hT]
            unfold b__law_is_data
            exact seq_go (if_f c) (seq_go (if_f c2) (seq_go (if_f c3) (seq_rt (if_t cond rfl))))
        case neg =>
          have hs : isT w = false := by simpa using hs
          have e0 : (if k = "mail" then mailB w else if k = "start" then startB w else textB w) = false := by
            rcases mo with qm | qs
            · rw [if_pos qm]; cases w <;> first | rfl | exact nomatch hs
            · have nm : ¬ k = "mail" := by rw [qs]; decide +kernel
              rw [if_neg nm, if_pos qs]; cases w <;> first | rfl | exact nomatch hs
          rw [e0]
          rw [hs] at ht
          refine fin (env' := [some (.str k), some w, none, none, none, none]) (g := []) ?_
          rw [List.append_nil]
          unfold b__law_is_data
          refine seq_go (if_f c) (seq_go (if_f c2) (seq_go (if_f c3) (seq_rt (if_t (st' := st) ?_ rfl))))
          simp -implicitDefEqProofs only [dOr_ap, dNot_ap, dBool_ap, dApp_ap, dCons_ap, dVar_ap, dC_ap, dNil_ap, List.getElem?_cons_zero, List.getElem?_cons_succ, Res.bind_ok, kCons1_ap, kCons2_ap, ht, kBool_ap, kNot_ap, Bool.not_false, kOr_t]
end
end
end K04
namespace K04
open PySem PySem.Spec PyProof.Rows L2 MP
open Classical
noncomputable section
/-- the signs of a label that is not the star -/
structure PL (cs : List Nat) : Prop where
  l1 : 1 ≤ cs.length
  l2 : cs.length ≤ 20
  inn : ∀ c ∈ cs, c ∈ IN
  fst : cs.getD 0 0 ∈ EN
  lst : cs.getD (cs.length - 1) 0 ∈ EN
theorem PL.plain {cs : List Nat} (h : PL cs) : plainB (txt cs) = true := by
  have hl : (txt cs).length = cs.length := by show (txt cs).cps.size = _; rw [← Array.length_toList]; show (cl (txt cs)).length = _; rw [cl_txt]
  have ht : (txt cs).cps.toList = cs := cl_txt cs
  have h1 := h.l1
  have e1 : fst0 (txt cs) = cs.getD 0 0 := fst0_of (by rw [ht]; show cs[0]? = _; rw [List.getD_eq_getElem?_getD, List.getElem?_eq_getElem (by omega)]; rfl)
  have e2 : lst0 (txt cs) = cs.getD (cs.length - 1) 0 := lst0_of (by rw [ht, hl, List.getD_eq_getElem?_getD, List.getElem?_eq_getElem (by omega)]; rfl)
  unfold plainB
  rw [hl, ht, e1, e2, decide_eq_true h.l1, decide_eq_true h.l2, decide_eq_true h.fst, decide_eq_true h.lst]
  simp only [Bool.and_true, Bool.true_and, List.all_eq_true, decide_eq_true_eq]
  exact h.inn
theorem in_AL : ∀ c ∈ (AL : Str).cps.toList, c ∈ EN := by decide +kernel
theorem in_AL1 : ∀ c ∈ (AL1 : Str).cps.toList, c ∈ IN := by decide +kernel
theorem in_128 : ∀ c ∈ IN, c < 128 := by decide +kernel
theorem en_128 : ∀ c ∈ EN, c < 128 := by decide +kernel
theorem en_in' : ∀ c ∈ EN, c ∈ IN := by decide +kernel
theorem label_plain {p n : Nat} {st : Store} (h : PotA p n st) (hn : n + 30 ≤ 1000000) :
    ∃ (cs : List Nat) (st' : Store), d__law_label [.loc p] st = .ok (.str (txt cs)) st' ∧ PL cs ∧ PotA p (n + 30) st' ∧ Kp p st st' := by
  have hl := h.lt
  obtain ⟨t1, s1, e1, a1, b1, P1, K1⟩ := take_ok (m := 20) h (by omega) (by decide) (by decide)
  obtain ⟨L1, hL1⟩ : ∃ L, L = [W.int 1, .int 2, .int 3, .int (1 + t1), .int 20] := ⟨_, rfl⟩
  obtain ⟨t2, s2, e2, a2, b2, P2, K2⟩ := take_ok (m := 5) (P1.app [.lst L1]) (by omega) (by decide) (by decide)
  have hp1 : p ≠ s1.length := by have := P1.lt; omega
  have g2 : s2[s1.length]? = some (.lst L1) := by rw [K2.keep _ (Ne.symm hp1)]; simp
  obtain ⟨w, wm, _, e3⟩ := ix_mem (st := s2) (a := .loc s1.length) (ws := L1) (i := t2) (by simp [seqW, g2]) a2 (by rw [hL1]; simpa using b2)
  obtain ⟨k, rfl, k1, k2⟩ : ∃ k : Int, w = .int k ∧ 1 ≤ k ∧ k ≤ 20 := by
    rw [hL1] at wm
    simp only [List.mem_cons, List.not_mem_nil, or_false] at wm
    rcases wm with rfl | rfl | rfl | rfl | rfl
    · exact ⟨1, rfl, by decide, by decide⟩
    · exact ⟨2, rfl, by decide, by decide⟩
    · exact ⟨3, rfl, by decide, by decide⟩
    · exact ⟨1 + t1, rfl, by omega, by omega⟩
    · exact ⟨20, rfl, by decide, by decide⟩
  have hr := kR1_ok (st := s2) (j := k) (Int.le_trans (by decide) k1) (Int.lt_of_le_of_lt k2 (by decide))
  obtain ⟨l, s3, e4, hll, P3, X3, cs, rfl, hcs⟩ := kLc_ok (env := [some (.loc p), some (.str AL), some (.int k), none, none]) (i := 4) (e := dOp ixW (dOp addW (dC (.str "-")) (dVar 1)) (dCall 2 d__law_take (dCons (dVar 0) (dCons (dC (.int 37)) dNil)))) (st := s2) (ws := intsW 0 k.toNat)
    (fun i acc S => PotA p (n + 2 + i) S ∧ Ext p s2 S ∧ ∃ cs : List Nat, acc = cs.map sgn ∧ ∀ c ∈ cs, c ∈ IN) (fun i w acc S hw hJ => by
      obtain ⟨hP, hX, cs, rfl, hS⟩ := hJ
      have hi : i < k.toNat := by rw [← ints_len]; exact (List.getElem?_eq_some_iff.mp hw).1
      obtain ⟨t, s', e, a, b, P, Kq⟩ := take_ok (m := 37) hP (by omega) (by decide) (by decide)
      obtain ⟨c, _, hc, ey⟩ := ix_str (x := AL1) (i := t) (by decide +kernel) a (by rw [al1_len]; exact b)
      refine ⟨sgn c, s', ?_, P, hX.trans Kq.ext, cs ++ [c], by simp, fun z hz => by
        rcases List.mem_append.mp hz with h | h
        · exact hS z h
        · rw [List.mem_singleton.mp h]; exact in_AL1 c hc⟩
      simp -implicitDefEqProofs [al1_add, e, ey, sgn]) (by rw [ints_len]; exact line8 (by omega)) ⟨P2, .refl, [], rfl, by simp⟩
  rw [ints_len] at hll
  have hlk : cs.length = k.toNat := by simpa using hll
  have P4 := (P3.mono (m := n + 25) (by rw [ints_len]; omega)).app [.lst (cs.map sgn)]
  obtain ⟨t5, s5, e5, a5, b5, P5, K5⟩ := take_ok (m := 36) P4 (by omega) (by decide) (by decide)
  have hle : st.length ≤ s3.length := by
    have := X3.le; rw [K2.len] at this; simp at this; rw [K1.len] at this; omega
  have hp3 : s3.length ≠ p := by omega
  have g5 : s5[s3.length]? = some (.lst (cs.map sgn)) := by rw [K5.keep _ hp3]; simp
  obtain ⟨y5, _, hy5, ey5⟩ := ix_str (x := AL) (i := t5) (by decide +kernel) a5 (by rw [al_len]; exact b5)
  have st5 := setW_of (v := .str ⟨#[y5]⟩) (i := 0) (j := 0) g5 (by unfold ixN; rw [if_pos (by decide), if_pos (by rw [List.length_map]; omega)]; rfl)
  have k5 := kAsg_sub (env := [some (.loc p), some (.str AL), some (.int k), some (.loc s3.length), none]) (st := s5) (mo := dVar 3) (mi := dC (.int 0)) (v := .str ⟨#[y5]⟩) rfl rfl st5
  have P5' := P5.set (k := s3.length) (o := .lst ((cs.map sgn).set 0 (.str ⟨#[y5]⟩))) (Ne.symm hp3)
  obtain ⟨t6, s6, e6, a6, b6, P6, K6⟩ := take_ok (m := 36) P5' (by omega) (by decide) (by decide)
  have hl5 : s3.length < s5.length := (List.getElem?_eq_some_iff.mp g5).1
  have g6 : s6[s3.length]? = some (.lst ((cs.map sgn).set 0 (.str ⟨#[y5]⟩))) := by rw [K6.keep _ hp3, List.getElem?_set_self hl5]
  obtain ⟨y6, _, hy6, ey6⟩ := ix_str (x := AL) (i := t6) (by decide +kernel) a6 (by rw [al_len]; exact b6)
  have st6 := setW_of (v := .str ⟨#[y6]⟩) (i := -1) (j := cs.length - 1) g6 (by unfold ixN; rw [if_neg (by decide), if_pos (by rw [List.length_set, List.length_map]; omega)]; congr 1; rw [List.length_set, List.length_map]; omega)
  have k6 := kAsg_sub (env := [some (.loc p), some (.str AL), some (.int k), some (.loc s3.length), none]) (st := s6) (mo := dVar 3) (mi := dUn negW (dC (.int 1))) (v := .str ⟨#[y6]⟩) rfl rfl st6
  have hl6 : s3.length < s6.length := (List.getElem?_eq_some_iff.mp g6).1
  obtain ⟨LL, hLL⟩ : ∃ LL : List Nat, LL = (cs.set 0 y5).set (cs.length - 1) y6 := ⟨_, rfl⟩
  have hLW : ((cs.map sgn).set 0 (.str ⟨#[y5]⟩)).set (cs.length - 1) (.str ⟨#[y6]⟩) = LL.map sgn := by
    rw [hLL, List.map_set, List.map_set]; rfl
  rw [hLW] at k6
  have hlL : LL.length = k.toNat := by rw [hLL]; simp [hlk]
  have hPL : PL LL := by
    have hk : 1 ≤ cs.length := by omega
    refine ⟨by omega, by omega, ?_, ?_, ?_⟩
    · intro c hc
      rw [hLL] at hc
      rcases List.mem_or_eq_of_mem_set hc with hc | rfl
      · rcases List.mem_or_eq_of_mem_set hc with hc | rfl
        · exact hcs c hc
        · exact en_in' _ (in_AL _ hy5)
      · exact en_in' _ (in_AL _ hy6)
    · rw [hLL, List.getD_eq_getElem?_getD]
      by_cases q : cs.length - 1 = 0
      · rw [q, List.getElem?_set_self (by simp; omega)]; exact in_AL _ hy6
      · rw [List.getElem?_set_ne q, List.getElem?_set_self (by omega)]; exact in_AL _ hy5
    · have hle : LL.length - 1 = cs.length - 1 := by omega
      rw [hle, hLL, List.getD_eq_getElem?_getD, List.getElem?_set_self (by simp; omega)]; exact in_AL _ hy6
  have P7 := P6.set (k := s3.length) (o := .lst (LL.map sgn)) (Ne.symm hp3)
  have ex := sgn_join (S := s6.set s3.length (.lst (LL.map sgn))) (q := s3.length) (l := LL) (by rw [List.getElem?_set_self hl6]) (by omega)
  have X : Ext p st (s6.set s3.length (.lst (LL.map sgn))) := by
    have x1 : Ext p st s2 := (K1.ext.trans (.app [.lst L1])).trans K2.ext
    have x2 : Ext p st s5 := ((x1.trans X3).trans (.app [.lst (cs.map sgn)])).trans K5.ext
    exact (((x2.set hle).trans K6.ext).set hle)
  obtain ⟨G1, G2, G3⟩ := gc_pot (v := .str (txt LL)) X P7 hl rfl
  refine ⟨LL, _, ?_, hPL, G3.mono (by omega), G2⟩
  unfold d__law_label; rw [fnDen_ap]; unfold b__law_label
  rw [show ("0123456789abcdefghijklmnopqrstuvwxyz" : Str) = AL from rfl]
  have lst1 : kLst [W.int 1, .int 2, .int 3, .int (1 + t1), .int 20] s1 = .ok (.loc s1.length) (s1 ++ [.lst L1]) := by rw [hL1]; exact lst5 (by simp)
  simp -implicitDefEqProofs [e1, lst1, e2, e3, hr, wipeW]
  rw [e4]
  simp -implicitDefEqProofs only [Res.then_ok, kAsg_n, List.set_cons_succ, List.set_cons_zero, RsS.next_nx, sSeq_ap, sAsg_ap, dOp_ap, dVar_ap, List.getElem?_cons_zero, List.getElem?_cons_succ, Res.bind_ok, kOp1_ap, dCall_ap, dCons_ap, kCons1_ap, dC_ap, dNil_ap, kCons2_ap, kCall_2, e5, ey5, k5, e6, ey6, k6, sRet_ap, dBm_ap, kBm_s, ex, kRet_ap, fnR_rt, G1]
end
end K04
namespace K04
open PySem PySem.Spec PyProof.Rows L2 MP
open Classical
noncomputable section
theorem cut_take {l : List Nat} {k : Nat} : cutS (txt l) none (some (k : Int)) = txt (l.take k) := by
  apply str_ext
  show List.take _ (List.drop _ l) = _
  have e1 : HT.sIx (txt l).length 0 none = 0 := rfl
  have e2 : HT.sIx (txt l).length (txt l).length (some (k : Int)) = min k l.length := by
    unfold HT.sIx
    simp only
    rw [if_neg (by omega), txt_len, Int.toNat_natCast]
  rw [e1, e2, Nat.sub_zero, List.drop_zero, ← List.take_take, List.take_length]
  rfl
theorem txt_add (a b : List Nat) : txt a ++ txt b = txt (a ++ b) := by
  show (⟨a.toArray ++ b.toArray⟩ : Str) = ⟨(a ++ b).toArray⟩
  simp
theorem nodup_le {α : Type} [DecidableEq α] : ∀ (l m : List α), l.Nodup → (∀ x ∈ l, x ∈ m) → l.length ≤ m.length
  | [], m, _, _ => Nat.zero_le _
  | a :: l, m, hn, h => by
    rw [List.nodup_cons] at hn
    have ih := nodup_le l (m.erase a) hn.2 fun x hx => (List.mem_erase_of_ne (fun e => hn.1 (by rw [← e]; exact hx))).mpr (h x (List.mem_cons_of_mem _ hx))
    have ha := h a List.mem_cons_self
    have := List.length_erase_of_mem ha
    have hp := List.length_pos_of_mem ha
    rw [List.length_cons]
    omega
theorem spare_ok : ∀ i : Nat, i < 4 → Str.ofString (toString (i : Int)) = txt [48 + i] := by
  intro i hi
  match i, hi with
  | 0, _ => decide +kernel
  | 1, _ => decide +kernel
  | 2, _ => decide +kernel
  | 3, _ => decide +kernel
theorem PL.ok {cs : List Nat} (h : PL cs) : okS (txt cs) = true := okS_iff.mpr ⟨by rw [txt_len]; have := h.l2; omega, fun c hc => in_128 c (h.inn c hc)⟩
theorem pl_spare {i : Nat} (hi : i < 4) : PL [120, 48 + i] := by
  match i, hi with
  | 0, _ => exact ⟨by decide, by decide, by decide +kernel, by decide +kernel, by decide +kernel⟩
  | 1, _ => exact ⟨by decide, by decide, by decide +kernel, by decide +kernel, by decide +kernel⟩
  | 2, _ => exact ⟨by decide, by decide, by decide +kernel, by decide +kernel, by decide +kernel⟩
  | 3, _ => exact ⟨by decide, by decide, by decide +kernel, by decide +kernel, by decide +kernel⟩
theorem pl_more {cs : List Nat} {c : Nat} (h : PL cs) (hc : c ∈ EN) : PL (cs.take 19 ++ [c]) := by
  have h1 := h.l1
  have h2 := h.l2
  have hl : (cs.take 19).length = min 19 cs.length := List.length_take
  refine ⟨by simp, by simp; omega, ?_, ?_, ?_⟩
  · intro z hz
    rcases List.mem_append.mp hz with hz | hz
    · exact h.inn z (List.mem_of_mem_take hz)
    · rw [List.mem_singleton.mp hz]; exact en_in' c hc
  · have e : (cs.take 19 ++ [c]).getD 0 0 = cs.getD 0 0 := by
      rw [List.getD_eq_getElem?_getD, List.getD_eq_getElem?_getD, List.getElem?_append_left (by omega), List.getElem?_take, if_pos (by decide)]
    rw [e]; exact h.fst
  · have e : (cs.take 19 ++ [c]).length - 1 = (cs.take 19).length := by simp
    rw [e, List.getD_eq_getElem?_getD, List.getElem?_append_right (Nat.le_refl _), Nat.sub_self]; exact hc
end
end K04
namespace K04
open PySem PySem.Spec PyProof.Rows L2 MP
open Classical
noncomputable section
theorem pu_tW {x : List Nat} (h : PL x) : pu (tW x) := h.ok
theorem ne_nilT {st : Store} {w q : Nat} {l : List (List Nat)} (h : st[w]? = some (.lst (l.map tW))) (h' : st[q]? = some (.lst [])) (hl : l.length ≤ 8192) (hp : ∀ x ∈ l, PL x) : neW (.loc w) (.loc q) st = .ok (.bl (decide (l ≠ []))) st := by
  have p1 : ∀ w ∈ l.map tW, pu w := fun w hw => by obtain ⟨z, hz, rfl⟩ := List.mem_map.mp hw; exact pu_tW (hp z hz)
  have P := Pic.ls w _ h (by simpa using hl) p1
  have P' : Pic st (.loc q) (.fro []) := Pic.ls q _ h' (by simp) (by simp)
  rw [pic_ne P P']
  simp only [dU]
  rw [PyData.eqv.eq_7]
  cases l with
  | nil => simp [PyData.eqvAll]
  | cons a l => simp [PyData.eqvAll]
def SP : List (List Nat) := [[120, 48], [120, 49], [120, 50], [120, 51]]
theorem sp_pl : ∀ x ∈ SP, PL x := fun x hx => by
  unfold SP at hx
  simp only [List.mem_cons, List.not_mem_nil, or_false] at hx
  rcases hx with rfl | rfl | rfl | rfl
  · exact pl_spare (i := 0) (by decide)
  · exact pl_spare (i := 1) (by decide)
  · exact pl_spare (i := 2) (by decide)
  · exact pl_spare (i := 3) (by decide)
theorem fresh_ex {xs : List (List Nat)} {c : List Nat} (h : xs.length < 4) (hc : PL c) : ∃ x, (((c :: SP).filter fun z => !decide (z ∈ xs)).map tW)[0]? = some (tW x) ∧ PL x := by
  cases q : (c :: SP).filter fun z => !decide (z ∈ xs) with
  | nil =>
    rw [List.filter_eq_nil_iff] at q
    have := nodup_le SP xs (by unfold SP; decide) fun x hx => by
      have := q x (List.mem_cons_of_mem _ hx)
      simpa using this
    have e : SP.length = 4 := rfl
    omega
  | cons x l =>
    refine ⟨x, rfl, ?_⟩
    have hx : x ∈ (c :: SP).filter fun z => !decide (z ∈ xs) := by rw [q]; exact List.mem_cons_self
    rcases List.mem_cons.mp (List.mem_filter.mp hx).1 with rfl | hx
    · exact hc
    · exact sp_pl x hx
def wIf : DS := (sIf (dAnd (dBool (dOp neW (dVar 2) (dLst dNil))) (dBool (dOp eqW (dCall 2 d__law_take (dCons (dVar 0) (dCons (dC (.int 3)) dNil))) (dC (.int 0)))))
    (sAsg (dOp addW (dSl (dOp ixW (dVar 2) (dCall 2 d__law_take (dCons (dVar 0) (dCons (dApp lenW (dCons (dVar 2) dNil)) dNil)))) dNoPart (dPart (dC (.int 19)))) (dOp ixW (dC (.str "0a9z")) (dCall 2 d__law_take (dCons (dVar 0) (dCons (dC (.int 4)) dNil))))) (tName 4))
    sNil)
section
variable {p n F : Nat} {S : Store} {xs : List (List Nat)} {b3 a5 : Option W} {cs : List Nat}
theorem wIf_ok (P : PotA p n S) (hF : S[F]? = some (.lst (xs.map tW))) (hpF : p ≠ F) (hx : xs.length < 4) (hpl : ∀ x ∈ xs, PL x) (hc : PL cs) (hn : n + 10 ≤ 1000000) : ∃ (c : List Nat) (T : Store), wIf [some (.loc p), some (.int 4), some (.loc F), b3, some (tW cs), a5, none, none] S = .go .nx [some (.loc p), some (.int 4), some (.loc F), b3, some (tW c), a5, none, none] T ∧ PL c ∧ PotA p (n + 5) T ∧ Ext p S T := by
  have kn : kLst [] S = .ok (.loc S.length) (S ++ [.lst []]) := lst5 (by simp)
  have nn := ne_nilT (q := S.length) (get_app [.lst []] hF) (by simp) (by omega) hpl
  obtain ⟨T1, hT1⟩ : ∃ T1, T1 = S ++ [Ob.lst []] := ⟨_, rfl⟩
  have P1 : PotA p n T1 := by rw [hT1]; exact P.app _
  have F1 : T1[F]? = some (.lst (xs.map tW)) := by rw [hT1]; exact get_app _ hF
  have X1 : Ext p S T1 := by rw [hT1]; exact .app _
  rw [← hT1] at kn nn
  by_cases q : xs = []
  · have : decide (xs ≠ []) = false := by simp [q]
    rw [this] at nn
    refine ⟨cs, T1, ?_, hc, P1.mono (by omega), X1⟩
    unfold wIf
    simp -implicitDefEqProofs only [sIf_ap, dAnd_ap, dBool_ap, dOp_ap, dVar_ap, dLst_ap, dNil_ap, List.getElem?_cons_zero, List.getElem?_cons_succ, Res.bind_ok, kOp1_ap, kn, nn, kBool_ap, kAnd_f, Res.then_ok, kSIf_f, sNil_ap]
  · have hd : decide (xs ≠ []) = true := decide_eq_true q
    rw [hd] at nn
    obtain ⟨r, T2, e2, r0, r1, P2, K2⟩ := take_ok (m := 3) P1 (by omega) (by decide) (by decide)
    by_cases qr : r = 0
    · subst qr
      have F2 : T2[F]? = some (.lst (xs.map tW)) := by rw [K2.keep _ (Ne.symm hpF)]; exact F1
      have ln : lenW [.loc F] T2 = .ok (.int (xs.length : Int)) T2 := by rw [len_seq (seq_loc F2)]; simp
      have hx1 : 1 ≤ xs.length := List.length_pos_iff.mpr q
      obtain ⟨j, T3, e3, j0, j1, P3, K3⟩ := take_ok (m := (xs.length : Int)) P2 (by omega) (by omega) (by omega)
      obtain ⟨i, rfl⟩ : ∃ i : Nat, j = (i : Int) := ⟨j.toNat, by omega⟩
      have hi : i < xs.length := by omega
      have F3 : T3[F]? = some (.lst (xs.map tW)) := by rw [K3.keep _ (Ne.symm hpF)]; exact F2
      have ix := ix_tW F3 hi
      have hxi : PL (xs.getD i []) := by
        rw [List.getD_eq_getElem?_getD, List.getElem?_eq_getElem hi]; exact hpl _ (List.getElem_mem _)
      obtain ⟨t, T4, e4, t0, t1, P4, K4⟩ := take_ok (m := 4) P3 (by omega) (by decide) (by decide)
      obtain ⟨c, _, hce, ey⟩ := ix_str (x := "0a9z") (i := t) (by decide +kernel) t0 (by rw [show (("0a9z" : Str).length : Int) = 4 from rfl]; exact t1)
      have hcE : c ∈ EN := (by decide +kernel : ∀ c ∈ ("0a9z" : Str).cps.toList, c ∈ EN) c hce
      have hm := pl_more hxi hcE
      generalize xs.getD i [] = y at *
      have sl : ∀ T, slW (tW y) none (some 19) T = .ok (.str (txt (y.take 19))) T := fun T => by
        have := sl_str (z := txt y) (lo := none) (hi := some ((19 : Nat) : Int)) (st := T) hxi.ok
        rw [cut_take] at this
        exact this
      have ad : addW (.str (txt (y.take 19))) (.str ⟨#[c]⟩) T4 = .ok (tW (y.take 19 ++ [c])) T4 := by
        rw [← txt_one, addW_s (by rw [txt_len, txt_len]; simp; exact Nat.le_trans (show min 19 y.length + 1 ≤ 8192 by omega) (by decide)), txt_add]; rfl
      refine ⟨y.take 19 ++ [c], T4, ?_, hm, P4.mono (by omega), ((X1.trans K2.ext).trans K3.ext).trans K4.ext⟩
      generalize (i : Int) = I at *
      generalize (xs.length : Int) = N at *
      unfold wIf
      simp -implicitDefEqProofs only [sIf_ap, dAnd_ap, dBool_ap, dOp_ap, dVar_ap, dLst_ap, dNil_ap, List.getElem?_cons_zero, List.getElem?_cons_succ, Res.bind_ok, kOp1_ap, kn, nn, kBool_ap, kAnd_t, dCall_ap, dCons_ap, dC_ap, kCons1_ap, kCons2_ap, kCall_2, e2, eqW_int, beq_self_eq_true, Res.then_ok, kSIf_t, sAsg_ap, dSl_ap, dApp_ap, ln, e3, ix, kSl1_ap, dNoPart_ap, kSl2_ap, dPart_ap, kPart_ap, sl, e4, ey, ad, kAsg_n, List.set_cons_succ, List.set_cons_zero]
    · have q0 : (r == 0) = false := beq_false_of_ne qr
      refine ⟨cs, T2, ?_, hc, P2.mono (by omega), X1.trans K2.ext⟩
      unfold wIf
      simp -implicitDefEqProofs only [sIf_ap, dAnd_ap, dBool_ap, dOp_ap, dVar_ap, dLst_ap, dNil_ap, List.getElem?_cons_zero, List.getElem?_cons_succ, Res.bind_ok, kOp1_ap, kn, nn, kBool_ap, kAnd_t, dCall_ap, dCons_ap, dC_ap, kCons1_ap, kCons2_ap, kCall_2, e2, eqW_int, q0, Res.then_ok, kSIf_f, sNil_ap]
end
end
end K04
namespace K04
open PySem PySem.Spec PyProof.Rows L2 MP
open Classical
noncomputable section
def wB : DS := (sSeq (sAsg (dCall 1 d__law_label (dCons (dVar 0) dNil)) (tName 4))
    (sSeq wIf
    (sSeq (sAsg (dLc (dRange1 (dCons (dVar 1) dNil)) [6] (tName 6) dYes (dOp addW (dC (.str "x")) (dApp strW (dCons (dVar 6) dNil)))) (tName 5))
    (sExpr (dBm tyL appendW (dVar 2) (dCons (dOp ixW (dLc (dIt (dOp addW (dLst (dCons (dVar 4) dNil)) (dVar 5))) [7] (tName 7) (dBool (dOp (inW true) (dVar 7) (dVar 2))) (dVar 7)) (dC (.int 0))) dNil))))))
section
variable {p n F : Nat} {S : Store} {xs : List (List Nat)} {b3 a4 a5 : Option W} {cs : List Nat}
theorem wB_ok (P : PotA p n S) (hF : S[F]? = some (.lst (xs.map tW))) (hpF : p ≠ F) (hx : xs.length < 4) (hpl : ∀ x ∈ xs, PL x) (hn : n + 50 ≤ 1000000) : ∃ (x : List Nat) (c4 c5 : Option W) (T : Store), wB [some (.loc p), some (.int 4), some (.loc F), b3, a4, a5, none, none] S = .go .nx [some (.loc p), some (.int 4), some (.loc F), b3, c4, c5, none, none] (T.set F (.lst ((xs ++ [x]).map tW))) ∧ PL x ∧ F < T.length ∧ PotA p (n + 40) T ∧ Ext p S T := by
  obtain ⟨cs, s1, e1, hc1, P1, K1⟩ := label_plain P (by omega)
  have F1 : s1[F]? = some (.lst (xs.map tW)) := by rw [K1.keep _ (Ne.symm hpF)]; exact hF
  obtain ⟨c, T1, e2, hc, P2, X2⟩ := wIf_ok (b3 := b3) (a5 := a5) P1 F1 hpF hx hpl hc1 (by omega)
  have F2 := X2.get F1 (Ne.symm hpF)
  have hr := kR1_ok (st := T1) (j := 4) (by decide) (by decide)
  have hz : intsW 0 (4 : Int).toNat = (List.range 4).map (fun i : Nat => W.int (0 + (i : Nat))) := rfl
  rw [hz] at hr
  have kl := kLc_mapB (env := [some (.loc p), some (.int 4), some (.loc F), b3, some (tW c), a5, none, none]) (i := 6) (e := (dOp addW (dC (.str "x")) (dApp strW (dCons (dVar 6) dNil)))) (st := T1) (src := none) (fun i : Nat => W.int (0 + (i : Nat))) (fun i => tW [120, 48 + i]) (List.range 4) (by simp) (fun b hb => by
    have hb := List.mem_range.mp hb
    have sp := spare_ok b hb
    have hlog : ((b : Int)).natAbs.log2 < 1920 := Nat.lt_of_le_of_lt (Nat.log2_le_self _) (by omega)
    have es : strW [.int (b : Int)] T1 = .ok (.str (txt [48 + b])) T1 := by
      unfold strW; simp only [if_pos hlog]; rw [sp]
    have ad : addW (.str "x") (.str (txt [48 + b])) T1 = .ok (tW [120, 48 + b]) T1 := by
      rw [show ("x" : Str) = txt [120] from rfl, addW_s (by rw [txt_len, txt_len]; exact Nat.le_trans (show [120].length + [48 + b].length ≤ 8192 by simp) (by decide)), txt_add]; rfl
    rw [Int.zero_add]
    generalize (b : Int) = B at *
    simp -implicitDefEqProofs only [dOp_ap, dC_ap, dApp_ap, dCons_ap, dVar_ap, dNil_ap, List.set_cons_succ, List.set_cons_zero, List.getElem?_cons_zero, List.getElem?_cons_succ, Res.bind_ok, kOp1_ap, kCons1_ap, kCons2_ap, es, ad]) (show (4 : Nat) ≤ sizeLine by decide)
  have hSP : (List.range 4).map (fun i => tW [120, 48 + i]) = SP.map tW := rfl
  rw [hSP] at kl
  obtain ⟨T2, hT2⟩ : ∃ T2, T2 = T1 ++ [Ob.lst (SP.map tW)] := ⟨_, rfl⟩
  rw [← hT2] at kl
  have P3 : PotA p (n + 40) T2 := by rw [hT2]; exact (P2.mono (by omega)).app _
  have F3 : T2[F]? = some (.lst (xs.map tW)) := by rw [hT2]; exact get_app _ F2
  have g3 : T2[T1.length]? = some (.lst (SP.map tW)) := by rw [hT2]; simp
  have kb : ∀ r env, kBm tyL appendW r env (.loc F) T2 = (r env T2).bind (appendW (.loc F)) := fun r env => kBm_l appendW F3
  have k1 : kLst [tW c] T2 = .ok (.loc T2.length) (T2 ++ [.lst [tW c]]) := lst5 (by simp)
  obtain ⟨T3, hT3⟩ : ∃ T3, T3 = T2 ++ [Ob.lst [tW c]] := ⟨_, rfl⟩
  rw [← hT3] at k1
  have ad : addW (.loc T2.length) (.loc T1.length) T3 = .ok (.loc T3.length) (T3 ++ [.lst ((c :: SP).map tW)]) := addW_l (xs := [tW c]) (ys := SP.map tW) (by rw [hT3]; simp) (by rw [hT3]; exact get_app _ g3) (by simp [SP])
  obtain ⟨T4, hT4⟩ : ∃ T4, T4 = T3 ++ [Ob.lst ((c :: SP).map tW)] := ⟨_, rfl⟩
  rw [← hT4] at ad
  have F4 : T4[F]? = some (.lst (xs.map tW)) := by rw [hT4, hT3]; exact get_app _ (get_app _ F3)
  have g4 : T4[T3.length]? = some (.lst ((c :: SP).map tW)) := by rw [hT4]; simp
  have it4 := itOf_loc g4
  have kf := kLc_filter (env := [some (.loc p), some (.int 4), some (.loc F), b3, some (tW c), some (.loc T1.length), none, none]) (i := 7) (c := (dBool (dOp (inW true) (dVar 7) (dVar 2)))) (e := dVar 7) (st := T4) (src := some T3.length) tW tW (fun z => !decide (z ∈ xs)) (c :: SP) (by simpa using g4) (fun z hz => by
    have e := in_txts (neg := true) (x := z) F4
    rw [if_pos rfl] at e
    refine ⟨?_, fun _ => rfl⟩
    simp -implicitDefEqProofs only [dBool_ap, dOp_ap, dVar_ap, List.set_cons_succ, List.set_cons_zero, List.getElem?_cons_zero, List.getElem?_cons_succ, Res.bind_ok, kOp1_ap, e, kBool_ap]) (show (5 : Nat) ≤ sizeLine by decide)
  obtain ⟨x, hx0, hxp⟩ := fresh_ex (xs := xs) (c := c) hx hc
  obtain ⟨T5, hT5⟩ : ∃ T5, T5 = T4 ++ [Ob.lst (((c :: SP).filter fun z => !decide (z ∈ xs)).map tW)] := ⟨_, rfl⟩
  rw [← hT5] at kf
  have ix : ixW (.loc T4.length) (.int 0) T5 = .ok (tW x) T5 := by
    have g : T5[T4.length]? = some (.lst (((c :: SP).filter fun z => !decide (z ∈ xs)).map tW)) := by rw [hT5]; simp
    have := (List.getElem?_eq_some_iff.mp hx0).1
    unfold ixW
    simp only [seq_loc g]
    rw [show (0 : Int) = ((0 : Nat) : Int) from rfl, atI_nat this, hx0]
  have F5 : T5[F]? = some (.lst (xs.map tW)) := by rw [hT5]; exact get_app _ F4
  have ap := app_nums (w := tW x) F5 (by rw [List.length_map]; exact Nat.lt_of_lt_of_le hx (by decide))
  have hmap : xs.map tW ++ [tW x] = (xs ++ [x]).map tW := by simp
  rw [hmap] at ap
  have P5 : PotA p (n + 40) T5 := by rw [hT5, hT4, hT3]; exact ((P3.app _).app _).app _
  have X5 : Ext p S T5 := by
    have x2 : Ext p S T2 := by rw [hT2]; exact (K1.ext.trans X2).trans (.app _)
    rw [hT5, hT4, hT3]; exact ((x2.trans (.app _)).trans (.app _)).trans (.app _)
  refine ⟨x, some (tW c), some (.loc T1.length), T5, ?_, hxp, (List.getElem?_eq_some_iff.mp F5).1, P5, X5⟩
  unfold wB
  refine seq_go (env' := [some (.loc p), some (.int 4), some (.loc F), b3, some (tW cs), a5, none, none]) (st' := s1) ?_ (seq_go e2 (seq_go (env' := [some (.loc p), some (.int 4), some (.loc F), b3, some (tW c), some (.loc T1.length), none, none]) (st' := T2) ?_ ?_))
  · simp -implicitDefEqProofs only [sAsg_ap, dCall_ap, dCons_ap, dVar_ap, dNil_ap, List.getElem?_cons_zero, Res.bind_ok, kCons1_ap, kCons2_ap, kCall_1, e1, Res.then_ok, kAsg_n, List.set_cons_succ, List.set_cons_zero]
    rfl
  · simp -implicitDefEqProofs only [sAsg_ap, dLc_ap, dRange1_ap, dCons_ap, dVar_ap, dNil_ap, List.getElem?_cons_zero, List.getElem?_cons_succ, Res.bind_ok, kCons1_ap, kCons2_ap, hr, wipeW, List.set_cons_succ, List.set_cons_zero]
    rw [kl]
    simp -implicitDefEqProofs only [Res.then_ok, kAsg_n, List.set_cons_succ, List.set_cons_zero]
  · simp -implicitDefEqProofs only [sExpr_ap, dBm_ap, dVar_ap, List.getElem?_cons_zero, List.getElem?_cons_succ, Res.bind_ok, kb, dCons_ap, dOp_ap, dLc_ap, dIt_ap, dLst_ap, dNil_ap, kCons1_ap, kCons2_ap, k1, kOp1_ap, ad, it4, wipeW, List.set_cons_succ, List.set_cons_zero]
    rw [kf]
    simp -implicitDefEqProofs only [Res.bind_ok, kOp1_ap, dC_ap, ix, kCons1_ap, dNil_ap, kCons2_ap, ap, Res.then_ok, kExpr_ap]
theorem words_eq : b__law_words = sSeq (sAsg (dLst dNil) (tName 2)) (sSeq (sFor (dRange1 (dCons (dVar 1) dNil)) (tName 3) wB) (sRet (dVar 2))) := rfl
theorem words_ok (P : PotA p n S) (hn : n + 250 ≤ 1000000) : ∃ (xs : List (List Nat)) (S' : Store), d__law_words [.loc p, .int 4] S = .ok (.loc S.length) (S' ++ [.lst (xs.map tW)]) ∧ xs.length = 4 ∧ (∀ x ∈ xs, PL x) ∧ PotA p (n + 200) S' ∧ Kp p S S' := by
  have hl := P.lt
  have kn : kLst [] S = .ok (.loc S.length) (S ++ [.lst []]) := lst5 (by simp)
  obtain ⟨T0, hT0⟩ : ∃ T0, T0 = S ++ [Ob.lst []] := ⟨_, rfl⟩
  rw [← hT0] at kn
  have P0 : PotA p n T0 := by rw [hT0]; exact P.app _
  have g0 : T0[S.length]? = some (.lst ([].map tW)) := by rw [hT0]; simp
  have X0 : Ext p S T0 := by rw [hT0]; exact .app _
  have hr := kR1_ok (st := T0) (j := 4) (by decide) (by decide)
  obtain ⟨env', S', e, ⟨c3, c4, c5, rfl⟩, xs, hxl, hpl, gS, PS, XS⟩ := forW_ok (chk := (ItW.mk (intsW 0 (4 : Int).toNat) none).Chk) (t := tName 3) (b := wB)
    (fun i env T => (∃ c3 c4 c5, env = [some (.loc p), some (.int 4), some (.loc S.length), c3, c4, c5, none, none]) ∧ ∃ xs : List (List Nat), xs.length = i ∧ (∀ x ∈ xs, PL x) ∧ T[S.length]? = some (.lst (xs.map tW)) ∧ PotA p (n + 40 * i) T ∧ Ext p S T) (fun _ _ _ _ => by simp) (intsW 0 (4 : Int).toNat) 0 [some (.loc p), some (.int 4), some (.loc S.length), none, none, none, none, none] T0
    (fun i w env T hw hI => by
      obtain ⟨⟨c3, c4, c5, rfl⟩, xs, hxl, hpl, gT, PT, XT⟩ := hI
      have hi : i < 4 := (ints_get hw).1
      rw [Nat.zero_add] at *
      obtain ⟨x, d4, d5, T', e, hx, hF, P', X'⟩ := wB_ok (b3 := some w) (a4 := c4) (a5 := c5) PT gT (by omega) (by omega) hpl (by omega)
      exact ⟨_, _, _, _, rfl, e, ⟨_, _, _, rfl⟩, xs ++ [x], by simp [hxl], fun z hz => by
        rcases List.mem_append.mp hz with h | h
        · exact hpl z h
        · rw [List.mem_singleton.mp h]; exact hx, by rw [List.getElem?_set_self hF], (P'.set (by omega)).mono (by omega), (XT.trans X').set (Nat.le_refl _)⟩) ⟨⟨none, none, none, rfl⟩, [], rfl, by simp, g0, by simpa using P0, X0⟩
  have hlen : (intsW 0 (4 : Int).toNat).length = 4 := rfl
  rw [hlen] at hxl PS
  have hcl : clBs S.length (xs.map tW) = true := by
    have : ∀ l : List (List Nat), clBs S.length (l.map tW) = true := fun l => by
      induction l with
      | nil => rfl
      | cons a l ih => simp only [List.map_cons, clBs, Bool.and_eq_true]; exact ⟨rfl, ih⟩
    exact this xs
  obtain ⟨G1, G2, G3⟩ := gc_potL XS PS hl (Nat.le_refl _) gS hcl
  refine ⟨xs, _, ?_, by simpa using hxl, hpl, G3.mono (by omega), G2⟩
  have body : b__law_words [some (.loc p), some (.int 4), none, none, none, none, none, none] S = .go (.rt (.loc S.length)) [some (.loc p), some (.int 4), some (.loc S.length), c3, c4, c5, none, none] S' := by
    rw [words_eq]
    refine seq_go (env' := [some (.loc p), some (.int 4), some (.loc S.length), none, none, none, none, none]) (st' := T0) ?_ (seq_go (env' := [some (.loc p), some (.int 4), some (.loc S.length), c3, c4, c5, none, none]) (st' := S') ?_ ?_)
    · simp -implicitDefEqProofs only [sAsg_ap, dLst_ap, dNil_ap, Res.bind_ok, kn, Res.then_ok, kAsg_n, List.set_cons_succ, List.set_cons_zero]
    · rw [sFor_ap]
      simp -implicitDefEqProofs only [dRange1_ap, dCons_ap, dVar_ap, dNil_ap, List.getElem?_cons_zero, List.getElem?_cons_succ, Res.bind_ok, kCons1_ap, kCons2_ap, hr, Res.then_ok, kFor]
      exact e
    · simp -implicitDefEqProofs only [sRet_ap, dVar_ap, List.getElem?_cons_zero, List.getElem?_cons_succ, Res.then_ok, kRet_ap]
  unfold d__law_words; rw [fnDen_ap]
  simp -implicitDefEqProofs only [List.map_cons, List.map_nil, List.length_cons, List.length_nil, Nat.reduceAdd, Nat.reduceSub, List.replicate_succ, List.replicate_zero, List.cons_append, List.nil_append]
  rw [body, fnR_rt, G1]
end
end
end K04
namespace K04
open PySem PySem.Spec PyProof.Rows L2 MP
open Classical
noncomputable section
theorem tuple_loc {T : Store} {w : Nat} {ws : List W} (h : T[w]? = some (.lst ws)) : tupleW [.loc w] T = .ok (.tup ws) T := by
  unfold tupleW lstW
  simp only [h]
/-- a name without a star -/
def NM (w : W) : Prop := ∃ l : List (List Nat), w = .tup (l.map tW) ∧ (∀ x ∈ l, PL x) ∧ l.length ≤ 12
theorem NM.pu {w : W} (h : NM w) : pu w := by
  obtain ⟨l, rfl, hl, h2⟩ := h
  show (decide ((l.map tW).length ≤ 8192) && (l.map tW).all (puB 4)) = true
  rw [Bool.and_eq_true, decide_eq_true_iff, List.all_eq_true]
  exact ⟨by simp; omega, fun a ha => by
    obtain ⟨x, hx, rfl⟩ := List.mem_map.mp ha
    exact (hl x hx).ok⟩
theorem NM.ask {w : W} (h : NM w) : askB w = true := by
  obtain ⟨l, rfl, hl, h2⟩ := h
  show (l.map tW).all plS = true
  rw [List.all_map, List.all_eq_true]
  exact fun x hx => (hl x hx).plain
theorem NM.cl {w : W} (h : NM w) (k : Nat) : clB k w = true := cl_pu k 5 w h.pu
theorem nms_cl {nl : List W} (h : ∀ w ∈ nl, NM w) (k : Nat) : clBs k nl = true := cls_pu k 5 nl fun w hw => (h w hw).pu
def nB : DS := (sExpr (dBm tyL appendW (dVar 2) (dCons (dApp tupleW (dCons (dLc (dRange1 (dCons (dCall 2 d__law_take (dCons (dVar 0) (dCons (dC (.int 5)) dNil))) dNil)) [4] (tName 4) dYes (dOp ixW (dVar 1) (dCall 2 d__law_take (dCons (dVar 0) (dCons (dC (.int 4)) dNil))))) dNil)) dNil)))
section
variable {p n F q : Nat} {S : Store} {xs : List (List Nat)} {nl : List W} {b3 : Option W}
theorem nB_ok (P : PotA p n S) (hF : S[F]? = some (.lst nl)) (hq : S[q]? = some (.lst (xs.map tW))) (hpF : p ≠ F) (hpq : p ≠ q) (hx : xs.length = 4) (hpl : ∀ x ∈ xs, PL x) (hnl : nl.length ≤ 10) (hn : n + 10 ≤ 1000000) : ∃ (w : W) (T : Store), nB [some (.loc p), some (.loc q), some (.loc F), b3, none] S = .go .nx [some (.loc p), some (.loc q), some (.loc F), b3, none] (T.set F (.lst (nl ++ [w]))) ∧ NM w ∧ F < T.length ∧ PotA p (n + 6) T ∧ Ext p S T := by
  have kb : ∀ r env, kBm tyL appendW r env (.loc F) S = (r env S).bind (appendW (.loc F)) := fun r env => kBm_l appendW hF
  obtain ⟨r, s1, e1, r0, r1, P1, K1⟩ := take_ok (m := 5) P (by omega) (by decide) (by decide)
  have hr := kR1_ok (st := s1) (j := r) (Int.le_trans (by decide) r0) (Int.lt_trans r1 (by decide))
  have hql : q < S.length := (List.getElem?_eq_some_iff.mp hq).1
  have q1 : s1[q]? = some (.lst (xs.map tW)) := by rw [K1.keep _ (Ne.symm hpq)]; exact hq
  obtain ⟨acc, s2, e2, hn2, P2, X2, l, rfl, hl⟩ := kLc_ok (env := [some (.loc p), some (.loc q), some (.loc F), b3, none]) (i := 4) (e := (dOp ixW (dVar 1) (dCall 2 d__law_take (dCons (dVar 0) (dCons (dC (.int 4)) dNil))))) (st := s1) (ws := intsW 0 r.toNat)
    (fun i acc S => PotA p (n + 1 + i) S ∧ Kp p s1 S ∧ ∃ l : List (List Nat), acc = l.map tW ∧ ∀ x ∈ l, PL x) (fun i w acc S hw hJ => by
      obtain ⟨hP, hX, l, rfl, hl⟩ := hJ
      have hi : i < r.toNat := by rw [← ints_len]; exact (List.getElem?_eq_some_iff.mp hw).1
      obtain ⟨t, s', e, t0, t1, P, Kq⟩ := take_ok (m := 4) hP (by omega) (by decide) (by decide)
      obtain ⟨j, rfl⟩ : ∃ j : Nat, t = (j : Int) := ⟨t.toNat, by omega⟩
      have hj : j < xs.length := by omega
      have q' : s'[q]? = some (.lst (xs.map tW)) := by rw [Kq.keep _ (Ne.symm hpq), hX.keep _ (Ne.symm hpq)]; exact q1
      have ix := ix_tW q' hj
      have hxj : PL (xs.getD j []) := by
        rw [List.getD_eq_getElem?_getD, List.getElem?_eq_getElem hj]; exact hpl _ (List.getElem_mem _)
      refine ⟨tW (xs.getD j []), s', ?_, P, hX.trans Kq, l ++ [xs.getD j []], by simp, fun z hz => by
        rcases List.mem_append.mp hz with h | h
        · exact hl z h
        · rw [List.mem_singleton.mp h]; exact hxj⟩
      generalize xs.getD j [] = y at *
      generalize (j : Int) = J at *
      simp -implicitDefEqProofs only [dOp_ap, dVar_ap, dCall_ap, dCons_ap, dC_ap, dNil_ap, List.set_cons_succ, List.set_cons_zero, List.getElem?_cons_zero, List.getElem?_cons_succ, Res.bind_ok, kOp1_ap, kCons1_ap, kCons2_ap, kCall_2, e, ix]) (by rw [ints_len]; exact line8 (by omega)) ⟨P1, .refl, [], rfl, by simp⟩
  rw [ints_len] at hn2 P2
  have hll : l.length ≤ 5 := by have : l.length = r.toNat := by simpa using hn2
                                omega
  obtain ⟨T, hT⟩ : ∃ T, T = s2 ++ [Ob.lst (l.map tW)] := ⟨_, rfl⟩
  rw [← hT] at e2
  have tu : tupleW [.loc s2.length] T = .ok (.tup (l.map tW)) T := tuple_loc (by rw [hT]; simp)
  have FT : T[F]? = some (.lst nl) := by rw [hT]; refine get_app _ ?_; rw [X2.keep _ (Ne.symm hpF), K1.keep _ (Ne.symm hpF)]; exact hF
  have ap := app_nums (w := .tup (l.map tW)) FT (Nat.lt_of_le_of_lt hnl (by decide))
  refine ⟨.tup (l.map tW), T, ?_, ⟨l, rfl, hl, by omega⟩, (List.getElem?_eq_some_iff.mp FT).1, by rw [hT]; exact (P2.mono (by omega)).app _, by rw [hT]; exact (K1.ext.trans X2.ext).trans (.app _)⟩
  unfold nB
  simp -implicitDefEqProofs only [sExpr_ap, dBm_ap, dVar_ap, List.getElem?_cons_zero, List.getElem?_cons_succ, Res.bind_ok, kb, dCons_ap, dApp_ap, dLc_ap, dRange1_ap, dCall_ap, dC_ap, dNil_ap, kCons1_ap, kCons2_ap, kCall_2, e1, hr, wipeW, List.set_cons_succ, List.set_cons_zero]
  rw [e2]
  simp -implicitDefEqProofs only [Res.bind_ok, kCons1_ap, dNil_ap, kCons2_ap, tu, ap, Res.then_ok, kExpr_ap]
theorem names_eq : b__law_names = sSeq (sAsg (dCall 2 d__law_words (dCons (dVar 0) (dCons (dC (.int 4)) dNil))) (tName 1))
    (sSeq (sAsg (dLst (dCons (dTup dNil) (dCons (dTup (dCons (dOp ixW (dVar 1) (dC (.int 0))) dNil)) (dCons (dApp tupleW (dCons (dOp mulW (dVar 1) (dC (.int 3))) dNil)) dNil)))) (tName 2))
    (sSeq (sFor (dRange1 (dCons (dC (.int 3)) dNil)) (tName 3) nB)
    (sRet (dVar 2)))) := rfl
theorem names_ok (P : PotA p n S) (hn : n + 300 ≤ 1000000) : ∃ (nl : List W) (S' : Store), d__law_names [.loc p] S = .ok (.loc S.length) (S' ++ [.lst nl]) ∧ nl.length = 6 ∧ (∀ w ∈ nl, NM w) ∧ PotA p (n + 250) S' ∧ Kp p S S' := by
  have hl := P.lt
  obtain ⟨xs, S1, e1, hx4, hpl, P1, K1⟩ := words_ok P (by omega)
  obtain ⟨T, hT⟩ : ∃ T, T = S1 ++ [Ob.lst (xs.map tW)] := ⟨_, rfl⟩
  rw [← hT] at e1
  obtain ⟨q, hq⟩ : ∃ q, q = S.length := ⟨_, rfl⟩
  rw [← hq] at e1
  have qT : T[q]? = some (.lst (xs.map tW)) := by rw [hT, hq, ← K1.len]; simp
  have PT : PotA p (n + 200) T := by rw [hT]; exact P1.app _
  have XT : Ext p S T := by rw [hT]; exact K1.ext.trans (.app _)
  have hx0 : 0 < xs.length := by omega
  have ix0 : ixW (.loc q) (.int 0) T = .ok (tW (xs.getD 0 [])) T := ix_tW (i := 0) qT hx0
  have x0 : PL (xs.getD 0 []) := by rw [List.getD_eq_getElem?_getD, List.getElem?_eq_getElem hx0]; exact hpl _ (List.getElem_mem _)
  generalize xs.getD 0 [] = y at *
  have kt0 : kTup [] T = .ok (.tup []) T := ten (by simp)
  have kt1 : kTup [tW y] T = .ok (.tup [tW y]) T := ten (by simp)
  have mu : mulW (.loc q) (.int 3) T = .ok (.loc T.length) (T ++ [.lst (List.replicate (3 : Int).toNat (xs.map tW)).flatten]) := mulW_l qT (by decide) (by decide) (by simp; omega)
  have hfl : (List.replicate (3 : Int).toNat (xs.map tW)).flatten = (xs ++ (xs ++ xs)).map tW := by
    show (List.replicate 3 (xs.map tW)).flatten = _
    simp [List.replicate_succ]
  rw [hfl] at mu
  obtain ⟨T1, hT1⟩ : ∃ T1, T1 = T ++ [Ob.lst ((xs ++ (xs ++ xs)).map tW)] := ⟨_, rfl⟩
  rw [← hT1] at mu
  have tu : tupleW [.loc T.length] T1 = .ok (.tup ((xs ++ (xs ++ xs)).map tW)) T1 := tuple_loc (by rw [hT1]; simp)
  obtain ⟨nl, hnl⟩ : ∃ nl : List W, nl = [.tup [], .tup [tW y], .tup ((xs ++ (xs ++ xs)).map tW)] := ⟨_, rfl⟩
  have nm0 : ∀ w ∈ nl, NM w := fun w hw => by
    rw [hnl] at hw
    simp only [List.mem_cons, List.not_mem_nil, or_false] at hw
    rcases hw with rfl | rfl | rfl
    · exact ⟨[], rfl, by simp, by simp⟩
    · exact ⟨[y], rfl, by simpa using x0, by simp⟩
    · refine ⟨_, rfl, fun x hx => ?_, by simp; omega⟩
      rcases List.mem_append.mp hx with h | h
      · exact hpl x h
      · rcases List.mem_append.mp h with h | h <;> exact hpl x h
  have kl : kLst [.tup [], .tup [tW y], .tup ((xs ++ (xs ++ xs)).map tW)] T1 = .ok (.loc T1.length) (T1 ++ [.lst nl]) := by rw [hnl]; exact lst5 (by simp)
  have hn3 : nl.length = 3 := by rw [hnl]; rfl
  clear hnl hfl
  obtain ⟨T2, hT2⟩ : ∃ T2, T2 = T1 ++ [Ob.lst nl] := ⟨_, rfl⟩
  rw [← hT2] at kl
  obtain ⟨F, hF⟩ : ∃ F, F = T1.length := ⟨_, rfl⟩
  rw [← hF] at kl
  have F2 : T2[F]? = some (.lst nl) := by rw [hT2, hF]; simp
  have q2 : T2[q]? = some (.lst (xs.map tW)) := by rw [hT2, hT1]; exact get_app _ (get_app _ qT)
  have P2 : PotA p (n + 200) T2 := by rw [hT2, hT1]; exact (PT.app _).app _
  have X2 : Ext p S T2 := by rw [hT2, hT1]; exact (XT.trans (.app _)).trans (.app _)
  have lT : S.length < T1.length := by rw [hT1, hT]; simp [K1.len]
  have hr := kR1_ok (st := T2) (j := 3) (by decide) (by decide)
  obtain ⟨env', S', e, ⟨c3, rfl⟩, ml, hml, hnm, gS, qS, PS, XS⟩ := forW_ok (chk := (ItW.mk (intsW 0 (3 : Int).toNat) none).Chk) (t := tName 3) (b := nB)
    (fun i env T => (∃ c3, env = [some (.loc p), some (.loc q), some (.loc F), c3, none]) ∧ ∃ ml : List W, ml.length = 3 + i ∧ (∀ w ∈ ml, NM w) ∧ T[F]? = some (.lst ml) ∧ T[q]? = some (.lst (xs.map tW)) ∧ PotA p (n + 200 + 6 * i) T ∧ Ext p S T) (fun _ _ _ _ => by simp) (intsW 0 (3 : Int).toNat) 0 [some (.loc p), some (.loc q), some (.loc F), none, none] T2
    (fun i w env T hw hI => by
      obtain ⟨⟨c3, rfl⟩, ml, hml, hnm, gT, qT, PT, XT⟩ := hI
      have hi : i < 3 := (ints_get hw).1
      rw [Nat.zero_add] at *
      obtain ⟨w', T', e, hw', hFT, P', X'⟩ := nB_ok (b3 := some w) PT gT qT (by omega) (by omega) hx4 hpl (by omega) (by omega)
      exact ⟨_, _, _, _, rfl, e, ⟨_, rfl⟩, ml ++ [w'], by simp [hml]; omega, fun z hz => by
        rcases List.mem_append.mp hz with h | h
        · exact hnm z h
        · rw [List.mem_singleton.mp h]; exact hw', by rw [List.getElem?_set_self hFT], by rw [List.getElem?_set_ne (by omega)]; exact X'.get qT (by omega), (P'.set (by omega)).mono (by omega), (XT.trans X').set (by omega)⟩) ⟨⟨none, rfl⟩, nl, by omega, nm0, F2, q2, by simpa using P2, X2⟩
  have hlen : (intsW 0 (3 : Int).toNat).length = 3 := rfl
  rw [hlen] at hml PS
  obtain ⟨G1, G2, G3⟩ := gc_potL XS PS hl (by omega) gS (nms_cl hnm _)
  refine ⟨ml, _, ?_, by omega, hnm, G3.mono (by omega), G2⟩
  have body : b__law_names [some (.loc p), none, none, none, none] S = .go (.rt (.loc F)) [some (.loc p), some (.loc q), some (.loc F), c3, none] S' := by
    rw [names_eq]
    refine seq_go (env' := [some (.loc p), some (.loc q), none, none, none]) (st' := T) ?_ (seq_go (env' := [some (.loc p), some (.loc q), some (.loc F), none, none]) (st' := T2) ?_ (seq_go (env' := [some (.loc p), some (.loc q), some (.loc F), c3, none]) (st' := S') ?_ ?_))
    · simp -implicitDefEqProofs only [sAsg_ap, dCall_ap, dCons_ap, dVar_ap, dC_ap, dNil_ap, List.getElem?_cons_zero, Res.bind_ok, kCons1_ap, kCons2_ap, kCall_2, e1, Res.then_ok, kAsg_n, List.set_cons_succ, List.set_cons_zero]
    · simp -implicitDefEqProofs only [sAsg_ap, dLst_ap, dCons_ap, dTup_ap, dNil_ap, dOp_ap, dVar_ap, dC_ap, dApp_ap, List.getElem?_cons_zero, List.getElem?_cons_succ, Res.bind_ok, kCons1_ap, kCons2_ap, kOp1_ap, kt0, ix0, kt1, mu, tu, kl, Res.then_ok, kAsg_n, List.set_cons_succ, List.set_cons_zero]
    · rw [sFor_ap]
      simp -implicitDefEqProofs only [dRange1_ap, dCons_ap, dC_ap, dNil_ap, Res.bind_ok, kCons1_ap, kCons2_ap, hr, Res.then_ok, kFor]
      exact e
    · simp -implicitDefEqProofs only [sRet_ap, dVar_ap, List.getElem?_cons_zero, List.getElem?_cons_succ, Res.then_ok, kRet_ap]
  unfold d__law_names; rw [fnDen_ap]
  simp -implicitDefEqProofs only [List.map_cons, List.map_nil, List.length_cons, List.length_nil, Nat.reduceAdd, Nat.reduceSub, List.replicate_succ, List.replicate_zero, List.cons_append, List.nil_append]
  rw [body, fnR_rt, G1]
end
end
end K04
namespace K04
open PySem PySem.Spec PyProof.Rows L2 MP
open Classical
noncomputable section
section
variable {p n F q : Nat} {S : Store}
/-- an item of a list of numbers that has just been made, its place drawn by f -/
theorem ix_nums0 {T : Store} {l : List Int} {m : Nat} {t : Int} (g : T[m]? = some (.lst (l.map W.int))) (t0 : 0 ≤ t) (t1 : t < (l.length : Int)) : ∃ z ∈ l, ixW (.loc m) (.int t) T = .ok (.int z) T := by
  obtain ⟨j, rfl⟩ : ∃ j : Nat, t = (j : Int) := ⟨t.toNat, by omega⟩
  have hj : j < l.length := by omega
  refine ⟨l.getD j 0, ?_, ix_nums g hj⟩
  rw [List.getD_eq_getElem?_getD, List.getElem?_eq_getElem hj]; exact List.getElem_mem _
theorem number_ok {m : Int} (P : PotA p n S) (hn : n + 5 ≤ 1000000) (h0 : 0 < m) (h1 : m.natAbs.log2 < 9000) : ∃ (z : Int) (S' : Store), d__law_number [.loc p, .int m] S = .ok (.int z) S' ∧ 0 ≤ z ∧ z < m ∧ PotA p (n + 3) S' ∧ Kp p S S' := by
  have hl := P.lt
  obtain ⟨c, hc, c0, c1, c2⟩ : ∃ c : Int, (if m < 4 then m else 4) = c ∧ 0 < c ∧ c ≤ 4 ∧ c ≤ m := by
    by_cases q : m < 4
    · exact ⟨m, if_pos q, h0, by omega, by omega⟩
    · exact ⟨4, if_neg q, by decide, by decide, by omega⟩
  have mn : ∀ T, minW [.int 4, .int m] T = .ok (.int c) T := fun T => by rw [minW_i, hc]
  obtain ⟨a, s1, e1, a0, a1, P1, K1⟩ := take_ok (m := c) P (by omega) c0 (by omega)
  obtain ⟨b, s2, e2, b0, b1, P2, K2⟩ := take_okG (m := m) P1 (by omega) h0 h1
  have kl : kLst [.int a, .int b, .int (m - 1), .int 0] s2 = .ok (.loc s2.length) (s2 ++ [.lst ([a, b, m - 1, 0].map W.int)]) := lst5 (by simp)
  obtain ⟨T, hT⟩ : ∃ T, T = s2 ++ [Ob.lst ([a, b, m - 1, 0].map W.int)] := ⟨_, rfl⟩
  rw [← hT] at kl
  obtain ⟨t, s3, e3, t0, t1, P3, K3⟩ := take_ok (m := 4) (by rw [hT]; exact P2.app _ : PotA p (n + 1 + 1) T) (by omega) (by decide) (by decide)
  have hpl : p ≠ s2.length := by have := P2.lt; omega
  have g3 : s3[s2.length]? = some (.lst ([a, b, m - 1, 0].map W.int)) := by rw [K3.keep _ (Ne.symm hpl), hT]; simp
  obtain ⟨z, hz, ix⟩ := ix_nums0 g3 t0 t1
  have zr : 0 ≤ z ∧ z < m := by
    simp only [List.mem_cons, List.not_mem_nil, or_false] at hz
    rcases hz with rfl | rfl | rfl | rfl <;> constructor <;> omega
  have X : Ext p S s3 := by
    have : Ext p S T := by rw [hT]; exact (K1.ext.trans K2.ext).trans (.app _)
    exact this.trans K3.ext
  obtain ⟨G1, G2, G3⟩ := gc_pot (v := .int z) X P3 hl rfl
  refine ⟨z, _, ?_, zr.1, zr.2, G3.mono (by omega), G2⟩
  unfold d__law_number; rw [fnDen_ap]; unfold b__law_number
  simp -implicitDefEqProofs only [List.map_cons, List.map_nil, List.length_cons, List.length_nil, Nat.reduceAdd, Nat.reduceSub, List.replicate_succ, List.replicate_zero, List.cons_append, List.nil_append, sRet_ap, dOp_ap, dLst_ap, dCall_ap, dCons_ap, dVar_ap, dC_ap, dApp_ap, dNil_ap, List.getElem?_cons_zero, List.getElem?_cons_succ, Res.bind_ok, kCons1_ap, kCons2_ap, kOp1_ap, mn, kCall_2, e1, e2, subW_i, kl, e3, ix, Res.then_ok, kRet_ap, fnR_rt, G1]
def SG : Str := " !\"#$&'()*+,-./0123456789:;<=>?@AZ[\\]^_`az{|}~"
theorem sg_ok : okS SG = true := by decide +kernel
theorem sg_signs : ∀ c ∈ SG.cps.toList, signB c = true := by decide +kernel
theorem sg_len : SG.length = 46 := by decide +kernel
theorem text_ok (P : PotA p n S) (hn : n + 80 ≤ 1000000) : ∃ (x : Str) (S' : Store), d__law_text [.loc p] S = .ok (.str x) S' ∧ okS x = true ∧ textB (.str x) = true ∧ PotA p (n + 70) S' ∧ Kp p S S' := by
  have hl := P.lt
  obtain ⟨a, s1, e1, a0, a1, P1, K1⟩ := take_ok (m := 6) P (by omega) (by decide) (by decide)
  obtain ⟨b, s2, e2, b0, b1, P2, K2⟩ := take_ok (m := 61) P1 (by omega) (by decide) (by decide)
  have kl : kLst [.int a, .int b, .int 60] s2 = .ok (.loc s2.length) (s2 ++ [.lst ([a, b, 60].map W.int)]) := lst5 (by simp)
  obtain ⟨T, hT⟩ : ∃ T, T = s2 ++ [Ob.lst ([a, b, 60].map W.int)] := ⟨_, rfl⟩
  rw [← hT] at kl
  obtain ⟨t, s3, e3, t0, t1, P3, K3⟩ := take_ok (m := 6) (by rw [hT]; exact P2.app _ : PotA p (n + 1 + 1) T) (by omega) (by decide) (by decide)
  obtain ⟨u, s4, e4, u0, u1, P4, K4⟩ := take_ok (m := 2) P3 (by omega) (by decide) (by decide)
  have d1 : fdivW (.int t) (.int 2) s3 = .ok (.int (t / 2)) s3 := div_ok (by decide) (by decide)
  have d2 : fdivW (.int (t / 2)) (.int 2) s3 = .ok (.int (t / 2 / 2)) s3 := div_ok (by decide) (by decide)
  have hpl : p ≠ s2.length := by have := P2.lt; omega
  have g4 : s4[s2.length]? = some (.lst ([a, b, 60].map W.int)) := by rw [K4.keep _ (Ne.symm hpl), K3.keep _ (Ne.symm hpl), hT]; simp
  obtain ⟨k, hk, ix⟩ := ix_nums0 (t := t / 2 / 2 + u) g4 (by omega) (by simp only [List.length_cons, List.length_nil]; omega)
  have kr : 0 ≤ k ∧ k ≤ 60 := by
    simp only [List.mem_cons, List.not_mem_nil, or_false] at hk
    rcases hk with rfl | rfl | rfl <;> constructor <;> omega
  have hr := kR1_ok (st := s4) (j := k) (Int.le_trans (by decide) kr.1) (Int.lt_of_le_of_lt kr.2 (by decide))
  have ln : ∀ T, lenW [.str SG] T = .ok (.int 46) T := fun T => by rw [len_str (okS.line sg_ok), sg_len]; rfl
  obtain ⟨acc, s5, e5, hn5, P5, X5, l, rfl, hls⟩ := kLc_ok (env := [some (.loc p), some (.str SG), some (.int k), none]) (i := 3) (e := (dOp ixW (dVar 1) (dCall 2 d__law_take (dCons (dVar 0) (dCons (dApp lenW (dCons (dVar 1) dNil)) dNil))))) (st := s4) (ws := intsW 0 k.toNat)
    (fun i acc T => PotA p (n + 4 + i) T ∧ Kp p s4 T ∧ ∃ l : List Nat, acc = l.map sgn ∧ ∀ c ∈ l, signB c = true) (fun i w acc T hw hJ => by
      obtain ⟨hP, hX, l, rfl, hls⟩ := hJ
      have hi : i < k.toNat := by rw [← ints_len]; exact (List.getElem?_eq_some_iff.mp hw).1
      obtain ⟨t, s', e, t0, t1, P, Kq⟩ := take_ok (m := 46) hP (by omega) (by decide) (by decide)
      obtain ⟨c, _, hc, ey⟩ := ix_str (x := SG) (i := t) (okS.line sg_ok) t0 (by rw [sg_len]; exact t1)
      refine ⟨sgn c, s', ?_, P, hX.trans Kq, l ++ [c], by simp, fun z hz => by
        rcases List.mem_append.mp hz with h | h
        · exact hls z h
        · rw [List.mem_singleton.mp h]; exact sg_signs c hc⟩
      simp -implicitDefEqProofs only [dOp_ap, dVar_ap, dCall_ap, dCons_ap, dApp_ap, dNil_ap, List.set_cons_succ, List.set_cons_zero, List.getElem?_cons_zero, List.getElem?_cons_succ, Res.bind_ok, kOp1_ap, kCons1_ap, kCons2_ap, ln, kCall_2, e, ey, sgn]) (by rw [ints_len]; exact line8 (by omega)) ⟨P4, .refl, [], rfl, by simp⟩
  rw [ints_len] at hn5 P5
  have hll : l.length ≤ 60 := by
    have : l.length = k.toNat := by simpa using hn5
    omega
  obtain ⟨U, hU⟩ : ∃ U, U = s5 ++ [Ob.lst (l.map sgn)] := ⟨_, rfl⟩
  rw [← hU] at e5
  have jn : joinW (.str "") [.loc s5.length] U = .ok (.str (txt l)) U := sgn_join (by rw [hU]; simp) (by omega)
  have X : Ext p S U := by
    have x1 : Ext p S T := by rw [hT]; exact (K1.ext.trans K2.ext).trans (.app _)
    rw [hU]; exact (((x1.trans K3.ext).trans K4.ext).trans X5.ext).trans (.app _)
  have PU : PotA p (n + 70) U := by rw [hU]; exact (P5.mono (by omega)).app _
  obtain ⟨G1, G2, G3⟩ := gc_pot (v := .str (txt l)) X PU hl rfl
  have s128 : ∀ c, signB c = true → c < 128 := fun c hc => by
    unfold signB at hc
    simp only [Bool.and_eq_true, decide_eq_true_eq] at hc
    omega
  refine ⟨txt l, _, ?_, okS_iff.mpr ⟨by rw [txt_len]; omega, fun c hc => s128 c (hls c hc)⟩, ?_, G3, G2⟩
  · unfold d__law_text; rw [fnDen_ap]; unfold b__law_text
    rw [show (" !\"#$&'()*+,-./0123456789:;<=>?@AZ[\\]^_`az{|}~" : Str) = SG from rfl]
    simp -implicitDefEqProofs only [List.map_cons, List.map_nil, List.length_cons, List.length_nil, Nat.reduceAdd, Nat.reduceSub, List.replicate_succ, List.replicate_zero, List.cons_append, List.nil_append, sSeq_ap, sAsg_ap, dC_ap, Res.then_ok, kAsg_n, List.set_cons_succ, List.set_cons_zero, RsS.next_nx, dOp_ap, dLst_ap, dCall_ap, dCons_ap, dVar_ap, dNil_ap, List.getElem?_cons_zero, List.getElem?_cons_succ, Res.bind_ok, kCons1_ap, kCons2_ap, kOp1_ap, kCall_2, e1, e2, kl, e3, d1, d2, e4, addW_i, ix, sRet_ap, dBm_ap, kBm_s, dLc_ap, dRange1_ap, hr, wipeW]
    rw [e5]
    simp -implicitDefEqProofs only [Res.bind_ok, kCons1_ap, dNil_ap, kCons2_ap, jn, Res.then_ok, kRet_ap, fnR_rt, G1]
  · show (decide ((txt l).length ≤ 60) && (cl (txt l)).all signB) = true
    rw [txt_len, cl_txt, decide_eq_true hll, Bool.true_and, List.all_eq_true]
    exact hls
end
end
end K04
namespace K04
open PySem PySem.Spec PyProof.Rows L2 MP
open Classical
noncomputable section
theorem addW_tt {xs ys : List W} {st : Store} (hl : xs.length + ys.length ≤ 8192) : addW (.tup xs) (.tup ys) st = .ok (.tup (xs ++ ys)) st := if_pos (line8 hl)
theorem range_i {lo hi z : Int} (h : lo ≤ z) (h' : z ≤ hi) : rangeB lo hi (.int z) = true := by
  show (decide (lo ≤ z) && decide (z ≤ hi)) = true
  rw [decide_eq_true h, decide_eq_true h']; rfl
theorem pu_tup {ws : List W} (hl : ws.length ≤ 8192) (h : ∀ w ∈ ws, puB 4 w = true) : pu (.tup ws) := by
  show (decide (ws.length ≤ 8192) && ws.all (puB 4)) = true
  rw [Bool.and_eq_true, decide_eq_true_iff, List.all_eq_true]
  exact ⟨hl, h⟩
theorem NM.pu4 {w : W} (h : NM w) : puB 4 w = true := by
  obtain ⟨l, rfl, hl, h2⟩ := h
  show (decide ((l.map tW).length ≤ 8192) && (l.map tW).all (puB 3)) = true
  rw [Bool.and_eq_true, decide_eq_true_iff, List.all_eq_true]
  exact ⟨by simp; omega, fun a ha => by
    obtain ⟨x, hx, rfl⟩ := List.mem_map.mp ha
    exact (hl x hx).ok⟩
theorem ints_pu {l : List Int} : ∀ w ∈ l.map W.int, puB 4 w = true := fun w hw => by obtain ⟨z, _, rfl⟩ := List.mem_map.mp hw; rfl
/-- small things -/
def S0 (w : W) : Prop := (∃ z, w = .int z) ∨ (∃ x : Str, w = .str x ∧ okS x = true ∧ x.length ≤ 100) ∨ ∃ us : List W, w = .tup us ∧ us.length ≤ 100 ∧ ∀ x ∈ us, ∃ s : Str, x = .str s ∧ okS s = true
def S1 (w : W) : Prop := S0 w ∨ ∃ ws : List W, w = .tup ws ∧ ws.length ≤ 100 ∧ ∀ a ∈ ws, S0 a
theorem NM.s0 {w : W} (h : NM w) : S0 w := by
  obtain ⟨l, rfl, hl, h2⟩ := h
  refine .inr (.inr ⟨_, rfl, by simp; omega, fun x hx => ?_⟩)
  obtain ⟨y, hy, rfl⟩ := List.mem_map.mp hx
  exact ⟨txt y, rfl, (hl y hy).ok⟩
theorem ints_s0 {l : List Int} : ∀ w ∈ l.map W.int, S0 w := fun w hw => by obtain ⟨z, _, rfl⟩ := List.mem_map.mp hw; exact .inl ⟨z, rfl⟩
section
variable {p n N : Nat} {S : Store} {k : Str} {nl : List W}
/-- some numbers in a row -/
theorem four_ok {b0 b1 b2 b3 b4 : Option W} (P : PotA p n S) (hn : n + 30 ≤ 1000000) (h0 : b0 = some (.loc p)) : ∃ (l : List Int) (S' : Store), kLc [b0, b1, b2, b3, b4] (tName 4) dYes (dCall 2 d__law_number (dCons (dVar 0) (dCons (dOp powW (dC (.int 2)) (dC (.int 31))) dNil))) ⟨intsW 0 (4 : Int).toNat, none⟩ S = .ok (.loc S'.length) (S' ++ [.lst (l.map W.int)]) ∧ l.length = 4 ∧ (∀ z ∈ l, 0 ≤ z ∧ z ≤ 2147483647) ∧ PotA p (n + 12) S' ∧ Kp p S S' := by
  subst h0
  obtain ⟨acc, s2, e2, hn2, P2, X2, l, rfl, hl⟩ := kLc_ok (env := [some (.loc p), b1, b2, b3, b4]) (i := 4) (e := (dCall 2 d__law_number (dCons (dVar 0) (dCons (dOp powW (dC (.int 2)) (dC (.int 31))) dNil)))) (st := S) (ws := intsW 0 (4 : Int).toNat)
    (fun i acc T => PotA p (n + 3 * i) T ∧ Kp p S T ∧ ∃ l : List Int, acc = l.map W.int ∧ ∀ z ∈ l, 0 ≤ z ∧ z ≤ 2147483647) (fun i w acc T hw hJ => by
      obtain ⟨hP, hX, l, rfl, hl⟩ := hJ
      have hi4 : i < 4 := (ints_get hw).1
      obtain ⟨z, s', e, z0, z1, P, Kq⟩ := number_ok (m := 2147483648) hP (by omega) (by decide) (by decide +kernel)
      refine ⟨.int z, s', ?_, P.mono (by omega), hX.trans Kq, l ++ [z], by simp, fun y hy => by
        rcases List.mem_append.mp hy with h | h
        · exact hl y h
        · rw [List.mem_singleton.mp h]; exact ⟨z0, by omega⟩⟩
      simp -implicitDefEqProofs only [dCall_ap, dCons_ap, dVar_ap, dOp_ap, dC_ap, dNil_ap, List.set_cons_succ, List.set_cons_zero, List.getElem?_cons_zero, List.getElem?_cons_succ, Res.bind_ok, kCons1_ap, kCons2_ap, kOp1_ap, p31, kCall_2, e]) (by decide) ⟨by simpa using P, .refl, [], rfl, by simp⟩
  have hlen : (intsW 0 (4 : Int).toNat).length = 4 := rfl
  rw [hlen] at hn2 P2
  exact ⟨l, s2, e2, by simpa using hn2, hl, P2.mono (by omega), X2⟩
theorem data_ok (hk : k ∈ c_KINDS) (P : PotA p n S) (hN : S[N]? = some (.lst nl)) (hpN : p ≠ N) (h6 : nl.length = 6) (hnl : ∀ w ∈ nl, NM w) (hn : n + 100 ≤ 1000000) : ∃ (w : W) (S' : Store), d__law_data [.loc p, .str k, .loc N] S = .ok w S' ∧ dataB k w = true ∧ pu w ∧ PotA p (n + 80) S' ∧ Kp p S S' ∧ S1 w := by
  have hl := P.lt
  have ln : lenW [.loc N] S = .ok (.int 6) S := by rw [len_seq (seq_loc hN), h6]; rfl
  obtain ⟨t, s1, e1, t0, t1, P1, K1⟩ := take_ok (m := 6) P (by omega) (by decide) (by decide)
  have N1 : s1[N]? = some (.lst nl) := by rw [K1.keep _ (Ne.symm hpN)]; exact hN
  obtain ⟨nm, hnm, _, ix⟩ := ix_mem (st := s1) (a := .loc N) (ws := nl) (i := t) (seq_loc N1) t0 (by rw [h6]; exact t1)
  have hNM := hnl nm hnm
  have a1 := fun T => eqK (st := T) hk kAddr
  have a2 := fun T => eqK (st := T) hk kText
  have a3 := fun T => eqK (st := T) hk kMail
  have a4 := fun T => eqK (st := T) hk kStart
  have st1 : (sAsg (dOp ixW (dVar 2) (dCall 2 d__law_take (dCons (dVar 0) (dCons (dApp lenW (dCons (dVar 2) dNil)) dNil)))) (tName 3)) [some (.loc p), some (.str k), some (.loc N), none, none] S = .go .nx [some (.loc p), some (.str k), some (.loc N), some nm, none] s1 := by
    simp -implicitDefEqProofs only [sAsg_ap, dOp_ap, dVar_ap, dCall_ap, dCons_ap, dApp_ap, dNil_ap, List.getElem?_cons_zero, List.getElem?_cons_succ, Res.bind_ok, kOp1_ap, kCons1_ap, kCons2_ap, ln, kCall_2, e1, ix, Res.then_ok, kAsg_n, List.set_cons_succ, List.set_cons_zero]
  have cond : ∀ (s : Str) T, eqW (.str k) (.str s) T = .ok (.bl (decide (k = s))) T → dBool (dOp eqW (dVar 0 : D W) (dC (.str s))) [some (.str k)] T = .ok (decide (k = s)) T := fun s T h => by
    simp -implicitDefEqProofs only [dBool_ap, dOp_ap, dVar_ap, dC_ap, List.getElem?_cons_zero, Res.bind_ok, kOp1_ap, h, kBool_ap]
  have cd : ∀ (s : Str) T b, eqW (.str k) (.str s) T = .ok (.bl b) T → dBool (dOp eqW (dVar 1) (dC (.str s))) [some (.loc p), some (.str k), some (.loc N), some nm, none] T = .ok b T := fun s T b h => by
    simp -implicitDefEqProofs only [dBool_ap, dOp_ap, dVar_ap, dC_ap, List.getElem?_cons_zero, List.getElem?_cons_succ, Res.bind_ok, kOp1_ap, h, kBool_ap]
  have fin : ∀ {w : W} {T : Store} {env' : EnvW}, b__law_data [some (.loc p), some (.str k), some (.loc N), none, none] S = .go (.rt w) env' T → dataB k w = true → pu w → PotA p (n + 80) T → Ext p S T → S1 w → ∃ (w : W) (S' : Store), d__law_data [.loc p, .str k, .loc N] S = .ok w S' ∧ dataB k w = true ∧ pu w ∧ PotA p (n + 80) S' ∧ Kp p S S' ∧ S1 w := fun {w T env'} e hd hp PT XT hs => by
    obtain ⟨G1, G2, G3⟩ := gc_pot (v := w) XT PT hl (cl_pu _ 5 w hp)
    refine ⟨w, _, ?_, hd, hp, G3, G2, hs⟩
    unfold d__law_data; rw [fnDen_ap]
    simp -implicitDefEqProofs only [List.map_cons, List.map_nil, List.length_cons, List.length_nil, Nat.reduceAdd, Nat.reduceSub, List.replicate_succ, List.replicate_zero, List.cons_append, List.nil_append]
    rw [e, fnR_rt, G1]
  clear cond
  by_cases q1 : k = "addr"
  · obtain ⟨z, s2, e2, z0, z1, P2, K2⟩ := number_ok (m := 4294967296) P1 (by omega) (by decide) (by decide +kernel)
    have c1 := cd "addr" s1 _ (a1 s1)
    rw [decide_eq_true q1] at c1
    refine fin (w := .int z) (T := s2) (env' := [some (.loc p), some (.str k), some (.loc N), some nm, none]) ?_ (by unfold dataB; rw [if_pos q1]; exact range_i z0 (by omega)) rfl (P2.mono (by omega)) (K1.ext.trans K2.ext) (.inl (.inl ⟨z, rfl⟩))
    unfold b__law_data
    refine seq_go st1 (seq_rt (if_t c1 ?_))
    simp -implicitDefEqProofs only [sRet_ap, dCall_ap, dCons_ap, dVar_ap, dOp_ap, dC_ap, dNil_ap, List.getElem?_cons_zero, List.getElem?_cons_succ, Res.bind_ok, kCons1_ap, kCons2_ap, kOp1_ap, p32, kCall_2, e2, Res.then_ok, kRet_ap]
  have c1 := cd "addr" s1 _ (a1 s1)
  rw [decide_eq_false q1] at c1
  by_cases q2 : k = "text"
  · obtain ⟨x, s2, e2, okx, tx, P2, K2⟩ := text_ok P1 (by omega)
    have c2 := cd "text" s1 _ (a2 s1)
    rw [decide_eq_true q2] at c2
    have hd : dataB k (.str x) = true := by
      have nn : ¬ k ∈ c_NAMING := by rw [q2]; unfold c_NAMING; decide +kernel
      have n3 : ¬ k = "mail" := by rw [q2]; decide +kernel
      have n4 : ¬ k = "start" := by rw [q2]; decide +kernel
      unfold dataB
      rw [if_neg q1, if_neg nn, if_neg n3, if_neg n4]; exact tx
    refine fin (w := .str x) (T := s2) (env' := [some (.loc p), some (.str k), some (.loc N), some nm, none]) ?_ hd okx (P2.mono (by omega)) (K1.ext.trans K2.ext) (.inl (.inr (.inl ⟨x, rfl, okx, by
      have h' : (decide (x.length ≤ 60) && x.cps.toList.all signB) = true := tx
      rw [Bool.and_eq_true, decide_eq_true_iff] at h'
      omega⟩)))
    unfold b__law_data
    refine seq_go st1 (seq_go (if_f c1) (seq_rt (if_t c2 ?_)))
    simp -implicitDefEqProofs only [sRet_ap, dCall_ap, dCons_ap, dVar_ap, dNil_ap, List.getElem?_cons_zero, List.getElem?_cons_succ, Res.bind_ok, kCons1_ap, kCons2_ap, kCall_1, e2, Res.then_ok, kRet_ap]
  have c2 := cd "text" s1 _ (a2 s1)
  rw [decide_eq_false q2] at c2
  by_cases q3 : k = "mail"
  · obtain ⟨z, s2, e2, z0, z1, P2, K2⟩ := number_ok (m := 65536) P1 (by omega) (by decide) (by decide +kernel)
    have c3 := cd "mail" s1 _ (a3 s1)
    rw [decide_eq_true q3] at c3
    have kt : kTup [.int z, nm] s2 = .ok (.tup [.int z, nm]) s2 := ten (by simp)
    have hd : dataB k (.tup [.int z, nm]) = true := by
      have nn : ¬ k ∈ c_NAMING := by rw [q3]; unfold c_NAMING; decide +kernel
      unfold dataB
      rw [if_neg q1, if_neg nn, if_pos q3]
      show (rangeB 0 65535 (.int z) && askB nm) = true
      rw [range_i z0 (by omega), hNM.ask]; rfl
    refine fin (w := .tup [.int z, nm]) (T := s2) (env' := [some (.loc p), some (.str k), some (.loc N), some nm, none]) ?_ hd (pu_tup (by simp) (by simp; exact ⟨rfl, hNM.pu4⟩)) (P2.mono (by omega)) (K1.ext.trans K2.ext) (.inr ⟨_, rfl, by simp, fun a ha => by
      simp only [List.mem_cons, List.not_mem_nil, or_false] at ha
      rcases ha with rfl | rfl
      · exact .inl ⟨z, rfl⟩
      · exact hNM.s0⟩)
    unfold b__law_data
    refine seq_go st1 (seq_go (if_f c1) (seq_go (if_f c2) (seq_rt (if_t c3 ?_))))
    simp -implicitDefEqProofs only [sRet_ap, dTup_ap, dCall_ap, dCons_ap, dVar_ap, dOp_ap, dC_ap, dNil_ap, List.getElem?_cons_zero, List.getElem?_cons_succ, Res.bind_ok, kCons1_ap, kCons2_ap, kOp1_ap, p16, kCall_2, e2, kt, Res.then_ok, kRet_ap]
  have c3 := cd "mail" s1 _ (a3 s1)
  rw [decide_eq_false q3] at c3
  by_cases q4 : k = "start"
  · obtain ⟨z, s2, e2, z0, z1, P2, K2⟩ := number_ok (m := 4294967296) P1 (by omega) (by decide) (by decide +kernel)
    have c4 := cd "start" s1 _ (a4 s1)
    rw [decide_eq_true q4] at c4
    have kt : kTup [nm, .int z] s2 = .ok (.tup [nm, .int z]) s2 := ten (by simp)
    obtain ⟨l, s3, e3, l4, lr, P3, K3⟩ := four_ok (b0 := some (.loc p)) (b1 := some (.str k)) (b2 := some (.loc N)) (b3 := some nm) (b4 := none) P2 (by omega) rfl
    obtain ⟨U, hU⟩ : ∃ U, U = s3 ++ [Ob.lst (l.map W.int)] := ⟨_, rfl⟩
    rw [← hU] at e3
    have tu : tupleW [.loc s3.length] U = .ok (.tup (l.map W.int)) U := tuple_loc (by rw [hU]; simp)
    have ad : addW (.tup [nm, .int z]) (.tup (l.map W.int)) U = .ok (.tup ([nm, .int z] ++ l.map W.int)) U := addW_tt (by simp; omega)
    have hr := kR1_ok (st := s2) (j := 4) (by decide) (by decide)
    have hd : dataB k (.tup ([nm, .int z] ++ l.map W.int)) = true := by
      have nn : ¬ k ∈ c_NAMING := by rw [q4]; unfold c_NAMING; decide +kernel
      unfold dataB
      rw [if_neg q1, if_neg nn, if_neg q3, if_pos q4]
      match l, l4, lr with
      | [a, b, c, d], _, lr =>
        show (askB nm && (rangeB 0 4294967295 (.int z) && [W.int a, .int b, .int c, .int d].all (rangeB 0 2147483647))) = true
        rw [hNM.ask, range_i z0 (by omega)]
        simp only [List.all_cons, List.all_nil, Bool.true_and, Bool.and_true]
        rw [range_i (lr a (by simp)).1 (lr a (by simp)).2, range_i (lr b (by simp)).1 (lr b (by simp)).2, range_i (lr c (by simp)).1 (lr c (by simp)).2, range_i (lr d (by simp)).1 (lr d (by simp)).2]; rfl
    refine fin (w := .tup ([nm, .int z] ++ l.map W.int)) (T := U) (env' := [some (.loc p), some (.str k), some (.loc N), some nm, none]) ?_ hd (pu_tup (by simp; omega) (fun w hw => by
      rcases List.mem_append.mp hw with h | h
      · simp only [List.mem_cons, List.not_mem_nil, or_false] at h
        rcases h with rfl | rfl
        · exact hNM.pu4
        · rfl
      · exact ints_pu w h)) (by rw [hU]; exact (P3.mono (by omega)).app _) (by rw [hU]; exact ((K1.ext.trans K2.ext).trans K3.ext).trans (.app _)) (.inr ⟨_, rfl, by simp; omega, fun a ha => by
      rcases List.mem_append.mp ha with h | h
      · simp only [List.mem_cons, List.not_mem_nil, or_false] at h
        rcases h with rfl | rfl
        · exact hNM.s0
        · exact .inl ⟨z, rfl⟩
      · exact ints_s0 a h⟩)
    unfold b__law_data
    refine seq_go st1 (seq_go (if_f c1) (seq_go (if_f c2) (seq_go (if_f c3) (seq_rt (if_t c4 ?_)))))
    simp -implicitDefEqProofs only [sRet_ap, dTup_ap, dCall_ap, dCons_ap, dVar_ap, dOp_ap, dC_ap, dNil_ap, dApp_ap, dLc_ap, dRange1_ap, List.getElem?_cons_zero, List.getElem?_cons_succ, Res.bind_ok, kCons1_ap, kCons2_ap, kOp1_ap, p32, kCall_2, e2, kt, hr, wipeW, List.set_cons_succ, List.set_cons_zero]
    rw [e3]
    simp -implicitDefEqProofs only [Res.bind_ok, kCons1_ap, dNil_ap, kCons2_ap, tu, ad, Res.then_ok, kRet_ap]
  have c4 := cd "start" s1 _ (a4 s1)
  rw [decide_eq_false q4] at c4
  have nn : k ∈ c_NAMING := by
    rcases kinds_are hk with e | e | e | e | e | e | e | e
    · exact absurd e q1
    · rw [e]; unfold c_NAMING; decide +kernel
    · rw [e]; unfold c_NAMING; decide +kernel
    · exact absurd e q3
    · rw [e]; unfold c_NAMING; decide +kernel
    · exact absurd e q4
    · exact absurd e q2
    · rw [e]; unfold c_NAMING; decide +kernel
  refine fin (w := nm) (T := s1) (env' := [some (.loc p), some (.str k), some (.loc N), some nm, none]) ?_ (by unfold dataB; rw [if_neg q1, if_pos nn]; exact hNM.ask) hNM.pu (P1.mono (by omega)) K1.ext (.inl hNM.s0)
  unfold b__law_data
  refine seq_go st1 (seq_go (if_f c1) (seq_go (if_f c2) (seq_go (if_f c3) (seq_go (if_f c4) ?_))))
  simp -implicitDefEqProofs only [sRet_ap, dVar_ap, List.getElem?_cons_zero, List.getElem?_cons_succ, Res.then_ok, kRet_ap]
end
end
end K04
namespace K04
open PySem PySem.Spec PyProof.Rows L2 MP
open Classical
noncomputable section
def dataV (b d : W) : Bool := match b with
  | .str k => dataB k d
  | _ => false
def recB : W → Bool
  | .tup [a, b, c, d] => nameB a && (kindB b && (rangeB 0 2147483647 c && dataV b d))
  | _ => false
theorem kAsg_4 {i j k l : Nat} {a b c d : W} {env : EnvW} {st : Store} : kAsg (tTupT [tName i, tName j, tName k, tName l]) env (.tup [a, b, c, d]) st = .go .nx ((((env.set i (some a)).set j (some b)).set k (some c)).set l (some d)) st := rfl
section
variable {st : Store} {n : Nat} {w : W} {ws : List W}
theorem recordG (h : Gd st n w) (hn : n ≤ 30) : d_is_record [w] st = .ok (.bl (recB w)) st := by
  unfold d_is_record; rw [fnDen_ap]; unfold b_is_record
  cases w with
  | tup ws =>
    obtain ⟨_, hi⟩ := h.items
    have ln := len_tup (ws := ws) (st := st)
    by_cases hl : ws.length = 4
    · match ws, hl, hi, ln, h with
      | [a, b, c, d], _, hi, ln, h =>
        have b0 := nameG (hi a (by simp)) hn
        have b1 := kindG (hi b (by simp))
        have b2 := betweenG (lo := 0) (hi := 2147483647) (hi c (by simp))
        have et : recB (.tup [a, b, c, d]) = (nameB a && (kindB b && (rangeB 0 2147483647 c && dataV b d))) := rfl
        rw [et]
        have b3 : kindB b = true → d_is_data [b, d] st = .ok (.bl (dataV b d)) st := fun q => by
          cases b with
          | str k => exact dataG (of_decide_eq_true q) (hi d (by simp))
          | _ => exact nomatch (show false = true from q)
        cases q0 : nameB a <;> cases q1 : kindB b <;> cases q2 : rangeB 0 2147483647 c <;>
          first
          | (have b3 := b3 q1
             simp -implicitDefEqProofs [gd_isT h, isT, ln, kAsg_4, b0, b1, b2, b3, q0, q1, q2])
          | simp -implicitDefEqProofs [gd_isT h, isT, ln, kAsg_4, b0, b1, b2, q0, q1, q2]
    · have q : ((ws.length : Int) == 4) = false := beq_false_of_ne (by omega)
      have e : recB (.tup ws) = false := by
        match ws, hl with
        | [], _ => rfl
        | [_], _ => rfl
        | [_, _], _ => rfl
        | [_, _, _], _ => rfl
        | [_, _, _, _], hl => exact absurd rfl hl
        | _ :: _ :: _ :: _ :: _ :: _, _ => rfl
      generalize (ws.length : Int) = N at *
      simp -implicitDefEqProofs [gd_isT h, isT, ln, q, e]
  | _ => simp -implicitDefEqProofs [gd_isT h, isT, recB]
/-! the law's kinds -/
def KL : List W := c_KINDS.map W.str
theorem kinds_ok : d__law_kinds [] st = .ok (.loc st.length) (st ++ [.lst KL]) := by
  have kl : kLst [.str "addr", .str "alias", .str "back", .str "mail", .str "server", .str "start", .str "text", .str "tree"] st = .ok (.loc st.length) (st ++ [.lst KL]) := lst5 (by simp)
  have g : gc st (.loc st.length) (st ++ [.lst KL]) = .ok (.loc st.length) (st ++ [.lst KL]) := gc_newA (Nat.le_refl _) (by simp) rfl
  unfold d__law_kinds; rw [fnDen_ap]; unfold b__law_kinds
  simp -implicitDefEqProofs only [List.map_nil, List.length_nil, Nat.sub_zero, List.replicate_zero, List.append_nil, sRet_ap, dLst_ap, dCons_ap, dC_ap, dNil_ap, Res.bind_ok, kCons1_ap, kCons2_ap, kl, Res.then_ok, kRet_ap, fnR_rt, g]
theorem eqv_strL {s : Str} {d : PyData} : (PyData.str s).eqv d = (match d with | .str y => s == y | _ => false) := by
  cases d with
  | str y => rw [PyData.eqv.eq_6]
  | _ => rfl
theorem in_kinds {q : Nat} (h : Gd st n w) (hn : n ≤ 40) (hq : st[q]? = some (.lst KL)) : inDW w (.loc q) st = .ok (.bl (kindB w)) st := by
  obtain ⟨d, hd, h1, h2⟩ := h.dat 66 (by omega)
  have PK : Pic st (.loc q) (.fro KL) := .ls q KL hq (by unfold KL c_KINDS; simp) (fun w hw => by
    obtain ⟨x, hx, rfl⟩ := List.mem_map.mp hw
    exact ok_kind hx)
  have eK : dU (.fro KL) = .list (c_KINDS.map PyData.str) := by
    show PyData.list ((c_KINDS.map W.str).map d5) = _
    rw [List.map_map]; rfl
  have sl : SeqAt.shaped (.list (c_KINDS.map PyData.str)) = true := by rw [← eK]; exact shaped_of ⟨PK.shp.1, Nat.le_trans PK.shp.2 (by decide)⟩
  have sd : SeqAt.shaped d = true := shaped_of ⟨h1, by omega⟩
  have hl : datF st 66 (.loc q) = some (.list (c_KINDS.map PyData.str)) := by rw [← eK]; exact PK.dat 66 (by decide)
  unfold inDW
  simp only [hd, hl, if_pos (And.intro sd sl)]
  congr 2
  rw [List.any_map]
  cases w with
  | str x =>
    have : d = .str x := by simp only [datF] at hd; exact (Option.some.inj hd).symm
    subst this
    show (c_KINDS.any fun s => (PyData.str s).eqv (.str x)) = decide (x ∈ c_KINDS)
    rw [Bool.eq_iff_iff, List.any_eq_true, decide_eq_true_iff]
    constructor
    · rintro ⟨y, hy, e⟩
      rw [eqv_strL] at e
      have : y = x := by simpa using e
      rw [← this]; exact hy
    · exact fun h => ⟨x, h, by rw [eqv_strL]; simp⟩
  | _ =>
    show (c_KINDS.any fun s => (PyData.str s).eqv d) = false
    rw [List.any_eq_false]
    intro s _
    rw [eqv_strL]
    first
    | (simp only [datF] at hd; have := Option.some.inj hd; subst this; simp)
    | (simp only [datF, Option.map_eq_some_iff] at hd; obtain ⟨l, _, rfl⟩ := hd; simp)
    | (simp only [datF] at hd
       split at hd
       · simp only [Option.map_eq_some_iff] at hd; obtain ⟨l, _, rfl⟩ := hd; simp
       · cases hd)
    | (simp [datF] at hd)
end
end
end K04
namespace K04
open PySem PySem.Spec PyProof.Rows L2 MP
open Classical
noncomputable section
structure OddK (p n : Nat) (st : Store) (r : Res W) : Prop where
  ex : ∃ (w u : W) (st' g : Store), r = .ok w (st' ++ g) ∧ Pic (st' ++ g) w u ∧ kindB u = false ∧ PotA p n st' ∧ Kp p st st' ∧ ((g = [] ∧ pu w) ∨ ∃ ws, g = [.lst ws] ∧ w = .loc st.length ∧ u = .fro ws)
theorem oddk_draw {p n : Nat} {st : Store} (h : PotA p n st) (hn : n + 1 ≤ 1000000) : OddK p (n + 1) st (d__law_odd_kind [.loc p] st) := by
  have hl := h.lt
  obtain ⟨L14, h14⟩ : ∃ L, L = [W.non, .int 5, .str "", .str "Addr", .str "addr ", .str "ADDR", .tup [.str "addr"], .loc st.length, .bl true, .str "names", .str "a", .tup [.str "a", .str "b"], .str "addrtext", .loc (st.length + 1)] := ⟨_, rfl⟩
  obtain ⟨S, hS⟩ : ∃ S, S = st ++ [.lst [.str "addr"], .lst [], .lst L14] := ⟨_, rfl⟩
  have hle : st.length + 3 = S.length := by rw [hS]; simp
  have PS : PotA p n S := by rw [hS]; exact h.app _
  obtain ⟨t, s1, e, a, b, P, K⟩ := take_ok (m := 14) PS (by omega) (by decide) (by decide)
  have get : ∀ i : Nat, p ≠ st.length + i → s1[st.length + i]? = S[st.length + i]? := fun i hi => K.keep _ (Ne.symm hi)
  have X : Ext p st s1 := ⟨by rw [K.len, ← hle]; omega, fun i hi hp => by rw [K.keep _ hp, hS, List.getElem?_append_left hi]⟩
  have gF : s1[st.length + 2]? = some (.lst L14) := by rw [get 2 (by omega), hS]; simp
  have g0 : s1[st.length]? = some (.lst [.str "addr"]) := by have := get 0 (by omega); rw [Nat.add_zero] at this; rw [this, hS]; simp
  have g1 : s1[st.length + 1]? = some (.lst []) := by rw [get 1 (by omega), hS]; simp
  obtain ⟨w, wm, _, e3⟩ := ix_mem (st := s1) (a := .loc (st.length + 2)) (ws := L14) (i := t) (by simp [seqW, gF]) a (by rw [h14]; simpa using b)
  have run : ∀ v st', gc st w s1 = .ok v st' → d__law_odd_kind [.loc p] st = .ok v st' := fun v st' hg => by
    unfold d__law_odd_kind; rw [fnDen_ap]; unfold b__law_odd_kind
    have k1 : ∀ (l : List W) (st : Store), l.length ≤ 50 → kLst l st = .ok (.loc st.length) (st ++ [.lst l]) := fun l st h => lst5 h
    have k2 : ∀ (l : List W) (st : Store), l.length ≤ 50 → kTup l st = .ok (.tup l) st := fun l st h => ten (by omega)
    have c1 := k1 [.str "addr"] st (by simp)
    have c2 := k1 [] (st ++ [.lst [.str "addr"]]) (by simp)
    have c3 := k1 L14 (st ++ [.lst [.str "addr"], .lst []]) (by rw [h14]; simp)
    have eS : (st ++ [Ob.lst [W.str "addr"], .lst [], .lst L14]) = S := by rw [hS]
    have gS : S[st.length + 2]? = some (.lst L14) := by rw [hS]; simp
    have hlen : lenW [.loc (st.length + 2)] S = .ok (.int 14) S := by
      rw [len_seq (ws := L14) (by simp [seqW, gS]), h14]; rfl
    simp only [List.length_append, List.length_cons, List.length_nil, List.append_assoc, List.cons_append, List.nil_append] at c2 c3
    rw [eS] at c3
    simp -implicitDefEqProofs only [sSeq_ap, sAsg_ap, dLst_ap, dCons_ap, dC_ap, Res.bind_ok, kCons1_ap, dNil_ap, kCons2_ap, dTup_ap, k2, List.length_cons, List.length_nil, Nat.reduceAdd, Nat.reduceLeDiff, c1, c2]
    rw [← h14, c3]
    simp -implicitDefEqProofs only [Res.then_ok, kAsg_n, List.map_cons, List.map_nil, List.length_cons, List.length_nil, Nat.reduceAdd, Nat.reduceSub, List.replicate_succ, List.replicate_zero, List.cons_append, List.nil_append, List.set_cons_succ, List.set_cons_zero, RsS.next_nx, sRet_ap, dOp_ap, dVar_ap, List.getElem?_cons_zero, List.getElem?_cons_succ, Res.bind_ok, kOp1_ap, dCall_ap, dCons_ap, dApp_ap, kCons1_ap, dNil_ap, kCons2_ap, hlen, kCall_2, e, e3, kRet_ap, fnR_rt, hg]
  have pure : pu w → kindB w = false → OddK p (n + 1) st (d__law_odd_kind [.loc p] st) := fun hp hnb => by
    obtain ⟨G1, G2, G3⟩ := gc_pot (v := w) X P hl (cl_pu _ 5 _ hp)
    exact ⟨w, w, _, [], by rw [List.append_nil]; exact run _ _ G1, .pu _ hp, hnb, G3, G2, .inl ⟨rfl, hp⟩⟩
  have list : ∀ (k : Nat) (ws : List W), w = .loc k → st.length ≤ k → s1[k]? = some (.lst ws) → ws.length ≤ 8192 → (∀ w ∈ ws, pu w) → OddK p (n + 1) st (d__law_odd_kind [.loc p] st) := fun k ws hw hk g hl' hp => by
    subst hw
    obtain ⟨G1, G2, G3⟩ := gc_potL X P hl hk g (cls_pu _ 5 _ hp)
    refine ⟨_, .fro ws, _, [.lst ws], run _ _ G1, .ls _ ws ?_ hl' hp, rfl, G3, G2, .inr ⟨ws, rfl, rfl, rfl⟩⟩
    rw [show st.length = (List.take st.length s1).length from G2.len.symm]
    simp
  have nk : ∀ x : Str, ¬ x ∈ c_KINDS → kindB (.str x) = false := fun x hx => decide_eq_false hx
  rw [h14] at wm
  simp only [List.mem_cons, List.not_mem_nil, or_false] at wm
  rcases wm with rfl | rfl | rfl | rfl | rfl | rfl | rfl | rfl | rfl | rfl | rfl | rfl | rfl | rfl
  · exact pure (by decide +kernel) rfl
  · exact pure (by decide +kernel) rfl
  · exact pure (by decide +kernel) (nk _ (by unfold c_KINDS; decide +kernel))
  · exact pure (by decide +kernel) (nk _ (by unfold c_KINDS; decide +kernel))
  · exact pure (by decide +kernel) (nk _ (by unfold c_KINDS; decide +kernel))
  · exact pure (by decide +kernel) (nk _ (by unfold c_KINDS; decide +kernel))
  · exact pure (by decide +kernel) rfl
  · exact list _ _ rfl (Nat.le_refl _) g0 (by simp) (pu_one (by decide +kernel))
  · exact pure (by decide +kernel) rfl
  · exact pure (by decide +kernel) (nk _ (by unfold c_KINDS; decide +kernel))
  · exact pure (by decide +kernel) (nk _ (by unfold c_KINDS; decide +kernel))
  · exact pure (by decide +kernel) rfl
  · exact pure (by decide +kernel) (nk _ (by unfold c_KINDS; decide +kernel))
  · exact list _ _ rfl (by omega) g1 (by simp) (fun w hw => nomatch hw)
end
end K04
namespace K04
open PySem PySem.Spec PyProof.Rows L2 MP
open Classical
noncomputable section
/-- what data of a kind are ordered by -/
def revV : W → W
  | .tup ws => .tup ws.reverse
  | w => w
def keyW (k : Str) (w : W) : W :=
  if k ∈ c_NAMING then revV w
  else if k = "mail" then (match w with | .tup [a, b] => .tup [a, revV b] | w => w)
  else if k = "start" then (match w with | .tup (a :: r) => .tup (revV a :: r) | w => w)
  else w
theorem ask_tup {w : W} (h : askB w = true) : ∃ ws, w = .tup ws ∧ ∀ x ∈ ws, ∃ s : Str, x = .str s ∧ plainB s = true := by
  cases w with
  | tup ws =>
    refine ⟨ws, rfl, fun x hx => ?_⟩
    have := List.all_eq_true.mp (show ws.all plS = true from h) x hx
    cases x with
    | str s => exact ⟨s, rfl, this⟩
    | _ => exact nomatch (show false = true from this)
  | _ => exact nomatch (show false = true from h)
section
variable {st : Store} {n : Nat} {w : W} {ws : List W} {k : Str}
theorem pu_rev (h : pu (.tup ws)) : pu (.tup ws.reverse) := by
  obtain ⟨hl, hi⟩ := pu_items h
  exact pu_tup (by simpa using hl) fun w hw => hi w (List.mem_reverse.mp hw)
theorem place_ok (h : pu (.tup ws)) : d_place [.tup ws] st = .ok (.tup ws.reverse) st := by
  have g : gc st (.tup ws.reverse) st = .ok (.tup ws.reverse) st := gc_same (cl_pu _ 5 _ (pu_rev h))
  have r : rev2W (.tup ws) st = .ok (.tup ws.reverse) st := rfl
  unfold d_place; rw [fnDen_ap]; unfold b_place
  simp -implicitDefEqProofs only [List.map_cons, List.map_nil, List.length_cons, List.length_nil, Nat.reduceAdd, Nat.reduceSub, List.replicate_zero, List.append_nil, sRet_ap, dUn_ap, dVar_ap, List.getElem?_cons_zero, Res.bind_ok, r, Res.then_ok, kRet_ap, fnR_rt, g]
theorem puB4 {w : W} (h : puB 4 w = true) : pu w := puB_mono h (by decide)
theorem mail_shape {w : W} (h : mailB w = true) : ∃ (z : Int) (us : List W), w = .tup [.int z, .tup us] ∧ askB (.tup us) = true := by
  cases w with
  | tup ws =>
    match ws, h with
    | [a, b], h =>
      have h' : (rangeB 0 65535 a && askB b) = true := h
      rw [Bool.and_eq_true] at h'
      obtain ⟨us, rfl, _⟩ := ask_tup h'.2
      cases a with
      | int z => exact ⟨z, us, rfl, h'.2⟩
      | _ => exact nomatch (show false = true from h'.1)
    | [], h => exact nomatch (show false = true from h)
    | [_], h => exact nomatch (show false = true from h)
    | _ :: _ :: _ :: _, h => exact nomatch (show false = true from h)
  | _ => exact nomatch (show false = true from h)
theorem start_shape {w : W} (h : startB w = true) : ∃ (us r : List W), w = .tup (.tup us :: r) ∧ askB (.tup us) = true ∧ r.length = 5 := by
  cases w with
  | tup ws =>
    match ws, h with
    | [a, b, c, d, e, f], h =>
      have h' : (askB a && (rangeB 0 4294967295 b && [c, d, e, f].all (rangeB 0 2147483647))) = true := h
      rw [Bool.and_eq_true] at h'
      obtain ⟨us, rfl, _⟩ := ask_tup h'.1
      exact ⟨us, [b, c, d, e, f], rfl, h'.1, rfl⟩
    | [], h => exact nomatch (show false = true from h)
    | [_], h => exact nomatch (show false = true from h)
    | [_, _], h => exact nomatch (show false = true from h)
    | [_, _, _], h => exact nomatch (show false = true from h)
    | [_, _, _, _], h => exact nomatch (show false = true from h)
    | [_, _, _, _, _], h => exact nomatch (show false = true from h)
    | _ :: _ :: _ :: _ :: _ :: _ :: _ :: _, h => exact nomatch (show false = true from h)
  | _ => exact nomatch (show false = true from h)
theorem dplace_ok (hk : k ∈ c_KINDS) (h : pu w) (hd : dataB k w = true) : d_data_place [.str k, w] st = .ok (keyW k w) st := by
  have a2 := in_strs (st := st) (neg := false) (x := k) (xs := c_NAMING)
  have a3 := eqK (st := st) hk kMail
  have a4 := eqK (st := st) hk kStart
  have gs : ∀ v, pu v → gc st v st = .ok v st := fun v hv => gc_same (cl_pu _ 5 _ hv)
  unfold d_data_place; rw [fnDen_ap]; unfold b_data_place keyW
  by_cases q1 : k ∈ c_NAMING
  · rw [if_pos q1]
    rw [decide_eq_true q1] at a2
    have ha : askB w = true := by
      unfold dataB at hd
      have nq : ¬ k = "addr" := by intro e; rw [e] at q1; exact absurd q1 (by unfold c_NAMING; decide +kernel)
      rwa [if_neg nq, if_pos q1] at hd
    obtain ⟨us, rfl, _⟩ := ask_tup ha
    have e := place_ok (st := st) h
    have g := gs _ (pu_rev h)
    show _ = Res.ok (W.tup us.reverse) st
    simp -implicitDefEqProofs [a2, e, g]
  · rw [if_neg q1]
    rw [decide_eq_false q1] at a2
    by_cases q2 : k = "mail"
    · rw [if_pos q2]
      rw [decide_eq_true q2] at a3
      have hm : mailB w = true := by
        unfold dataB at hd
        have nq : ¬ k = "addr" := by rw [q2]; decide +kernel
        rwa [if_neg nq, if_neg q1, if_pos q2] at hd
      obtain ⟨z, us, rfl, ha⟩ := mail_shape hm
      obtain ⟨_, hi⟩ := pu_items h
      have hu : pu (.tup us) := puB4 (hi _ (by simp))
      have e := place_ok (st := st) hu
      have i0 : ixW (.tup [.int z, .tup us]) (.int 0) st = .ok (.int z) st := ix_t (j := 0) rfl
      have i1 : ixW (.tup [.int z, .tup us]) (.int 1) st = .ok (.tup us) st := ix_t (j := 1) rfl
      have kt : kTup [.int z, .tup us.reverse] st = .ok (.tup [.int z, .tup us.reverse]) st := ten (by simp)
      have g : gc st (.tup [.int z, .tup us.reverse]) st = .ok (.tup [.int z, .tup us.reverse]) st := gc_same (by
        have := cl_pu st.length 5 _ (pu_rev hu)
        simp only [clB, clBs, Bool.and_true, Bool.true_and] at this ⊢
        exact this)
      show _ = Res.ok (W.tup [.int z, .tup us.reverse]) st
      simp -implicitDefEqProofs [a2, a3, i0, i1, e, kt, g]
    · rw [if_neg q2]
      rw [decide_eq_false q2] at a3
      by_cases q3 : k = "start"
      · rw [if_pos q3]
        rw [decide_eq_true q3] at a4
        have hm : startB w = true := by
          unfold dataB at hd
          have nq : ¬ k = "addr" := by rw [q3]; decide +kernel
          rwa [if_neg nq, if_neg q1, if_neg q2, if_pos q3] at hd
        obtain ⟨us, r, rfl, ha, hr⟩ := start_shape hm
        obtain ⟨_, hi⟩ := pu_items h
        have hu : pu (.tup us) := puB4 (hi _ (by simp))
        have e := place_ok (st := st) hu
        have i0 : ixW (.tup (.tup us :: r)) (.int 0) st = .ok (.tup us) st := ix_t (j := 0) rfl
        have kt : kTup [.tup us.reverse] st = .ok (.tup [.tup us.reverse]) st := ten (by simp)
        have sl : slW (.tup (.tup us :: r)) (some 1) none st = .ok (.tup r) st := by
          show Res.ok (W.tup (cutW (.tup us :: r) (some ((1 : Nat) : Int)) none)) st = _
          rw [cut_from]; rfl
        have ad : addW (.tup [.tup us.reverse]) (.tup r) st = .ok (.tup (.tup us.reverse :: r)) st := addW_tt (by simp; omega)
        have g : gc st (.tup (.tup us.reverse :: r)) st = .ok (.tup (.tup us.reverse :: r)) st := gc_same (by
          have h1 := cl_pu st.length 5 _ (pu_rev hu)
          have h2 := cls_pu st.length 4 r fun w hw => hi w (List.mem_cons_of_mem _ hw)
          simp only [clB, clBs, Bool.and_eq_true] at h1 ⊢
          exact ⟨h1, h2⟩)
        show _ = Res.ok (W.tup (.tup us.reverse :: r)) st
        simp -implicitDefEqProofs [a2, a3, a4, i0, e, kt, sl, ad, g]
      · rw [if_neg q3]
        rw [decide_eq_false q3] at a4
        have g := gs _ h
        simp -implicitDefEqProofs [a2, a3, a4, g]
end
end
end K04
namespace K04
open PySem PySem.Spec PyProof.Rows L2 MP
open Classical
noncomputable section
section
variable {st : Store} {n : Nat} {w : W} {ws : List W} {k : Str}
theorem lkey_ok (hk : k ∈ c_KINDS) (h : pu w) (hd : dataB k w = true) : d__law_data_key [.str k, w] st = .ok (keyW k w) st := by
  have a2 := in_strs (st := st) (neg := false) (x := k) (xs := c_NAMING)
  have a3 := eqK (st := st) hk kMail
  have a4 := eqK (st := st) hk kStart
  have gs : ∀ v, pu v → gc st v st = .ok v st := fun v hv => gc_same (cl_pu _ 5 _ hv)
  have tt : ∀ us : List W, tupleW [.tup us] st = .ok (.tup us) st := fun us => rfl
  have rv : ∀ us : List W, rev2W (.tup us) st = .ok (.tup us.reverse) st := fun us => rfl
  have ktN := ktN (st := st)
  unfold d__law_data_key; rw [fnDen_ap]; unfold b__law_data_key keyW
  by_cases q1 : k ∈ c_NAMING
  · rw [if_pos q1]
    rw [decide_eq_true q1] at a2
    have ha : askB w = true := by
      unfold dataB at hd
      have nq : ¬ k = "addr" := by intro e; rw [e] at q1; exact absurd q1 (by unfold c_NAMING; decide +kernel)
      rwa [if_neg nq, if_pos q1] at hd
    obtain ⟨us, rfl, _⟩ := ask_tup ha
    have g := gs _ (pu_rev h)
    show _ = Res.ok (W.tup us.reverse) st
    simp -implicitDefEqProofs [ktN, a2, rv, tt, g]
  · rw [if_neg q1]
    rw [decide_eq_false q1] at a2
    by_cases q2 : k = "mail"
    · rw [if_pos q2]
      rw [decide_eq_true q2] at a3
      have hm : mailB w = true := by
        unfold dataB at hd
        have nq : ¬ k = "addr" := by rw [q2]; decide +kernel
        rwa [if_neg nq, if_neg q1, if_pos q2] at hd
      obtain ⟨z, us, rfl, ha⟩ := mail_shape hm
      obtain ⟨_, hi⟩ := pu_items h
      have hu : pu (.tup us) := puB4 (hi _ (by simp))
      have i0 : ixW (.tup [.int z, .tup us]) (.int 0) st = .ok (.int z) st := ix_t (j := 0) rfl
      have i1 : ixW (.tup [.int z, .tup us]) (.int 1) st = .ok (.tup us) st := ix_t (j := 1) rfl
      have kt : kTup [.int z, .tup us.reverse] st = .ok (.tup [.int z, .tup us.reverse]) st := ten (by simp)
      have g : gc st (.tup [.int z, .tup us.reverse]) st = .ok (.tup [.int z, .tup us.reverse]) st := gc_same (by
        have := cl_pu st.length 5 _ (pu_rev hu)
        simp only [clB, clBs, Bool.and_true, Bool.true_and] at this ⊢
        exact this)
      show _ = Res.ok (W.tup [.int z, .tup us.reverse]) st
      simp -implicitDefEqProofs [ktN, a2, a3, i0, i1, rv, tt, kt, g]
    · rw [if_neg q2]
      rw [decide_eq_false q2] at a3
      by_cases q3 : k = "start"
      · rw [if_pos q3]
        rw [decide_eq_true q3] at a4
        have hm : startB w = true := by
          unfold dataB at hd
          have nq : ¬ k = "addr" := by rw [q3]; decide +kernel
          rwa [if_neg nq, if_neg q1, if_neg q2, if_pos q3] at hd
        obtain ⟨us, r, rfl, ha, hr⟩ := start_shape hm
        obtain ⟨_, hi⟩ := pu_items h
        have hu : pu (.tup us) := puB4 (hi _ (by simp))
        have i0 : ixW (.tup (.tup us :: r)) (.int 0) st = .ok (.tup us) st := ix_t (j := 0) rfl
        have kt : kTup [.tup us.reverse] st = .ok (.tup [.tup us.reverse]) st := ten (by simp)
        have sl : slW (.tup (.tup us :: r)) (some 1) none st = .ok (.tup r) st := by
          show Res.ok (W.tup (cutW (.tup us :: r) (some ((1 : Nat) : Int)) none)) st = _
          rw [cut_from]; rfl
        have ad : addW (.tup [.tup us.reverse]) (.tup r) st = .ok (.tup (.tup us.reverse :: r)) st := addW_tt (by simp; omega)
        have g : gc st (.tup (.tup us.reverse :: r)) st = .ok (.tup (.tup us.reverse :: r)) st := gc_same (by
          have h1 := cl_pu st.length 5 _ (pu_rev hu)
          have h2 := cls_pu st.length 4 r fun w hw => hi w (List.mem_cons_of_mem _ hw)
          simp only [clB, clBs, Bool.and_eq_true] at h1 ⊢
          exact ⟨h1, h2⟩)
        show _ = Res.ok (W.tup (.tup us.reverse :: r)) st
        simp -implicitDefEqProofs [ktN, a2, a3, a4, i0, rv, tt, kt, sl, ad, g]
      · rw [if_neg q3]
        rw [decide_eq_false q3] at a4
        have g := gs _ h
        simp -implicitDefEqProofs [ktN, a2, a3, a4, g]
end
end
end K04
namespace K04
open PySem PySem.Spec PyProof.Rows L2 MP
open Classical
noncomputable section
/-! ### an order of nested tuples -/
def lexL : List (Bool × Bool) → Bool → Bool
  | [], z => z
  | (e, r) :: ps, z => if e = true then lexL ps z else r
theorem lex_at (z : Bool) : ∀ (ps qs : List (Bool × Bool)), Ob.lexAt (fun j => ((qs ++ ps).getD j (false, false)).1) (fun j => ((qs ++ ps).getD j (false, false)).2) z qs.length ps.length = lexL ps z
  | [], qs => rfl
  | (e, r) :: ps, qs => by
    have g : (qs ++ (e, r) :: ps).getD qs.length (false, false) = (e, r) := by simp
    have ih := lex_at z ps (qs ++ [(e, r)])
    rw [List.length_append, List.append_assoc] at ih
    rw [List.length_cons, Ob.lexAt_succ, g]
    show (if e = true then _ else r) = if e = true then _ else r
    cases e with
    | true => rw [if_pos rfl, if_pos rfl]; exact ih
    | false => rfl
theorem lex_here (ps : List (Bool × Bool)) (z : Bool) : Ob.lexAt (fun j => (ps.getD j (false, false)).1) (fun j => (ps.getD j (false, false)).2) z 0 ps.length = lexL ps z := lex_at z ps []
def sn : Nat → W → Bool
  | 0, _ => false
  | n + 1, w => match w with
    | .int _ => true
    | .str x => okS x
    | .tup ws => decide (ws.length ≤ 8192) && ws.all (sn n)
    | _ => false
theorem sn_items {n : Nat} {ws : List W} (h : sn (n + 1) (.tup ws) = true) : ws.length ≤ 8192 ∧ ∀ w ∈ ws, sn n w = true := by
  have h' : (decide (ws.length ≤ 8192) && ws.all (sn n)) = true := h
  rw [Bool.and_eq_true, decide_eq_true_iff, List.all_eq_true] at h'
  exact h'
theorem sn_tup {n : Nat} {ws : List W} (h : ws.length ≤ 8192) (h2 : ∀ w ∈ ws, sn n w = true) : sn (n + 1) (.tup ws) = true := by
  show (decide (ws.length ≤ 8192) && ws.all (sn n)) = true
  rw [Bool.and_eq_true, decide_eq_true_iff, List.all_eq_true]
  exact ⟨h, h2⟩
theorem sn_pu : ∀ (n : Nat) (w : W), sn n w = true → puB n w = true
  | 0, _, h => nomatch h
  | n + 1, w, h => by
    cases w with
    | int _ => rfl
    | str x => exact h
    | tup ws =>
      obtain ⟨h1, h2⟩ := sn_items h
      show (decide (ws.length ≤ 8192) && ws.all (puB n)) = true
      rw [Bool.and_eq_true, decide_eq_true_iff, List.all_eq_true]
      exact ⟨h1, fun w hw => sn_pu n w (h2 w hw)⟩
    | _ => exact nomatch (show false = true from h)
theorem eqv_sn : ∀ (n : Nat) (a b : W), sn n a = true → sn n b = true → ((dat n a).eqv (dat n b) = true ↔ a = b)
  | 0, _, _, h, _ => nomatch h
  | n + 1, a, b, h, h' => by
    have key : ∀ (xs ys : List W), (∀ w ∈ xs, sn n w = true) → (∀ w ∈ ys, sn n w = true) → (PyData.eqvAll (xs.map (dat n)) (ys.map (dat n)) = true ↔ xs = ys) := by
      intro xs
      induction xs with
      | nil =>
        intro ys _ _
        cases ys with
        | nil => exact ⟨fun _ => rfl, fun _ => rfl⟩
        | cons y ys => exact ⟨fun e => (nomatch e), fun e => (nomatch e)⟩
      | cons x xs ih =>
        intro ys hx hy
        cases ys with
        | nil => exact ⟨fun e => (nomatch e), fun e => (nomatch e)⟩
        | cons y ys =>
          rw [List.map_cons, List.map_cons, PyData.eqvAll.eq_2, Bool.and_eq_true, eqv_sn n x y (hx x List.mem_cons_self) (hy y List.mem_cons_self), ih ys (fun w hw => hx w (List.mem_cons_of_mem _ hw)) (fun w hw => hy w (List.mem_cons_of_mem _ hw))]
          constructor
          · rintro ⟨rfl, rfl⟩; rfl
          · intro e; cases e; exact ⟨rfl, rfl⟩
    cases a with
    | int i =>
      cases b with
      | int j =>
        show (PyData.int i).eqv (.int j) = true ↔ _
        rw [PyData.eqv.eq_5]
        constructor
        · intro e; rw [eq_of_beq e]
        · intro e; cases e; exact beq_self_eq_true _
      | str y => exact ⟨fun e => (nomatch (show false = true from e)), fun e => (nomatch e)⟩
      | tup ys => exact ⟨fun e => (nomatch (show false = true from e)), fun e => (nomatch e)⟩
      | _ => exact nomatch (show false = true from h')
    | str x =>
      cases b with
      | int j => exact ⟨fun e => (nomatch (show false = true from e)), fun e => (nomatch e)⟩
      | str y =>
        show (PyData.str x).eqv (.str y) = true ↔ _
        rw [PyData.eqv.eq_6]
        constructor
        · intro e; rw [eq_of_beq e]
        · intro e; cases e; exact beq_self_eq_true _
      | tup ys => exact ⟨fun e => (nomatch (show false = true from e)), fun e => (nomatch e)⟩
      | _ => exact nomatch (show false = true from h')
    | tup xs =>
      cases b with
      | int j => exact ⟨fun e => (nomatch (show false = true from e)), fun e => (nomatch e)⟩
      | str y => exact ⟨fun e => (nomatch (show false = true from e)), fun e => (nomatch e)⟩
      | tup ys =>
        show (PyData.tuple (xs.map (dat n))).eqv (.tuple (ys.map (dat n))) = true ↔ _
        rw [PyData.eqv.eq_8, key xs ys (sn_items h).2 (sn_items h').2]
        constructor
        · rintro rfl; rfl
        · intro e; cases e; rfl
      | _ => exact nomatch (show false = true from h')
    | _ => exact nomatch (show false = true from h)
def Cmp : Nat → W → W → Prop
  | 0, _, _ => False
  | _ + 1, .int _, .int _ => True
  | _ + 1, .str _, .str _ => True
  | n + 1, .tup xs, .tup ys => ∀ (j : Nat) (x y : W), xs[j]? = some x → ys[j]? = some y → Cmp n x y
  | _ + 1, _, _ => False
theorem str_turn {x y : Str} (h : x ≠ y) : decide (y.cps.toList < x.cps.toList) = !decide (x.cps.toList < y.cps.toList) := by
  have hn : x.cps.toList ≠ y.cps.toList := fun e => h (str_ext e)
  by_cases q : x.cps.toList < y.cps.toList
  · rw [decide_eq_true q, decide_eq_false (List.lt_asymm q)]; rfl
  · rw [decide_eq_false q]
    rcases List.le_iff_lt_or_eq.mp (List.not_lt.mp q) with h' | h'
    · rw [decide_eq_true h']; rfl
    · exact absurd h'.symm hn
theorem ord_tot (st : Store) : ∀ (n m : Nat) (a b : W), n ≤ m → m ≤ 8 → sn n a = true → sn n b = true → Cmp n a b → ∃ r, ordUW st m a b = some r ∧ ∃ r', ordUW st m b a = some r' ∧ (a ≠ b → r' = !r)
  | 0, _, _, _, _, _, h, _, _ => nomatch h
  | n + 1, 0, _, _, h, _, _, _, _ => by omega
  | n + 1, m + 1, a, b, hm, h8, ha, hb, hc => by
    have key : ∀ (xs ys : List W), (∀ w ∈ xs, sn n w = true) → (∀ w ∈ ys, sn n w = true) → (∀ (j : Nat) (x y : W), xs[j]? = some x → ys[j]? = some y → Cmp n x y) →
        ∃ ps qs, ordsUW st m xs ys = some ps ∧ ordsUW st m ys xs = some qs ∧ ps.length = min xs.length ys.length ∧ qs.length = min ys.length xs.length ∧ (xs ≠ ys → lexL qs (decide (ys.length < xs.length)) = !lexL ps (decide (xs.length < ys.length))) := by
      intro xs
      induction xs with
      | nil =>
        intro ys _ _ _
        cases ys with
        | nil => exact ⟨[], [], by simp [ordsUW], by simp [ordsUW], rfl, rfl, fun e => absurd rfl e⟩
        | cons y ys =>
          refine ⟨[], [], by simp [ordsUW], by simp [ordsUW], by simp, by simp, fun _ => ?_⟩
          show decide ((y :: ys).length < 0) = !decide (0 < (y :: ys).length)
          simp
      | cons x xs ih =>
        intro ys hx hy hxy
        cases ys with
        | nil =>
          refine ⟨[], [], by simp [ordsUW], by simp [ordsUW], by simp, by simp, fun _ => ?_⟩
          show decide (0 < (x :: xs).length) = !decide ((x :: xs).length < 0)
          simp
        | cons y ys =>
          obtain ⟨ps, qs, e1, e2, l1, l2, hl⟩ := ih ys (fun w hw => hx w (List.mem_cons_of_mem _ hw)) (fun w hw => hy w (List.mem_cons_of_mem _ hw)) (fun j a b h h' => hxy (j + 1) a b (by simpa using h) (by simpa using h'))
          have sx := hx x List.mem_cons_self
          have sy := hy y List.mem_cons_self
          obtain ⟨r, o1, r', o2, ho⟩ := ord_tot st n m x y (by omega) (by omega) sx sy (hxy 0 x y rfl rfl)
          have dx := datF_pu n x (sn_pu n x sx) 66 st (by omega)
          have dy := datF_pu n y (sn_pu n y sy) 66 st (by omega)
          have hsx : SeqAt.shaped (dat n x) = true := shaped_of ⟨can_pu n x (sn_pu n x sx), Nat.le_trans (dep_pu n x (sn_pu n x sx)) (by omega)⟩
          have hsy : SeqAt.shaped (dat n y) = true := shaped_of ⟨can_pu n y (sn_pu n y sy), Nat.le_trans (dep_pu n y (sn_pu n y sy)) (by omega)⟩
          have len : ∀ (u v : W) (us vs : List W), decide ((u :: us).length < (v :: vs).length) = decide (us.length < vs.length) := fun u v us vs => by
            rw [Bool.eq_iff_iff, decide_eq_true_iff, decide_eq_true_iff, List.length_cons, List.length_cons]; omega
          by_cases q : x = y
          · have v1 := (eqv_sn n x y sx sy).mpr q
            have v2 := (eqv_sn n y x sy sx).mpr q.symm
            refine ⟨(true, false) :: ps, (true, false) :: qs, ?_, ?_, by simp [l1], by simp [l2], fun hne => ?_⟩
            · unfold ordsUW; simp only [dx, dy, if_pos (And.intro hsx hsy), v1, if_true, e1]
            · unfold ordsUW; simp only [dx, dy, if_pos (And.intro hsy hsx), v2, if_true, e2]
            · rw [len, len]
              exact hl fun e => hne (by rw [q, e])
          · have v1 : (dat n x).eqv (dat n y) = false := by
              cases v : (dat n x).eqv (dat n y) with
              | true => exact absurd ((eqv_sn n x y sx sy).mp v) q
              | false => rfl
            have v2 : (dat n y).eqv (dat n x) = false := by
              cases v : (dat n y).eqv (dat n x) with
              | true => exact absurd ((eqv_sn n y x sy sx).mp v).symm q
              | false => rfl
            refine ⟨(false, r) :: ps, (false, r') :: qs, ?_, ?_, by simp [l1], by simp [l2], fun _ => ?_⟩
            · unfold ordsUW; simp only [dx, dy, if_pos (And.intro hsx hsy), v1, o1, e1]; rfl
            · unfold ordsUW; simp only [dx, dy, if_pos (And.intro hsy hsx), v2, o2, e2]; rfl
            · show r' = !r
              exact ho q
    cases a with
    | int i =>
      cases b with
      | int j =>
        refine ⟨decide (i < j), rfl, decide (j < i), rfl, fun hne => ?_⟩
        have hij : i ≠ j := fun e => hne (by rw [e])
        rw [← decide_not, Bool.eq_iff_iff, decide_eq_true_iff, decide_eq_true_iff]; omega
      | _ => exact hc.elim
    | str x =>
      cases b with
      | str y => exact ⟨_, rfl, _, rfl, fun hne => str_turn fun e => hne (by rw [e])⟩
      | _ => exact hc.elim
    | tup xs =>
      cases b with
      | tup ys =>
        obtain ⟨ps, qs, e1, e2, l1, l2, hl⟩ := key xs ys (sn_items ha).2 (sn_items hb).2 hc
        refine ⟨lexL ps (decide (xs.length < ys.length)), ?_, lexL qs (decide (ys.length < xs.length)), ?_, fun hne => hl fun e => hne (by rw [e])⟩
        · unfold ordUW; simp only [e1]; rw [← l1, lex_here]
        · unfold ordUW; simp only [e2]; rw [← l2, lex_here]
      | _ => exact hc.elim
    | _ => exact nomatch (show false = true from ha)
end
end K04
namespace K04
open PySem PySem.Spec PyProof.Rows L2 MP
open Classical
noncomputable section
theorem sn_mono : ∀ {n m : Nat} {w : W}, sn n w = true → n ≤ m → sn m w = true
  | 0, _, _, h, _ => nomatch h
  | n + 1, 0, _, _, hm => by omega
  | n + 1, m + 1, w, h, hm => by
    cases w with
    | tup ws => exact sn_tup (sn_items h).1 fun a ha => sn_mono ((sn_items h).2 a ha) (by omega)
    | str x => exact h
    | int _ => rfl
    | _ => exact nomatch (show false = true from h)
def allS (us : List W) : Prop := ∀ x ∈ us, ∃ s : Str, x = .str s ∧ okS s = true
theorem ask_strs {us : List W} (h : askB (.tup us) = true) (hp : pu (.tup us)) : allS us := fun x hx => by
  obtain ⟨us', e, h2⟩ := ask_tup h
  cases e
  obtain ⟨s, rfl, _⟩ := h2 x hx
  exact ⟨s, rfl, (pu_items hp).2 _ hx⟩
theorem allS.rev {us : List W} (h : allS us) : allS us.reverse := fun x hx => h x (List.mem_reverse.mp hx)
theorem allS.sn {us : List W} (h : allS us) (hl : us.length ≤ 8192) : sn 2 (.tup us) = true := sn_tup hl fun w hw => by
  obtain ⟨s, rfl, hs⟩ := h w hw
  exact hs
theorem allS.cmp {us vs : List W} (h : allS us) (h' : allS vs) : Cmp 2 (.tup us) (.tup vs) := fun j x y hx hy => by
  obtain ⟨s, rfl, _⟩ := h x (List.mem_of_getElem? hx)
  obtain ⟨t, rfl, _⟩ := h' y (List.mem_of_getElem? hy)
  exact True.intro
theorem range_int {lo hi : Int} {w : W} (h : rangeB lo hi w = true) : ∃ z, w = .int z := by
  cases w with
  | int z => exact ⟨z, rfl⟩
  | _ => exact nomatch (show false = true from h)
theorem start_ints {w : W} (h : startB w = true) : ∃ (us : List W) (b c d e f : Int), w = .tup [.tup us, .int b, .int c, .int d, .int e, .int f] ∧ askB (.tup us) = true := by
  obtain ⟨us, r, rfl, ha, hr⟩ := start_shape h
  match r, hr, h with
  | [b, c, d, e, f], _, h =>
    have h' : (askB (.tup us) && (rangeB 0 4294967295 b && [c, d, e, f].all (rangeB 0 2147483647))) = true := h
    simp only [Bool.and_eq_true, List.all_cons, List.all_nil] at h'
    obtain ⟨_, hb, hc, hd, he, hf, _⟩ := h'
    obtain ⟨b, rfl⟩ := range_int hb
    obtain ⟨c, rfl⟩ := range_int hc
    obtain ⟨d, rfl⟩ := range_int hd
    obtain ⟨e, rfl⟩ := range_int he
    obtain ⟨f, rfl⟩ := range_int hf
    exact ⟨us, b, c, d, e, f, rfl, ha⟩
section
variable {st : Store} {k : Str} {a b : W}
theorem n_naming_addr : ¬ ("addr" : Str) ∈ c_NAMING := by unfold c_NAMING; decide +kernel
theorem rev_inj {us vs : List W} (h : W.tup us.reverse = .tup vs.reverse) : us = vs := by
  have := W.tup.inj h
  rw [← List.reverse_reverse us, this, List.reverse_reverse]
theorem key_all (hk : k ∈ c_KINDS) (ha : pu a) (da : dataB k a = true) (hb : pu b) (db : dataB k b = true) :
    (∃ n, n ≤ 5 ∧ sn n (keyW k a) = true ∧ sn n (keyW k b) = true ∧ Cmp n (keyW k a) (keyW k b)) ∧ (keyW k a = keyW k b → a = b) ∧ sn 5 a = true ∧ sn 5 b = true := by
  unfold dataB at da db
  unfold keyW
  by_cases q0 : k = "addr"
  · rw [if_pos q0] at da db
    obtain ⟨x, rfl⟩ := range_int da
    obtain ⟨y, rfl⟩ := range_int db
    have n1 : ¬ k ∈ c_NAMING := by rw [q0]; exact n_naming_addr
    have n2 : ¬ k = "mail" := by rw [q0]; decide +kernel
    have n3 : ¬ k = "start" := by rw [q0]; decide +kernel
    rw [if_neg n1, if_neg n2, if_neg n3, if_neg n1, if_neg n2, if_neg n3]
    exact ⟨⟨1, by omega, rfl, rfl, True.intro⟩, id, rfl, rfl⟩
  · rw [if_neg q0] at da db
    by_cases q1 : k ∈ c_NAMING
    · rw [if_pos q1] at da db
      rw [if_pos q1, if_pos q1]
      obtain ⟨us, rfl, _⟩ := ask_tup da
      obtain ⟨vs, rfl, _⟩ := ask_tup db
      have s1 := ask_strs da ha
      have s2 := ask_strs db hb
      have l1 := (pu_items ha).1
      have l2 := (pu_items hb).1
      exact ⟨⟨2, by omega, s1.rev.sn (by simpa using l1), s2.rev.sn (by simpa using l2), s1.rev.cmp s2.rev⟩, fun e => by rw [rev_inj e], sn_mono (s1.sn l1) (by omega), sn_mono (s2.sn l2) (by omega)⟩
    · rw [if_neg q1] at da db
      rw [if_neg q1, if_neg q1]
      by_cases q2 : k = "mail"
      · rw [if_pos q2] at da db
        rw [if_pos q2, if_pos q2]
        obtain ⟨x, us, rfl, au⟩ := mail_shape da
        obtain ⟨y, vs, rfl, av⟩ := mail_shape db
        have pu1 := puB4 ((pu_items ha).2 (.tup us) (by simp))
        have pu2 := puB4 ((pu_items hb).2 (.tup vs) (by simp))
        have s1 := ask_strs au pu1
        have s2 := ask_strs av pu2
        have l1 := (pu_items pu1).1
        have l2 := (pu_items pu2).1
        have two : ∀ {z : Int} {ws : List W}, sn 2 (.tup ws) = true → sn 3 (.tup [.int z, .tup ws]) = true := fun {z ws} h => sn_tup (by simp) (by
          intro w hw
          simp only [List.mem_cons, List.not_mem_nil, or_false] at hw
          rcases hw with rfl | rfl
          · rfl
          · exact h)
        refine ⟨⟨3, by omega, two (s1.rev.sn (by simpa using l1)), two (s2.rev.sn (by simpa using l2)), fun j p q hp hq => ?_⟩, fun e => ?_, sn_mono (two (s1.sn l1)) (by omega), sn_mono (two (s2.sn l2)) (by omega)⟩
        · match j, hp, hq with
          | 0, hp, hq => cases hp; cases hq; exact True.intro
          | 1, hp, hq => cases hp; cases hq; exact s1.rev.cmp s2.rev
          | j + 2, hp, hq => simp at hp
        · have e' := W.tup.inj e
          simp only [List.cons.injEq, and_true] at e'
          obtain ⟨e1, e2⟩ := e'
          have e2' : W.tup us.reverse = .tup vs.reverse := e2
          rw [rev_inj e2', e1]
      · rw [if_neg q2] at da db
        rw [if_neg q2, if_neg q2]
        by_cases q3 : k = "start"
        · rw [if_pos q3] at da db
          rw [if_pos q3, if_pos q3]
          obtain ⟨us, x1, x2, x3, x4, x5, rfl, au⟩ := start_ints da
          obtain ⟨vs, y1, y2, y3, y4, y5, rfl, av⟩ := start_ints db
          have pu1 := puB4 ((pu_items ha).2 (.tup us) (by simp))
          have pu2 := puB4 ((pu_items hb).2 (.tup vs) (by simp))
          have s1 := ask_strs au pu1
          have s2 := ask_strs av pu2
          have l1 := (pu_items pu1).1
          have l2 := (pu_items pu2).1
          have six : ∀ {x1 x2 x3 x4 x5 : Int} {ws : List W}, sn 2 (.tup ws) = true → sn 3 (.tup [.tup ws, .int x1, .int x2, .int x3, .int x4, .int x5]) = true := fun {x1 x2 x3 x4 x5 ws} h => sn_tup (by simp) (by
            intro w hw
            simp only [List.mem_cons, List.not_mem_nil, or_false] at hw
            rcases hw with rfl | rfl | rfl | rfl | rfl | rfl
            · exact h
            all_goals rfl)
          refine ⟨⟨3, by omega, six (s1.rev.sn (by simpa using l1)), six (s2.rev.sn (by simpa using l2)), fun j p q hp hq => ?_⟩, fun e => ?_, sn_mono (six (s1.sn l1)) (by omega), sn_mono (six (s2.sn l2)) (by omega)⟩
          · match j, hp, hq with
            | 0, hp, hq => cases hp; cases hq; exact s1.rev.cmp s2.rev
            | 1, hp, hq => cases hp; cases hq; exact True.intro
            | 2, hp, hq => cases hp; cases hq; exact True.intro
            | 3, hp, hq => cases hp; cases hq; exact True.intro
            | 4, hp, hq => cases hp; cases hq; exact True.intro
            | 5, hp, hq => cases hp; cases hq; exact True.intro
            | j + 6, hp, hq => simp at hp
          · have e' := W.tup.inj e
            simp only [List.cons.injEq, and_true] at e'
            obtain ⟨e1, e2⟩ := e'
            have e1' : W.tup us.reverse = .tup vs.reverse := e1
            rw [rev_inj e1', e2.1, e2.2.1, e2.2.2.1, e2.2.2.2.1, e2.2.2.2.2]
        · rw [if_neg q3] at da db
          rw [if_neg q3, if_neg q3]
          cases a with
          | str x =>
            cases b with
            | str y => exact ⟨⟨1, by omega, ha, hb, True.intro⟩, id, ha, hb⟩
            | _ => exact nomatch (show false = true from db)
          | _ => exact nomatch (show false = true from da)
theorem eq_sn (ha : sn 5 a = true) (hb : sn 5 b = true) : eqW a b st = .ok (.bl (decide (a = b))) st ∧ neW a b st = .ok (.bl (!decide (a = b))) st := by
  have e : (dat 5 a).eqv (dat 5 b) = decide (a = b) := by
    rw [Bool.eq_iff_iff, eqv_sn 5 a b ha hb, decide_eq_true_iff]
  have p1 := Pic.pu (st := st) a (sn_pu 5 a ha)
  have p2 := Pic.pu (st := st) b (sn_pu 5 b hb)
  have d1 : dU a = dat 5 a := dU_pu (sn_pu 5 a ha)
  have d2 : dU b = dat 5 b := dU_pu (sn_pu 5 b hb)
  refine ⟨?_, ?_⟩
  · rw [pic_eq p1 p2, d1, d2, e]
  · rw [pic_ne p1 p2, d1, d2, e]
def ordI (a b : W) (r : Bool) : Int := if a = b then 0 else if r = true then -1 else 1
theorem compared_ok (hk : k ∈ c_KINDS) (ha : pu a) (da : dataB k a = true) (hb : pu b) (db : dataB k b = true) :
    ∃ r, ltUW (keyW k a) (keyW k b) st = .ok (.bl r) st ∧ d_data_compared [.str k, a, b] st = .ok (.int (ordI a b r)) st ∧ d_data_compared [.str k, b, a] st = .ok (.int (-(ordI a b r))) st := by
  obtain ⟨⟨n, hn, s1, s2, hc⟩, inj, sa, sb⟩ := key_all hk ha da hb db
  obtain ⟨r, o1, r', o2, hr⟩ := ord_tot st n 8 _ _ (by omega) (by omega) s1 s2 hc
  have l1 : ltUW (keyW k a) (keyW k b) st = .ok (.bl r) st := by unfold ltUW; rw [o1]
  have l2 : ltUW (keyW k b) (keyW k a) st = .ok (.bl r') st := by unfold ltUW; rw [o2]
  have pa := dplace_ok (st := st) hk ha da
  have pb := dplace_ok (st := st) hk hb db
  have ck := checkG (st := st) hk
  have e1 := (eq_sn (st := st) sa sb).1
  have e2 := (eq_sn (st := st) sb sa).1
  refine ⟨r, l1, ?_, ?_⟩
  · unfold d_data_compared; rw [fnDen_ap]; unfold b_data_compared ordI
    by_cases q : a = b
    · rw [decide_eq_true q] at e1
      rw [if_pos q]
      simp -implicitDefEqProofs [ck, e1]
    · rw [decide_eq_false q] at e1
      rw [if_neg q]
      cases r <;> simp -implicitDefEqProofs [ck, e1, pa, pb, l1]
  · unfold d_data_compared; rw [fnDen_ap]; unfold b_data_compared ordI
    by_cases q : a = b
    · rw [decide_eq_true q.symm] at e2
      rw [if_pos q]
      simp -implicitDefEqProofs [ck, e2]
    · rw [decide_eq_false (fun e => q e.symm)] at e2
      rw [if_neg q]
      have hr' := hr fun e => q (inj e)
      subst hr'
      cases r <;> simp -implicitDefEqProofs [ck, e2, pa, pb, l2]
end
end
end K04
namespace K04
open PySem PySem.Spec PyProof.Rows L2 MP
open Classical
noncomputable section
mutual
/-- no list of ahead -/
def frB (n : Nat) : W → Bool
  | .loc k => decide (n ≤ k)
  | .tup ws => frBs n ws
  | .fro ws => frBs n ws
  | _ => true
def frBs (n : Nat) : List W → Bool
  | [] => true
  | w :: ws => frB n w && frBs n ws
end
mutual
theorem fr_pu (k : Nat) : ∀ (n : Nat) (w : W), puB n w = true → frB k w = true
  | 0, _, h => by simp [puB] at h
  | n + 1, w, h => by
    cases w with
    | tup ws =>
      simp only [puB, Bool.and_eq_true, List.all_eq_true] at h
      simp only [frB]
      exact frs_pu k n ws h.2
    | _ => first | rfl | simp [puB] at h
theorem frs_pu (k : Nat) : ∀ (n : Nat) (ws : List W), (∀ w ∈ ws, puB n w = true) → frBs k ws = true
  | n, [], _ => rfl
  | n, w :: ws, h => by
    simp only [frBs, Bool.and_eq_true]
    exact ⟨fr_pu k n w (h w List.mem_cons_self), frs_pu k n ws fun w m => h w (List.mem_cons_of_mem _ m)⟩
end
theorem frs_of {n : Nat} : ∀ {ws : List W}, (∀ w ∈ ws, frB n w = true) → frBs n ws = true
  | [], _ => rfl
  | w :: ws, h => by
    simp only [frBs, Bool.and_eq_true]
    exact ⟨h w List.mem_cons_self, frs_of fun w m => h w (List.mem_cons_of_mem _ m)⟩
theorem frs_mem : ∀ {ws : List W} {m : Nat} {w : W}, frBs m ws = true → w ∈ ws → frB m w = true
  | [], _, _, _, h => nomatch h
  | a :: ws, m, w, hc, h => by
    simp only [frBs, Bool.and_eq_true] at hc
    rcases List.mem_cons.mp h with rfl | h
    · exact hc.1
    · exact frs_mem hc.2 h
mutual
theorem fr_mono {m n : Nat} (hm : m ≤ n) : ∀ (w : W), frB n w = true → frB m w = true
  | .loc k, h => by simp only [frB, decide_eq_true_eq] at h ⊢; omega
  | .tup ws, h => by simp only [frB] at h ⊢; exact frs_mono hm ws h
  | .fro ws, h => by simp only [frB] at h ⊢; exact frs_mono hm ws h
  | .non, _ => rfl
  | .bl _, _ => rfl
  | .int _, _ => rfl
  | .str _, _ => rfl
  | .gl _, _ => rfl
  | .rng _ _, _ => rfl
theorem frs_mono {m n : Nat} (hm : m ≤ n) : ∀ (ws : List W), frBs n ws = true → frBs m ws = true
  | [], _ => rfl
  | w :: ws, h => by
    simp only [frBs, Bool.and_eq_true] at h ⊢
    exact ⟨fr_mono hm w h.1, frs_mono hm ws h.2⟩
end
/-- what a call gives back: some value, the store longer -/
structure BR (p n k : Nat) (st : Store) (r : Res W) : Prop where
  ex : ∃ (w : W) (st' : Store), r = .ok w st' ∧ Gd st' k w ∧ PotA p n st' ∧ Ext p st st' ∧ frB st.length w = true
theorem cls_mem : ∀ {ws : List W} {m : Nat} {w : W}, clBs m ws = true → w ∈ ws → clB m w = true
  | [], _, _, _, h => nomatch h
  | a :: ws, m, w, hc, h => by
    simp only [clBs, Bool.and_eq_true] at hc
    rcases List.mem_cons.mp h with rfl | h
    · exact hc.1
    · exact cls_mem hc.2 h
section
variable {p n m k N : Nat} {st st' S T : Store} {w : W} {ws nl : List W}
theorem Gd.ext (P : PotA p n st') (X : Ext p st st') (h : Gd st m w) : Gd st' m w := by
  induction h with
  | pu n w h => exact .pu n w h
  | ls n k ws h hl hw =>
    by_cases e : k = p
    · subst e
      obtain ⟨a, b, c, e, _⟩ := P
      exact .ls n k _ e (by simp) (by
        intro w hw
        simp only [List.mem_cons, List.not_mem_nil, or_false] at hw
        rcases hw with rfl | rfl | rfl <;> rfl)
    · exact .ls n k ws (X.get h e) hl hw
  | tp n ws hl h ih => exact .tp n ws hl fun w hw => ih w hw
theorem Gd.close (h : Gd st n w) (hc : clB m w = true) : Gd (st.take m) n w := by
  induction h with
  | pu n w h => exact .pu n w h
  | ls n k ws h hl hw =>
    have hk : k < m := by simpa [clB] using hc
    exact .ls n k ws (by rw [List.getElem?_take, if_pos hk]; exact h) hl hw
  | tp n ws hl h ih => exact .tp n ws hl fun w hw => ih w hw (cls_mem (by simpa only [clB] using hc) hw)
theorem Gd.set {o : Ob} (h : Gd st n w) (hf : frB m w = true) (hk : k < m) : Gd (st.set k o) n w := by
  induction h with
  | pu n w h => exact .pu n w h
  | ls n j ws h hl hw =>
    have hj : m ≤ j := by simpa only [frB, decide_eq_true_eq] using hf
    exact .ls n j ws (by rw [List.getElem?_set_ne (by omega)]; exact h) hl hw
  | tp n ws hl h ih => exact .tp n ws hl fun w hw => ih w hw (frs_mem (by simpa only [frB] using hf) hw)
theorem gc_gd {v : W} (X : Ext p st st') (P : PotA p n st') (hl : p < st.length) (h : Gd st' k v) (hf : frB st.length v = true) : BR p n k st (gc st v st') := by
  by_cases hv : clB st.length v = true
  · obtain ⟨G1, G2, G3⟩ := gc_pot X P hl hv
    exact ⟨v, _, G1, h.close hv, G3, G2.ext, hf⟩
  · have any : gc st v st' = .ok v st' → BR p n k st (gc st v st') := fun e => ⟨v, st', e, h, P, X, hf⟩
    cases v with
    | loc m =>
      have hm : st.length ≤ m := by
        simp only [clB, decide_eq_true_eq] at hv; omega
      cases h with
      | pu _ _ h => exact nomatch (show false = true from h)
      | ls _ _ ws h hl' hw =>
        obtain ⟨G1, G2, G3⟩ := gc_potL X P hl hm h (cls_pu _ 5 _ hw)
        refine ⟨_, _, G1, .ls _ _ ws ?_ hl' hw, G3.app _, G2.ext.trans (.app _), decide_eq_true (Nat.le_refl _)⟩
        rw [show st.length = (List.take st.length st').length from G2.len.symm]
        simp
    | tup us =>
      refine any ?_
      unfold gc
      by_cases g : GcOk st st'
      · rw [if_pos g, if_neg hv]
      · rw [if_neg g]
    | fro us =>
      refine any ?_
      unfold gc
      by_cases g : GcOk st st'
      · rw [if_pos g, if_neg hv]
      · rw [if_neg g]
    | _ => exact absurd rfl hv
theorem pick_ok {q : Nat} {c : Int} {L : List W} (P : PotA p n S) (X : Ext p st S) (hq : S[q]? = some (.lst L)) (hpq : p ≠ q) (hn : n ≤ 1000000) (hc : (L.length : Int) = c) (h0 : 0 < c) (h9 : c < 9000) {b : Nat} (hG : ∀ w ∈ L, Gd S m w ∧ frB b w = true) :
    ∃ (t : Int) (w : W) (T : Store), d__law_take [.loc p, .int c] S = .ok (.int t) T ∧ ixW (.loc q) (.int t) T = .ok w T ∧ w ∈ L ∧ Gd T m w ∧ PotA p (n + 1) T ∧ Ext p st T ∧ Kp p S T ∧ frB b w = true := by
  obtain ⟨t, T, e, t0, t1, P1, K1⟩ := take_ok (m := c) P hn h0 h9
  have gq : T[q]? = some (.lst L) := by rw [K1.keep _ (Ne.symm hpq)]; exact hq
  obtain ⟨w, hw, _, ix⟩ := ix_mem (st := T) (a := .loc q) (ws := L) (i := t) (seq_loc gq) t0 (by rw [hc]; exact t1)
  exact ⟨t, w, T, e, ix, hw, (hG w hw).1.ext P1 K1.ext, P1, X.trans K1.ext, K1, (hG w hw).2⟩
/-- one more sign or label -/
theorem pu_more (h : pu (.tup ws)) (hl : ws.length ≤ 100) {a : W} (ha : puB 4 a = true) : pu (.tup (ws ++ [a])) ∧ pu (.tup (a :: ws)) := by
  obtain ⟨_, hi⟩ := pu_items h
  refine ⟨pu_tup (by simp; omega) fun w hw => ?_, pu_tup (by simp; omega) fun w hw => ?_⟩
  · rcases List.mem_append.mp hw with h | h
    · exact hi w h
    · rw [List.mem_singleton.mp h]; exact ha
  · rcases List.mem_cons.mp hw with h | h
    · rw [h]; exact ha
    · exact hi w h
theorem p40 : powW (.int 2) (.int 40) st = .ok (.int 1099511627776) st := pow_okQ ⟨by decide, by
  have : (Builtin.Int.intBits 2 : Int) = 2 := by decide +kernel
  rw [this]; decide⟩
theorem rep2 {x : Str} (h : okS x = true) (hl : x.length ≤ 100) : mulW (.str x) (.int 2) st = .ok (.str (x ++ x)) st ∧ okS (x ++ x) = true := by
  have e : repS x (2 : Int).toNat = x ++ x := by
    apply str_ext
    show ((#[] ++ x.cps) ++ x.cps).toList = _
    rw [cl_app]
    simp [cl]
  have hok : okS (x ++ x) = true := ok_app h h (by omega)
  refine ⟨?_, hok⟩
  have hc : CRepS x 2 := ⟨by decide, by decide, by omega, by omega, by rw [e]; exact okS.line hok⟩
  show (if CRepS x 2 then Res.ok (W.str (repS x (2 : Int).toNat)) st else .stuck) = _
  rw [if_pos hc, e]
theorem rep61 : mulW (.str "x") (.int 61) st = .ok (.str (repS "x" 61)) st := by
  refine if_pos (?_ : CRepS "x" 61)
  exact ⟨by decide, by decide, by decide +kernel, by decide +kernel, by decide +kernel⟩
theorem rep60 : mulW (.str "x") (.int 60) st = .ok (.str (repS "x" 60)) st := by
  refine if_pos (?_ : CRepS "x" 60)
  exact ⟨by decide, by decide, by decide +kernel, by decide +kernel, by decide +kernel⟩
def tA : DS := (sAsg (dCall 2 d__law_take (dCons (dVar 0) (dCons (dC (.int 8)) dNil))) (tName 3))
def tC1 : D Bool := (dAnd (dBool (dApp isiW (dCons (dVar 1) (dCons (dC (.gl (.ty "tuple"))) dNil)))) (dAnd (dBool (dOp neW (dVar 1) (dTup dNil))) (dAnd (dNot (dBool (dApp isiW (dCons (dOp ixW (dVar 1) (dC (.int 0))) (dCons (dC (.gl (.ty "str"))) dNil))))) (dBool (dOp ltW (dVar 3) (dC (.int 4)))))))
def tR1 (rec : List W → Store → Res W) : DS := sSeq (sAsg (dCall 2 d__law_take (dCons (dVar 0) (dCons (dApp lenW (dCons (dVar 1) dNil)) dNil))) (tName 5)) (sRet (dOp addW (dOp addW (dSl (dVar 1) dNoPart (dPart (dVar 5))) (dTup (dCons (dCall 3 rec (dCons (dVar 0) (dCons (dOp ixW (dVar 1) (dVar 5)) (dCons (dVar 2) dNil)))) dNil))) (dSl (dVar 1) (dPart (dOp addW (dVar 5) (dC (.int 1)))) dNoPart)))
def tC2 : D Bool := (dAnd (dBool (dApp isiW (dCons (dVar 1) (dCons (dC (.gl (.ty "tuple"))) dNil)))) (dBool (dOp ltW (dVar 3) (dC (.int 6)))))
def tR2 : DS := (sRet (dOp ixW (dLst (dCons (dSl (dVar 1) (dPart (dC (.int 1))) dNoPart) (dCons (dOp addW (dVar 1) (dTup (dCons (dC (.str "a")) dNil))) (dCons (dOp addW (dVar 1) (dTup (dCons (dC (.int 5)) dNil))) (dCons (dApp listAW (dCons (dVar 1) dNil)) (dCons (dOp addW (dTup (dCons (dC (.str "*")) dNil)) (dVar 1)) (dCons (dTup (dCons (dC (.str "*")) (dCons (dC (.str "*")) dNil))) dNil))))))) (dCall 2 d__law_take (dCons (dVar 0) (dCons (dC (.int 6)) dNil)))))
def tC3 : D Bool := (dAnd (dBool (dApp isiW (dCons (dVar 1) (dCons (dC (.gl (.ty "int"))) dNil)))) (dBool (dOp ltW (dVar 3) (dC (.int 6)))))
def tR3 : DS := sSeq (sAsg (dLst (dCons (dOp powW (dC (.int 2)) (dC (.int 16))) (dCons (dOp powW (dC (.int 2)) (dC (.int 31))) (dCons (dOp powW (dC (.int 2)) (dC (.int 32))) (dCons (dUn negW (dC (.int 1))) (dCons (dOp subW (dOp powW (dC (.int 2)) (dC (.int 16))) (dC (.int 1))) (dCons (dOp subW (dOp powW (dC (.int 2)) (dC (.int 31))) (dC (.int 1))) (dCons (dOp subW (dOp powW (dC (.int 2)) (dC (.int 32))) (dC (.int 1))) (dCons (dC (.bl true)) (dCons (dUn negW (dOp powW (dC (.int 2)) (dC (.int 40)))) dNil)))))))))) (tName 6)) (sRet (dOp ixW (dVar 6) (dCall 2 d__law_take (dCons (dVar 0) (dCons (dC (.int 9)) dNil)))))
def tC4 : D Bool := (dAnd (dBool (dApp isiW (dCons (dVar 1) (dCons (dC (.gl (.ty "str"))) dNil)))) (dBool (dOp ltW (dVar 3) (dC (.int 6)))))
def tR4 : DS := (sRet (dOp ixW (dLst (dCons (dOp addW (dVar 1) (dC (.str "\n"))) (dCons (dOp addW (dC (.str "	")) (dVar 1)) (dCons (dOp mulW (dC (.str "x")) (dC (.int 61))) (dCons (dOp mulW (dC (.str "x")) (dC (.int 60))) (dCons (dOp mulW (dVar 1) (dC (.int 2))) (dCons (dC (.str "")) dNil))))))) (dCall 2 d__law_take (dCons (dVar 0) (dCons (dC (.int 6)) dNil)))))
def tR5 : DS := sSeq (sAsg (dLst (dCons (dCall 1 d__law_odd (dCons (dVar 0) dNil)) (dCons (dOp ixW (dVar 2) (dCall 2 d__law_take (dCons (dVar 0) (dCons (dApp lenW (dCons (dVar 2) dNil)) dNil)))) (dCons (dC (.int 5)) (dCons (dC (.str "text")) (dCons (dTup (dCons (dC (.int 10)) (dCons (dTup dNil) dNil))) (dCons (dTup (dCons (dC (.int 10)) (dCons (dTup (dCons (dC (.str "a")) dNil)) (dCons (dC (.int 3)) dNil)))) (dCons (dLst (dCons (dC (.int 10)) (dCons (dTup (dCons (dC (.str "a")) dNil)) dNil))) dNil)))))))) (tName 4)) (sRet (dOp ixW (dVar 4) (dCall 2 d__law_take (dCons (dVar 0) (dCons (dC (.int 7)) dNil)))))
theorem bent_eq (rec : List W → Store → Res W) : b__law_bent rec = sSeq tA (sSeq (sIf tC1 (tR1 rec) sNil) (sSeq (sIf tC2 tR2 sNil) (sSeq (sIf tC3 tR3 sNil) (sSeq (sIf tC4 tR4 sNil) tR5)))) := rfl
/-- a statement that returns some value -/
def Rt (p n k b : Nat) (st : Store) (r : RsS) : Prop := ∃ (v : W) (env' : EnvW) (T : Store), r = .go (.rt v) env' T ∧ Gd T k v ∧ PotA p n T ∧ Ext p st T ∧ frB b v = true
theorem gf_pu {st : Store} {w : W} {n b : Nat} (h : pu w) : Gd st n w ∧ frB b w = true := ⟨.pu _ _ h, fr_pu b 5 w h⟩
section
variable {b1 b2 b3 b4 b5 b6 : Option W} {b : Nat}
theorem tR2_ok (P : PotA p n S) (hn : n + 10 ≤ 1000000) (hp : pu (.tup ws)) (hl : ws.length ≤ 100) (hb : b ≤ S.length) : Rt p (n + 1) k b S (tR2 [some (.loc p), some (.tup ws), b2, b3, b4, b5, b6] S) := by
  have hlt := P.lt
  obtain ⟨L, hL⟩ : ∃ L, L = [W.tup (ws.drop 1), .tup (ws ++ [.str "a"]), .tup (ws ++ [.int 5]), .loc S.length, .tup (.str "*" :: ws), .tup [.str "*", .str "*"]] := ⟨_, rfl⟩
  obtain ⟨U, hU⟩ : ∃ U, U = S ++ [Ob.lst ws, .lst L] := ⟨_, rfl⟩
  have PU : PotA p n U := by rw [hU]; exact P.app _
  have XU : Ext p S U := by rw [hU]; exact .app _
  have gU : U[S.length + 1]? = some (.lst L) := by rw [hU]; simp
  have g0 : U[S.length]? = some (.lst ws) := by rw [hU]; simp
  obtain ⟨hpl, hpi⟩ := pu_items hp
  have hA : puB 4 (.str "a") = true := by decide +kernel
  have hS : puB 4 (.str "*") = true := by decide +kernel
  obtain ⟨t, w, T, e, ix, _, G, P1, X1, _, fw⟩ := pick_ok (m := k) (b := b) PU XU gU (by omega) (by omega) (by rw [hL]; rfl : (L.length : Int) = 6) (by decide) (by decide) (fun w hw => by
    rw [hL] at hw
    simp only [List.mem_cons, List.not_mem_nil, or_false] at hw
    rcases hw with rfl | rfl | rfl | rfl | rfl | rfl
    · exact gf_pu (pu_sub hp _ (fun w hw => List.mem_of_mem_drop hw) (by simp))
    · exact gf_pu (pu_more hp hl hA).1
    · exact gf_pu (pu_more hp hl rfl).1
    · exact ⟨.ls _ _ ws g0 hpl fun w hw => puB4 (hpi w hw), decide_eq_true hb⟩
    · exact gf_pu (pu_more hp hl hS).2
    · exact gf_pu (by decide +kernel))
  refine ⟨w, [some (.loc p), some (.tup ws), b2, b3, b4, b5, b6], T, ?_, G, P1, X1, fw⟩
  have k1 : ∀ (a : W) (T : Store), kTup [a] T = .ok (.tup [a]) T := fun a T => ten (by simp)
  have k2 : ∀ (a b : W) (T : Store), kTup [a, b] T = .ok (.tup [a, b]) T := fun a b T => ten (by simp)
  have sl : slW (.tup ws) (some 1) none S = .ok (.tup (ws.drop 1)) S := sl_from
  have ad1 : ∀ (a : W) (T : Store), addW (.tup ws) (.tup [a]) T = .ok (.tup (ws ++ [a])) T := fun a T => addW_tt (by simp; omega)
  have ad2 : ∀ (a : W) (T : Store), addW (.tup [a]) (.tup ws) T = .ok (.tup (a :: ws)) T := fun a T => addW_tt (by simp; omega)
  have li : listAW [.tup ws] S = .ok (.loc S.length) (S ++ [.lst ws]) := rfl
  have kl : kLst L (S ++ [.lst ws]) = .ok (.loc (S.length + 1)) U := by
    have := lst5 (l := L) (st := S ++ [.lst ws]) (by rw [hL]; simp)
    rw [this, hU]; simp
  unfold tR2
  simp -implicitDefEqProofs only [sRet_ap, dOp_ap, dLst_ap, dCons_ap, dSl_ap, dVar_ap, dPart_ap, dC_ap, dNoPart_ap, dTup_ap, dApp_ap, dNil_ap, List.getElem?_cons_zero, List.getElem?_cons_succ, Res.bind_ok, kOp1_ap, kCons1_ap, kCons2_ap, kSl1_ap, kSl2_ap, kPart_ap, k1, k2, sl, ad1, ad2, li]
  rw [← hL, kl]
  simp -implicitDefEqProofs only [Res.bind_ok, kOp1_ap, dCall_ap, dCons_ap, dVar_ap, dC_ap, dNil_ap, List.getElem?_cons_zero, List.getElem?_cons_succ, kCons1_ap, kCons2_ap, kCall_2, e, ix, Res.then_ok, kRet_ap]
theorem tR3_ok (P : PotA p n S) (hn : n + 10 ≤ 1000000) : Rt p (n + 1) k b S (tR3 [some (.loc p), b1, b2, b3, b4, b5, b6] S) := by
  have hlt := P.lt
  obtain ⟨L, hL⟩ : ∃ L, L = [W.int 65536, .int 2147483648, .int 4294967296, .int (-1), .int (65536 - 1), .int (2147483648 - 1), .int (4294967296 - 1), .bl true, .int (-1099511627776)] := ⟨_, rfl⟩
  obtain ⟨U, hU⟩ : ∃ U, U = S ++ [Ob.lst L] := ⟨_, rfl⟩
  have PU : PotA p n U := by rw [hU]; exact P.app _
  have XU : Ext p S U := by rw [hU]; exact .app _
  have gU : U[S.length]? = some (.lst L) := by rw [hU]; simp
  obtain ⟨t, w, T, e, ix, _, G, P1, X1, _, fw⟩ := pick_ok (m := k) (b := b) PU XU gU (by omega) (by omega) (by rw [hL]; rfl : (L.length : Int) = 9) (by decide) (by decide) (fun w hw => by
    rw [hL] at hw
    simp only [List.mem_cons, List.not_mem_nil, or_false] at hw
    rcases hw with rfl | rfl | rfl | rfl | rfl | rfl | rfl | rfl | rfl <;> exact gf_pu rfl)
  refine ⟨w, [some (.loc p), b1, b2, b3, b4, b5, some (.loc S.length)], T, ?_, G, P1, X1, fw⟩
  have kl : kLst L S = .ok (.loc S.length) U := by
    have := lst5 (l := L) (st := S) (by rw [hL]; simp)
    rw [this, hU]
  unfold tR3
  simp -implicitDefEqProofs only [sSeq_ap, sAsg_ap, dLst_ap, dCons_ap, dOp_ap, dUn_ap, dC_ap, dNil_ap, Res.bind_ok, kOp1_ap, kCons1_ap, kCons2_ap, p16, p31, p32, p40, negW_i, subW_i]
  rw [← hL, kl]
  simp -implicitDefEqProofs only [Res.then_ok, kAsg_n, List.set_cons_succ, List.set_cons_zero, RsS.next_nx, sRet_ap, dOp_ap, dVar_ap, Res.bind_ok, kOp1_ap, dCall_ap, dCons_ap, dC_ap, dNil_ap, List.getElem?_cons_zero, List.getElem?_cons_succ, kCons1_ap, kCons2_ap, kCall_2, e, ix, kRet_ap]
theorem tR4_ok {x : Str} (P : PotA p n S) (hn : n + 10 ≤ 1000000) (hx : okS x = true) (hl : x.length ≤ 100) : Rt p (n + 1) k b S (tR4 [some (.loc p), some (.str x), b2, b3, b4, b5, b6] S) := by
  have hlt := P.lt
  have o1 : okS (x ++ "\n") = true := ok_app hx (by decide +kernel) (by rw [show ("\n" : Str).length = 1 from rfl]; omega)
  have o2 : okS ("\t" ++ x) = true := ok_app (by decide +kernel) hx (by rw [show ("\t" : Str).length = 1 from rfl]; omega)
  obtain ⟨m2, o3⟩ := rep2 (st := S) hx hl
  obtain ⟨L, hL⟩ : ∃ L, L = [W.str (x ++ "\n"), .str ("\t" ++ x), .str (repS "x" 61), .str (repS "x" 60), .str (x ++ x), .str ""] := ⟨_, rfl⟩
  obtain ⟨U, hU⟩ : ∃ U, U = S ++ [Ob.lst L] := ⟨_, rfl⟩
  have PU : PotA p n U := by rw [hU]; exact P.app _
  have XU : Ext p S U := by rw [hU]; exact .app _
  have gU : U[S.length]? = some (.lst L) := by rw [hU]; simp
  obtain ⟨t, w, T, e, ix, _, G, P1, X1, _, fw⟩ := pick_ok (m := k) (b := b) PU XU gU (by omega) (by omega) (by rw [hL]; rfl : (L.length : Int) = 6) (by decide) (by decide) (fun w hw => by
    rw [hL] at hw
    simp only [List.mem_cons, List.not_mem_nil, or_false] at hw
    rcases hw with rfl | rfl | rfl | rfl | rfl | rfl
    · exact gf_pu o1
    · exact gf_pu o2
    · exact gf_pu (by decide +kernel)
    · exact gf_pu (by decide +kernel)
    · exact gf_pu o3
    · exact gf_pu (by decide +kernel))
  refine ⟨w, [some (.loc p), some (.str x), b2, b3, b4, b5, b6], T, ?_, G, P1, X1, fw⟩
  have kl : kLst L S = .ok (.loc S.length) U := by
    have := lst5 (l := L) (st := S) (by rw [hL]; simp)
    rw [this, hU]
  have a1 : addW (.str x) (.str "\n") S = .ok (.str (x ++ "\n")) S := addW_s (by have := okS.line o1; rwa [len_add] at this)
  have a2 : addW (.str "\t") (.str x) S = .ok (.str ("\t" ++ x)) S := addW_s (by have := okS.line o2; rwa [len_add] at this)
  unfold tR4
  simp -implicitDefEqProofs only [sRet_ap, dOp_ap, dLst_ap, dCons_ap, dVar_ap, dC_ap, dNil_ap, List.getElem?_cons_zero, List.getElem?_cons_succ, Res.bind_ok, kOp1_ap, kCons1_ap, kCons2_ap, a1, a2, m2, rep61, rep60]
  rw [← hL, kl]
  simp -implicitDefEqProofs only [Res.bind_ok, kOp1_ap, dCall_ap, dCons_ap, dVar_ap, dC_ap, dNil_ap, List.getElem?_cons_zero, List.getElem?_cons_succ, kCons1_ap, kCons2_ap, kCall_2, e, ix, Res.then_ok, kRet_ap]
theorem tR5_ok (P : PotA p n S) (hn : n + 10 ≤ 1000000) (hN : S[N]? = some (.lst nl)) (hpN : p ≠ N) (h6 : nl.length = 6) (hnl : ∀ w ∈ nl, NM w) (hb : b ≤ S.length) : Rt p (n + 3) k b S (tR5 [some (.loc p), b1, some (.loc N), b3, b4, b5, b6] S) := by
  have hlt := P.lt
  obtain ⟨⟨w0, u0, s0, g0, e0, pic0, _, P0, K0, hd0⟩⟩ := odd_draw P (by omega)
  have f0 : frB b w0 = true := by
    rcases hd0 with ⟨_, h⟩ | ⟨ws, _, h, _⟩
    · exact fr_pu b 5 w0 h
    · rw [h]; exact decide_eq_true hb
  obtain ⟨S1, hS1⟩ : ∃ S1, S1 = s0 ++ g0 := ⟨_, rfl⟩
  rw [← hS1] at e0 pic0
  have P1 : PotA p (n + 1) S1 := by rw [hS1]; exact P0.app _
  have X1 : Ext p S S1 := by rw [hS1]; exact K0.ext.trans (.app _)
  have N1 : S1[N]? = some (.lst nl) := X1.get hN (Ne.symm hpN)
  have G0 : Gd S1 0 w0 := by
    cases pic0 with
    | pu _ h => exact .pu _ _ h
    | ls q ws h hl hw => exact .ls _ q ws h hl hw
  have ln : lenW [.loc N] S1 = .ok (.int 6) S1 := by rw [len_seq (seq_loc N1), h6]; rfl
  obtain ⟨t1, nm, S2, e1, ix1, hm, _, P2, X2, K2, _⟩ := pick_ok (m := 0) (c := 6) (b := 0) P1 X1 N1 hpN (by omega) (by rw [h6]; rfl) (by decide) (by decide) (fun w hw => gf_pu (hnl w hw).pu)
  have pnm := (hnl nm hm).pu
  obtain ⟨L, hL⟩ : ∃ L, L = [w0, nm, .int 5, .str "text", .tup [.int 10, .tup []], .tup [.int 10, .tup [.str "a"], .int 3], .loc S2.length] := ⟨_, rfl⟩
  obtain ⟨U, hU⟩ : ∃ U, U = S2 ++ [Ob.lst [.int 10, .tup [.str "a"]], .lst L] := ⟨_, rfl⟩
  have PU : PotA p (n + 2) U := by rw [hU]; exact P2.app _
  have XU2 : Ext p S2 U := by rw [hU]; exact .app _
  have XU : Ext p S U := X2.trans XU2
  have hle : S2.length = S1.length := K2.len
  have gU : U[S2.length + 1]? = some (.lst L) := by rw [hU]; simp
  have gU0 : U[S2.length]? = some (.lst [.int 10, .tup [.str "a"]]) := by rw [hU]; simp
  have hp2 := P2.lt
  obtain ⟨t, w, T, e, ix, _, G, P3, X3, _, fw⟩ := pick_ok (m := k) (b := b) PU XU gU (by omega) (by omega) (by rw [hL]; rfl : (L.length : Int) = 7) (by decide) (by decide) (fun w hw => by
    rw [hL] at hw
    simp only [List.mem_cons, List.not_mem_nil, or_false] at hw
    rcases hw with rfl | rfl | rfl | rfl | rfl | rfl | rfl
    · exact ⟨((G0.ext P2 K2.ext).ext PU XU2).mono (Nat.zero_le _), f0⟩
    · exact gf_pu pnm
    · exact gf_pu rfl
    · exact gf_pu (by decide +kernel)
    · exact gf_pu (by decide +kernel)
    · exact gf_pu (by decide +kernel)
    · refine ⟨.ls _ _ _ gU0 (by simp) fun w hw => ?_, decide_eq_true (by have := X1.le; omega)⟩
      simp only [List.mem_cons, List.not_mem_nil, or_false] at hw
      rcases hw with rfl | rfl
      · rfl
      · decide +kernel)
  refine ⟨w, [some (.loc p), b1, some (.loc N), b3, some (.loc (S2.length + 1)), b5, b6], T, ?_, G, P3, X3, fw⟩
  have k0 : ∀ (T : Store), kTup [] T = .ok (.tup []) T := fun T => ten (by simp)
  have k1 : ∀ (a : W) (T : Store), kTup [a] T = .ok (.tup [a]) T := fun a T => ten (by simp)
  have k2 : ∀ (a b : W) (T : Store), kTup [a, b] T = .ok (.tup [a, b]) T := fun a b T => ten (by simp)
  have k3 : ∀ (a b c : W) (T : Store), kTup [a, b, c] T = .ok (.tup [a, b, c]) T := fun a b c T => ten (by simp)
  have kl0 : kLst [.int 10, .tup [.str "a"]] S2 = .ok (.loc S2.length) (S2 ++ [.lst [.int 10, .tup [.str "a"]]]) := lst5 (by simp)
  have kl : kLst L (S2 ++ [.lst [.int 10, .tup [.str "a"]]]) = .ok (.loc (S2.length + 1)) U := by
    have := lst5 (l := L) (st := S2 ++ [.lst [.int 10, .tup [.str "a"]]]) (by rw [hL]; simp)
    rw [this, hU]; simp
  unfold tR5
  simp -implicitDefEqProofs only [sSeq_ap, sAsg_ap, dLst_ap, dCons_ap, dCall_ap, dVar_ap, dOp_ap, dApp_ap, dC_ap, dTup_ap, dNil_ap, List.getElem?_cons_zero, List.getElem?_cons_succ, Res.bind_ok, kOp1_ap, kCons1_ap, kCons2_ap, kCall_1, kCall_2, e0, ln, e1, ix1, k0, k1, k2, k3, kl0]
  rw [← hL, kl]
  simp -implicitDefEqProofs only [Res.then_ok, kAsg_n, List.set_cons_succ, List.set_cons_zero, RsS.next_nx, sRet_ap, dOp_ap, dVar_ap, Res.bind_ok, kOp1_ap, dCall_ap, dCons_ap, dC_ap, dNil_ap, List.getElem?_cons_zero, List.getElem?_cons_succ, kCons1_ap, kCons2_ap, kCall_2, e, ix, kRet_ap]
end
end
end
end K04
namespace K04
open PySem PySem.Spec PyProof.Rows L2 MP
open Classical
noncomputable section
theorem ten0 {T : Store} : kTup [] T = .ok (.tup []) T := ten (by simp)
def V1 (w : W) : Prop := (∃ z, w = .int z) ∨ (∃ x : Str, w = .str x ∧ okS x = true ∧ x.length ≤ 100) ∨ ∃ ws, w = .tup ws ∧ pu (.tup ws) ∧ ws.length ≤ 100
def hS : List W → Bool | a :: _ => isS a | [] => false
theorem S0.pu4 {w : W} (h : S0 w) : puB 4 w = true := by
  rcases h with ⟨z, rfl⟩ | ⟨x, rfl, hx, _⟩ | ⟨us, rfl, hl, hi⟩
  · rfl
  · exact hx
  · show (decide (us.length ≤ 8192) && us.all (puB 3)) = true
    rw [Bool.and_eq_true, decide_eq_true_iff, List.all_eq_true]
    exact ⟨by omega, fun a ha => by obtain ⟨s, rfl, hs⟩ := hi a ha; exact hs⟩
theorem S0.v1 {w : W} (h : S0 w) : V1 w := by
  have hp : pu w := puB4 h.pu4
  rcases h with ⟨z, rfl⟩ | ⟨x, rfl, hx, hl⟩ | ⟨us, rfl, hl, hi⟩
  · exact .inl ⟨z, rfl⟩
  · exact .inr (.inl ⟨x, rfl, hx, hl⟩)
  · exact .inr (.inr ⟨us, rfl, hp, hl⟩)
theorem S1.v1 {w : W} (h : S1 w) : V1 w := by
  rcases h with h | ⟨ws, rfl, hl, hi⟩
  · exact h.v1
  · exact .inr (.inr ⟨ws, rfl, pu_tup (by omega) fun a ha => (hi a ha).pu4, hl⟩)
theorem V1.pu {w : W} (h : V1 w) : pu w := by
  rcases h with ⟨z, rfl⟩ | ⟨x, rfl, hx, hl⟩ | ⟨us, rfl, hp, hl⟩
  · rfl
  · exact hx
  · exact hp
theorem Rt.mono {p n m k j b : Nat} {st : Store} {r : RsS} (h : Rt p n k b st r) (hn : n ≤ m) (hk : k ≤ j) : Rt p m j b st r := by
  obtain ⟨v, env', T, e, G, P, X, f⟩ := h
  exact ⟨v, env', T, e, G.mono hk, P.mono hn, X, f⟩
section
variable {p n m k N c : Nat} {st S T : Store} {w : W} {ws nl : List W}
theorem ne_empty (h : pu (.tup ws)) : neW (.tup ws) (.tup []) st = .ok (.bl (!ws.isEmpty)) st := by
  rw [pic_ne (.pu _ h) (.pu _ rfl)]
  congr 3
  cases ws <;> rfl
theorem tR1_ok {rec : List W → Store → Res W} {b3 b4 b5 b6 : Option W} (P : PotA p n S) (hn : n + 10 ≤ 1000000) (hp : pu (.tup ws)) (hl : ws.length ≤ 100) (hne : ws ≠ []) (hN : S[N]? = some (.lst nl)) (hpN : p ≠ N)
    (hr : ∀ a ∈ ws, ∀ (T : Store) (n' : Nat), PotA p n' T → n' ≤ n + 1 → T[N]? = some (.lst nl) → BR p (n' + c) k T (rec [.loc p, a, .loc N] T)) :
    Rt p (n + 1 + c) (k + 1) S.length S (tR1 rec [some (.loc p), some (.tup ws), some (.loc N), b3, b4, b5, b6] S) := by
  have hpos : 0 < ws.length := List.length_pos_iff.mpr hne
  obtain ⟨t, s1, e1, t0, t1, P1, K1⟩ := take_ok (m := (ws.length : Int)) P (by omega) (by omega) (by omega)
  have N1 : s1[N]? = some (.lst nl) := by rw [K1.keep _ (Ne.symm hpN)]; exact hN
  obtain ⟨j, rfl⟩ : ∃ j : Nat, t = (j : Int) := ⟨t.toNat, by omega⟩
  have hj : j < ws.length := by omega
  have hget : ws[j]? = some ws[j] := List.getElem?_eq_getElem hj
  have ha : ws[j] ∈ ws := List.getElem_mem hj
  obtain ⟨⟨u, s2, e2, G2, P2, X2, fu⟩⟩ := hr _ ha s1 (n + 1) P1 (Nat.le_refl _) N1
  have ln : lenW [.tup ws] S = .ok (.int (ws.length : Int)) S := len_tup
  have ix : ixW (.tup ws) (.int (j : Int)) s1 = .ok ws[j] s1 := ix_t hget
  have sl1 : slW (.tup ws) none (some (j : Int)) s1 = .ok (.tup (ws.take j)) s1 := by
    show Res.ok (W.tup (cutW ws none (some (j : Int)))) s1 = _
    rw [cut_to]
  have sl2 : slW (.tup ws) (some ((j : Int) + 1)) none s2 = .ok (.tup (ws.drop (j + 1))) s2 := by
    show Res.ok (W.tup (cutW ws (some ((j + 1 : Nat) : Int)) none)) s2 = _
    rw [cut_from]
  have k1 : kTup [u] s2 = .ok (.tup [u]) s2 := ten (by simp)
  have ad1 : addW (.tup (ws.take j)) (.tup [u]) s2 = .ok (.tup (ws.take j ++ [u])) s2 := addW_tt (by simp; omega)
  have ad2 : addW (.tup (ws.take j ++ [u])) (.tup (ws.drop (j + 1))) s2 = .ok (.tup (ws.take j ++ [u] ++ ws.drop (j + 1))) s2 := addW_tt (by simp; omega)
  obtain ⟨_, hi⟩ := pu_items hp
  refine ⟨.tup (ws.take j ++ [u] ++ ws.drop (j + 1)), [some (.loc p), some (.tup ws), some (.loc N), b3, b4, some (.int (j : Int)), b6], s2, ?_, .tp _ _ (by simp; omega) fun w hw => ?_, P2, K1.ext.trans X2, frs_of fun w hw => ?_⟩
  · unfold tR1
    simp -implicitDefEqProofs only [sSeq_ap, sAsg_ap, dCall_ap, dCons_ap, dVar_ap, dApp_ap, dNil_ap, List.getElem?_cons_zero, List.getElem?_cons_succ, Res.bind_ok, kCons1_ap, kCons2_ap, ln, kCall_2, e1, Res.then_ok, kAsg_n, List.set_cons_succ, List.set_cons_zero, RsS.next_nx, sRet_ap, dOp_ap, dSl_ap, dNoPart_ap, dPart_ap, kSl1_ap, kSl2_ap, kPart_ap, sl1, kOp1_ap, dTup_ap, ix, kCall_3, e2, k1, ad1, dC_ap, addW_i, sl2, ad2, kRet_ap]
  · rcases List.mem_append.mp hw with h | h
    · rcases List.mem_append.mp h with h | h
      · exact .pu _ _ (puB4 (hi w (List.mem_of_mem_take h)))
      · rw [List.mem_singleton.mp h]; exact G2
    · exact .pu _ _ (puB4 (hi w (List.mem_of_mem_drop h)))
  · rcases List.mem_append.mp hw with h | h
    · rcases List.mem_append.mp h with h | h
      · exact fr_pu _ 4 _ (hi w (List.mem_of_mem_take h))
      · rw [List.mem_singleton.mp h, ← K1.len]; exact fu
    · exact fr_pu _ 4 _ (hi w (List.mem_of_mem_drop h))
theorem bent_step {rec : List W → Store → Res W} (P : PotA p n st) (hn : n + c + 20 ≤ 1000000) (hN : st[N]? = some (.lst nl)) (hpN : p ≠ N) (h6 : nl.length = 6) (hnl : ∀ w ∈ nl, NM w) (hw : V1 w)
    (hr : ∀ ws a, w = .tup ws → hS ws = false → a ∈ ws → ∀ (T : Store) (n' : Nat), PotA p n' T → n' ≤ n + 2 → T[N]? = some (.lst nl) → BR p (n' + c) k T (rec [.loc p, a, .loc N] T)) :
    BR p (n + c + 10) (k + 1) st (fnDen 7 (b__law_bent rec) [.loc p, w, .loc N] st) := by
  have hl := P.lt
  obtain ⟨t, s1, e1, t0, t1, P1, K1⟩ := take_ok (m := 8) P (by omega) (by decide) (by decide)
  have N1 : s1[N]? = some (.lst nl) := by rw [K1.keep _ (Ne.symm hpN)]; exact hN
  have hA : tA [some (.loc p), some w, some (.loc N), none, none, none, none] st = .go .nx [some (.loc p), some w, some (.loc N), some (.int t), none, none, none] s1 := by
    unfold tA
    simp -implicitDefEqProofs only [sAsg_ap, dCall_ap, dCons_ap, dVar_ap, dC_ap, dNil_ap, List.getElem?_cons_zero, List.getElem?_cons_succ, Res.bind_ok, kCons1_ap, kCons2_ap, kCall_2, e1, Res.then_ok, kAsg_n, List.set_cons_succ, List.set_cons_zero]
  have fin : ∀ {r : RsS}, (sSeq (sIf tC1 (tR1 rec) sNil) (sSeq (sIf tC2 tR2 sNil) (sSeq (sIf tC3 tR3 sNil) (sSeq (sIf tC4 tR4 sNil) tR5)))) [some (.loc p), some w, some (.loc N), some (.int t), none, none, none] s1 = r → Rt p (n + c + 10) (k + 1) s1.length s1 r → BR p (n + c + 10) (k + 1) st (fnDen 7 (b__law_bent rec) [.loc p, w, .loc N] st) := fun {r} h hR => by
    obtain ⟨v, env', T, rfl, G, PT, XT, hf⟩ := hR
    rw [fnDen_ap, bent_eq]
    show BR p (n + c + 10) (k + 1) st (fnR st (sSeq tA _ [some (.loc p), some w, some (.loc N), none, none, none, none] st))
    rw [seq_go hA h, fnR_rt]
    exact gc_gd (K1.ext.trans XT) PT hl G (by rw [← K1.len]; exact hf)
  have hg : Gd s1 0 w := .pu _ _ hw.pu
  have iT := gd_isT hg
  have iI := gd_isI hg
  have iS := gd_isS hg
  have c2 : tC2 [some (.loc p), some w, some (.loc N), some (.int t), none, none, none] s1 = .ok (isT w && decide (t < 6)) s1 := by
    unfold tC2
    cases q : isT w <;> rw [q] at iT <;> simp -implicitDefEqProofs [-Bool.decide_eq_true, iT]
  have c3 : tC3 [some (.loc p), some w, some (.loc N), some (.int t), none, none, none] s1 = .ok ((isI w || isB w) && decide (t < 6)) s1 := by
    unfold tC3
    cases q : (isI w || isB w) <;> rw [q] at iI <;> simp -implicitDefEqProofs [-Bool.decide_eq_true, iI]
  have c4 : tC4 [some (.loc p), some w, some (.loc N), some (.int t), none, none, none] s1 = .ok (isS w && decide (t < 6)) s1 := by
    unfold tC4
    cases q : isS w <;> rw [q] at iS <;> simp -implicitDefEqProofs [-Bool.decide_eq_true, iS]
  have r5 : Rt p (n + c + 10) (k + 1) s1.length s1 (tR5 [some (.loc p), some w, some (.loc N), some (.int t), none, none, none] s1) := (tR5_ok P1 (by omega) N1 hpN h6 hnl (Nat.le_refl _)).mono (by omega) (Nat.le_refl _)
  rcases hw with ⟨z, rfl⟩ | ⟨x, rfl, hx, hxl⟩ | ⟨ws, rfl, hp, hwl⟩
  · have c1 : tC1 [some (.loc p), some (.int z), some (.loc N), some (.int t), none, none, none] s1 = .ok false s1 := by
      unfold tC1
      simp -implicitDefEqProofs [iT, isT]
    have c2' := c2
    have c4' := c4
    rw [show (isT (.int z) && decide (t < 6)) = false from rfl] at c2'
    rw [show (isS (.int z) && decide (t < 6)) = false from rfl] at c4'
    by_cases q : t < 6
    · rw [show ((isI (.int z) || isB (.int z)) && decide (t < 6)) = true from decide_eq_true q] at c3
      have r3 := (tR3_ok (b := s1.length) (k := k + 1) (b1 := some (.int z)) (b2 := some (.loc N)) (b3 := some (.int t)) (b4 := none) (b5 := none) (b6 := none) P1 (by omega)).mono (m := n + c + 10) (by omega) (Nat.le_refl _)
      obtain ⟨v, env', T, e, G⟩ := r3
      exact fin (seq_go (if_f c1) (seq_go (if_f c2') (seq_rt (if_t c3 e)))) ⟨v, env', T, rfl, G⟩
    · rw [show ((isI (.int z) || isB (.int z)) && decide (t < 6)) = false from decide_eq_false q] at c3
      exact fin (seq_go (if_f c1) (seq_go (if_f c2') (seq_go (if_f c3) (seq_go (if_f c4') rfl)))) r5
  · have c1 : tC1 [some (.loc p), some (.str x), some (.loc N), some (.int t), none, none, none] s1 = .ok false s1 := by
      unfold tC1
      simp -implicitDefEqProofs [iT, isT]
    have c2' := c2
    have c3' := c3
    rw [show (isT (.str x) && decide (t < 6)) = false from rfl] at c2'
    rw [show ((isI (.str x) || isB (.str x)) && decide (t < 6)) = false from rfl] at c3'
    by_cases q : t < 6
    · rw [show (isS (.str x) && decide (t < 6)) = true from decide_eq_true q] at c4
      have r4 := (tR4_ok (b := s1.length) (k := k + 1) (b2 := some (.loc N)) (b3 := some (.int t)) (b4 := none) (b5 := none) (b6 := none) P1 (by omega) hx hxl).mono (m := n + c + 10) (by omega) (Nat.le_refl _)
      obtain ⟨v, env', T, e, G⟩ := r4
      exact fin (seq_go (if_f c1) (seq_go (if_f c2') (seq_go (if_f c3') (seq_rt (if_t c4 e))))) ⟨v, env', T, rfl, G⟩
    · rw [show (isS (.str x) && decide (t < 6)) = false from decide_eq_false q] at c4
      exact fin (seq_go (if_f c1) (seq_go (if_f c2') (seq_go (if_f c3') (seq_go (if_f c4) rfl)))) r5
  · have c3' := c3
    have c4' := c4
    rw [show ((isI (.tup ws) || isB (.tup ws)) && decide (t < 6)) = false from rfl] at c3'
    rw [show (isS (.tup ws) && decide (t < 6)) = false from rfl] at c4'
    have ne := ne_empty (st := s1) hp
    have c1 : tC1 [some (.loc p), some (.tup ws), some (.loc N), some (.int t), none, none, none] s1 = .ok (!ws.isEmpty && (!hS ws && decide (t < 4))) s1 := by
      unfold tC1
      cases ws with
      | nil => simp -implicitDefEqProofs [iT, isT, ten0, ne]
      | cons a r =>
        have i0 : ixW (.tup (a :: r)) (.int 0) s1 = .ok a s1 := ix_t (j := 0) rfl
        have ga : Gd s1 0 a := .pu _ _ (puB4 ((pu_items hp).2 a List.mem_cons_self))
        have ia := gd_isS ga
        have e : hS (a :: r) = isS a := rfl
        rw [e]
        cases q : isS a <;> rw [q] at ia <;> simp -implicitDefEqProofs [-Bool.decide_eq_true, iT, isT, ten0, ne, i0, ia]
    cases q1 : (!ws.isEmpty && (!hS ws && decide (t < 4))) with
    | true =>
      rw [q1] at c1
      simp only [Bool.and_eq_true, Bool.not_eq_true'] at q1
      have hne : ws ≠ [] := fun e => by rw [e] at q1; exact nomatch (show true = false from q1.1)
      have r1 := (tR1_ok (k := k) (c := c) (rec := rec) (b3 := some (.int t)) (b4 := none) (b5 := none) (b6 := none) P1 (by omega) hp hwl hne N1 hpN (fun a ha T n' hP hn' hT => hr ws a rfl q1.2.1 ha T n' hP (by omega) hT)).mono (m := n + c + 10) (by omega) (Nat.le_refl _)
      obtain ⟨v, env', T, e, G⟩ := r1
      exact fin (seq_rt (if_t c1 e)) ⟨v, env', T, rfl, G⟩
    | false =>
      rw [q1] at c1
      by_cases q : t < 6
      · rw [show (isT (.tup ws) && decide (t < 6)) = true from decide_eq_true q] at c2
        have r2 := (tR2_ok (k := k + 1) (b2 := some (.loc N)) (b3 := some (.int t)) (b4 := none) (b5 := none) (b6 := none) P1 (by omega) hp hwl (Nat.le_refl _)).mono (m := n + c + 10) (by omega) (Nat.le_refl _)
        obtain ⟨v, env', T, e, G⟩ := r2
        exact fin (seq_go (if_f c1) (seq_rt (if_t c2 e))) ⟨v, env', T, rfl, G⟩
      · rw [show (isT (.tup ws) && decide (t < 6)) = false from decide_eq_false q] at c2
        exact fin (seq_go (if_f c1) (seq_go (if_f c2) (seq_go (if_f c3') (seq_go (if_f c4') rfl)))) r5
theorem bent0 (P : PotA p n st) (hn : n + 20 ≤ 1000000) (hN : st[N]? = some (.lst nl)) (hpN : p ≠ N) (h6 : nl.length = 6) (hnl : ∀ w ∈ nl, NM w) (hw : S0 w) : BR p (n + 10) 1 st (d__law_bent (m + 1) [.loc p, w, .loc N] st) :=
  bent_step (c := 0) (k := 0) P (by omega) hN hpN h6 hnl hw.v1 (fun ws a e hs ha => by
    exfalso
    rcases hw with ⟨z, rfl⟩ | ⟨x, rfl, _⟩ | ⟨us, rfl, _, hi⟩
    · cases e
    · cases e
    · cases e
      cases ws with
      | nil => cases ha
      | cons b r =>
        obtain ⟨s, rfl, _⟩ := hi b List.mem_cons_self
        exact nomatch (show true = false from hs))
theorem bent1 (P : PotA p n st) (hn : n + 30 ≤ 1000000) (hN : st[N]? = some (.lst nl)) (hpN : p ≠ N) (h6 : nl.length = 6) (hnl : ∀ w ∈ nl, NM w) (hw : S1 w) : BR p (n + 20) 2 st (d__law_bent (m + 2) [.loc p, w, .loc N] st) :=
  bent_step (c := 10) (k := 1) P (by omega) hN hpN h6 hnl hw.v1 (fun ws a e hs ha T n' hP hn' hT => by
    refine bent0 hP (by omega) hT hpN h6 hnl ?_
    rcases hw with h | ⟨vs, rfl, _, hi⟩
    · rcases h with ⟨z, rfl⟩ | ⟨x, rfl, _⟩ | ⟨us, rfl, _, hi⟩
      · cases e
      · cases e
      · cases e
        cases ws with
        | nil => cases ha
        | cons b r =>
          obtain ⟨s, rfl, _⟩ := hi b List.mem_cons_self
          exact nomatch (show true = false from hs)
    · cases e
      exact hi a ha)
end
end
end K04
namespace K04
open PySem PySem.Spec PyProof.Rows L2 MP
open Classical
noncomputable section
def D1 : DS := (sPar 5 6 (dCons (dCall 3 d__law_data (dCons (dVar 0) (dCons (dVar 1) (dCons (dVar 2) dNil)))) (dCons (dCall 3 d__law_data (dCons (dVar 0) (dCons (dVar 1) (dCons (dVar 2) dNil)))) dNil)))
def D2c : D Bool := (dAnd (dBool (dApp isiW (dCons (dVar 5) (dCons (dC (.gl (.ty "tuple"))) dNil)))) (dAnd (dBool (dOp (inW false) (dVar 1) (dTup (dCons (dC (.str "mail")) (dCons (dC (.str "start")) dNil))))) (dBool (dOp eqW (dCall 2 d__law_take (dCons (dVar 0) (dCons (dC (.int 2)) dNil))) (dC (.int 0))))))
def D2a1 : DS := (sAsg (dOp addW (dC (.int 1)) (dCall 2 d__law_take (dCons (dVar 0) (dCons (dApp lenW (dCons (dVar 5) dNil)) dNil)))) (tName 7))
def D2a2 : DS := (sAsg (dOp addW (dSl (dVar 5) dNoPart (dPart (dVar 7))) (dSl (dVar 6) (dPart (dVar 7)) dNoPart)) (tName 6))
def D2a : DS := (sSeq D2a1 D2a2)
def D2 : DS := sIf D2c D2a sNil
def D3 : DS := (sAsg (dC (.int 0)) (tName 3))
def D4c : D Bool := (dBool (dOp neW (dVar 5) (dVar 6)))
def D4a : DS := (sAsg (dOp ixW (dLst (dCons (dC (.int 1)) (dCons (dUn negW (dC (.int 1))) dNil))) (dApp intOfW (dCons (dOp ltUW (dCall 2 d__law_data_key (dCons (dVar 1) (dCons (dVar 5) dNil))) (dCall 2 d__law_data_key (dCons (dVar 1) (dCons (dVar 6) dNil)))) dNil))) (tName 3))
def D4 : DS := sIf D4c D4a sNil
def D5c : D Bool := (dNot (dBool (dCall 2 (d__law_same 8) (dCons (dCall 3 d_data_compared (dCons (dVar 1) (dCons (dVar 5) (dCons (dVar 6) dNil)))) (dCons (dVar 3) dNil)))))
def D5a : DS := (sRet (dC (.bl false)))
def D5 : DS := sIf D5c D5a sNil
def D6c : D Bool := (dNot (dBool (dCall 2 (d__law_same 8) (dCons (dCall 3 d_data_compared (dCons (dVar 1) (dCons (dVar 6) (dCons (dVar 5) dNil)))) (dCons (dUn negW (dVar 3)) dNil)))))
def D6a : DS := (sRet (dC (.bl false)))
def D6 : DS := sIf D6c D6a sNil
def D7c : D Bool := (dOr (dNot (dBool (dCall 2 (d__law_same 8) (dCons (dCall 2 d_is_data (dCons (dVar 1) (dCons (dVar 5) dNil))) (dCons (dC (.bl true)) dNil))))) (dNot (dBool (dCall 2 (d__law_same 8) (dCons (dCallP 2 [1, 0] d_is_data (dCons (dVar 5) (dCons (dVar 1) dNil))) (dCons (dC (.bl true)) dNil))))))
def D7a : DS := (sRet (dC (.bl false)))
def D7 : DS := sIf D7c D7a sNil
def D8b1 : DS := (sAsg (dCall 3 (d__law_bent 8) (dCons (dVar 0) (dCons (dVar 5) (dCons (dVar 2) dNil)))) (tName 8))
def D8b2c : D Bool := (dNot (dBool (dCall 2 (d__law_same 8) (dCons (dCall 2 d_is_data (dCons (dVar 1) (dCons (dVar 8) dNil))) (dCons (dCall 2 d__law_is_data (dCons (dVar 1) (dCons (dVar 8) dNil))) dNil)))))
def D8b2a : DS := (sRet (dC (.bl false)))
def D8b2 : DS := sIf D8b2c D8b2a sNil
def D8b : DS := (sSeq D8b1 D8b2)
def D8 : DS := sFor (dRange1 (dCons (dC (.int 3)) dNil)) (tName 4) D8b
def D9 : DS := (sRet (dC (.bl true)))
theorem D_eq : b__law_data_right = (sSeq D1 (sSeq D2 (sSeq D3 (sSeq D4 (sSeq D5 (sSeq D6 (sSeq D7 (sSeq D8 D9)))))))) := rfl
theorem data_mail (w : W) : dataB "mail" w = mailB w := by
  unfold dataB
  rw [if_neg (by decide +kernel), if_neg (by unfold c_NAMING; decide +kernel), if_pos rfl]
theorem data_start (w : W) : dataB "start" w = startB w := by
  unfold dataB
  rw [if_neg (by decide +kernel), if_neg (by unfold c_NAMING; decide +kernel), if_neg (by decide +kernel), if_pos rfl]
theorem mixed_ok {k : Str} {a b : List W} {j : Nat} (hk : k = "mail" ∨ k = "start") (pa : pu (.tup a)) (pb : pu (.tup b)) (da : dataB k (.tup a) = true) (db : dataB k (.tup b) = true) (hj : 1 ≤ j) (hj2 : j ≤ a.length) :
    dataB k (.tup (a.take j ++ b.drop j)) = true ∧ pu (.tup (a.take j ++ b.drop j)) ∧ a.length ≤ 6 ∧ b.length ≤ 6 := by
  have hp : a.length ≤ 6 → b.length ≤ 6 → pu (.tup (a.take j ++ b.drop j)) := fun h1 h2 => pu_tup (by simp; omega) fun w hw => by
    rcases List.mem_append.mp hw with h | h
    · exact (pu_items pa).2 w (List.mem_of_mem_take h)
    · exact (pu_items pb).2 w (List.mem_of_mem_drop h)
  rcases hk with rfl | rfl
  · rw [data_mail] at da db ⊢
    obtain ⟨x, us, e, au⟩ := mail_shape da
    obtain ⟨y, vs, e', av⟩ := mail_shape db
    cases e; cases e'
    refine ⟨?_, hp (by simp) (by simp), by simp, by simp⟩
    match j, hj, hj2 with
    | 1, _, _ =>
      have d1 : (rangeB 0 65535 (.int x) && askB (.tup us)) = true := da
      have d2 : (rangeB 0 65535 (.int y) && askB (.tup vs)) = true := db
      rw [Bool.and_eq_true] at d1 d2
      show (rangeB 0 65535 (.int x) && askB (.tup vs)) = true
      rw [d1.1, d2.2]; rfl
    | 2, _, _ => exact da
    | j + 3, _, h => simp at h
  · rw [data_start] at da db ⊢
    obtain ⟨us, x1, x2, x3, x4, x5, e, au⟩ := start_ints da
    obtain ⟨vs, y1, y2, y3, y4, y5, e', av⟩ := start_ints db
    cases e; cases e'
    refine ⟨?_, hp (by simp) (by simp), by simp, by simp⟩
    have d1 : (askB (.tup us) && (rangeB 0 4294967295 (.int x1) && [W.int x2, .int x3, .int x4, .int x5].all (rangeB 0 2147483647))) = true := da
    have d2 : (askB (.tup vs) && (rangeB 0 4294967295 (.int y1) && [W.int y2, .int y3, .int y4, .int y5].all (rangeB 0 2147483647))) = true := db
    simp only [Bool.and_eq_true, List.all_cons, List.all_nil, and_true] at d1 d2
    obtain ⟨a0, a1, a2, a3, a4, a5⟩ := d1
    obtain ⟨b0, b1, b2, b3, b4, b5⟩ := d2
    have key : ∀ {z1 z2 z3 z4 z5 : Int}, rangeB 0 4294967295 (.int z1) = true → rangeB 0 2147483647 (.int z2) = true → rangeB 0 2147483647 (.int z3) = true → rangeB 0 2147483647 (.int z4) = true → rangeB 0 2147483647 (.int z5) = true → startB (.tup [.tup us, .int z1, .int z2, .int z3, .int z4, .int z5]) = true := fun {z1 z2 z3 z4 z5} h1 h2 h3 h4 h5 => by
      show (askB (.tup us) && (rangeB 0 4294967295 (.int z1) && [W.int z2, .int z3, .int z4, .int z5].all (rangeB 0 2147483647))) = true
      simp only [Bool.and_eq_true, List.all_cons, List.all_nil, and_true]
      exact ⟨a0, h1, h2, h3, h4, h5⟩
    match j, hj, hj2 with
    | 1, _, _ => exact key b1 b2 b3 b4 b5
    | 2, _, _ => exact key a1 b2 b3 b4 b5
    | 3, _, _ => exact key a1 a2 b3 b4 b5
    | 4, _, _ => exact key a1 a2 a3 b4 b5
    | 5, _, _ => exact key a1 a2 a3 a4 b5
    | 6, _, _ => exact key a1 a2 a3 a4 a5
    | j + 7, _, h => simp at h
section
variable {p n N : Nat} {st S T : Store} {w a b : W} {ws nl : List W} {k : Str}
theorem D2_ok {b3 b4 b7 b8 : Option W} (hk : k ∈ c_KINDS) (P : PotA p n S) (hn : n + 10 ≤ 1000000) (pa : pu a) (da : dataB k a = true) (pb : pu b) (db : dataB k b = true) :
    ∃ (o : W) (c7 : Option W) (T : Store), D2 [some (.loc p), some (.str k), some (.loc N), b3, b4, some a, some b, b7, b8] S = .go .nx [some (.loc p), some (.str k), some (.loc N), b3, b4, some a, some o, c7, b8] T ∧ dataB k o = true ∧ pu o ∧ PotA p (n + 2) T ∧ Kp p S T := by
  have iT := gd_isT (st := S) (n := 0) (.pu _ _ pa)
  have im := in_strs (st := S) (neg := false) (x := k) (xs := ["mail", "start"])
  have im : inW false (.str k) (.tup [.str "mail", .str "start"]) S = .ok (.bl (decide (k ∈ (["mail", "start"] : List Str)))) S := im
  have kt : kTup [.str "mail", .str "start"] S = .ok (.tup [.str "mail", .str "start"]) S := ten (by simp)
  obtain ⟨t, s1, e1, t0, t1, P1, K1⟩ := take_ok (m := 2) P (by omega) (by decide) (by decide)
  have no : D2c [some (.loc p), some (.str k), some (.loc N), b3, b4, some a, some b, b7, b8] S = .ok false S → ∃ (o : W) (c7 : Option W) (T : Store), D2 [some (.loc p), some (.str k), some (.loc N), b3, b4, some a, some b, b7, b8] S = .go .nx [some (.loc p), some (.str k), some (.loc N), b3, b4, some a, some o, c7, b8] T ∧ dataB k o = true ∧ pu o ∧ PotA p (n + 2) T ∧ Kp p S T := fun h => ⟨b, b7, S, if_f h, db, pb, P.mono (by omega), .refl⟩
  cases q1 : isT a with
  | false =>
    rw [q1] at iT
    refine no ?_
    unfold D2c
    simp -implicitDefEqProofs [iT]
  | true =>
    rw [q1] at iT
    by_cases q2 : k ∈ (["mail", "start"] : List Str)
    · rw [decide_eq_true q2] at im
      by_cases q3 : t = 0
      · have c : D2c [some (.loc p), some (.str k), some (.loc N), b3, b4, some a, some b, b7, b8] S = .ok true s1 := by
          unfold D2c
          simp -implicitDefEqProofs [iT, im, kt, e1, q3]
        have hk2 : k = "mail" ∨ k = "start" := by simpa using q2
        obtain ⟨us, vs, rfl, rfl⟩ : ∃ us vs, a = .tup us ∧ b = .tup vs := by
          rcases hk2 with rfl | rfl
          · rw [data_mail] at da db
            obtain ⟨x, us, e, au⟩ := mail_shape da
            obtain ⟨y, vs, e', av⟩ := mail_shape db
            exact ⟨_, _, e, e'⟩
          · rw [data_start] at da db
            obtain ⟨us, x1, x2, x3, x4, x5, e, au⟩ := start_ints da
            obtain ⟨vs, y1, y2, y3, y4, y5, e', av⟩ := start_ints db
            exact ⟨_, _, e, e'⟩
        have hpos : 1 ≤ us.length := by
          rcases hk2 with rfl | rfl
          · rw [data_mail] at da
            obtain ⟨x, us, e, au⟩ := mail_shape da
            cases e; simp
          · rw [data_start] at da
            obtain ⟨us, x1, x2, x3, x4, x5, e, au⟩ := start_ints da
            cases e; simp
        have hlen := (pu_items pa).1
        obtain ⟨u, s2, e2, u0, u1, P2, K2⟩ := take_okG (m := (us.length : Int)) P1 (by omega) (by omega) (by
          have : (us.length : Int).natAbs.log2 ≤ (us.length : Int).natAbs := Nat.log2_le_self _
          omega)
        obtain ⟨j, rfl⟩ : ∃ j : Nat, u = (j : Int) := ⟨u.toNat, by omega⟩
        obtain ⟨h1, h2, h3, h4⟩ := mixed_ok (j := 1 + j) hk2 pa pb da db (by omega) (by omega)
        have ln : lenW [.tup us] s1 = .ok (.int (us.length : Int)) s1 := len_tup
        have ej : (1 : Int) + (j : Int) = ((1 + j : Nat) : Int) := by omega
        have sl1 : slW (.tup us) none (some (1 + (j : Int))) s2 = .ok (.tup (us.take (1 + j))) s2 := by
          rw [ej]
          show Res.ok (W.tup (cutW us none (some ((1 + j : Nat) : Int)))) s2 = _
          rw [cut_to]
        have sl2 : slW (.tup vs) (some (1 + (j : Int))) none s2 = .ok (.tup (vs.drop (1 + j))) s2 := by
          rw [ej]
          show Res.ok (W.tup (cutW vs (some ((1 + j : Nat) : Int)) none)) s2 = _
          rw [cut_from]
        have ad : addW (.tup (us.take (1 + j))) (.tup (vs.drop (1 + j))) s2 = .ok (.tup (us.take (1 + j) ++ vs.drop (1 + j))) s2 := addW_tt (by simp; omega)
        refine ⟨_, some (.int (1 + (j : Int))), s2, if_t c ?_, h1, h2, P2.mono (by omega), K1.trans K2⟩
        unfold D2a D2a1 D2a2
        simp -implicitDefEqProofs only [sSeq_ap, sAsg_ap, dOp_ap, dC_ap, dCall_ap, dCons_ap, dVar_ap, dApp_ap, dNil_ap, List.getElem?_cons_zero, List.getElem?_cons_succ, Res.bind_ok, kOp1_ap, kCons1_ap, kCons2_ap, ln, kCall_2, e2, addW_i, Res.then_ok, kAsg_n, List.set_cons_succ, List.set_cons_zero, RsS.next_nx, dSl_ap, dNoPart_ap, dPart_ap, kSl1_ap, kSl2_ap, kPart_ap, sl1, sl2, ad]
      · have c : D2c [some (.loc p), some (.str k), some (.loc N), b3, b4, some a, some b, b7, b8] S = .ok false s1 := by
          unfold D2c
          simp -implicitDefEqProofs [iT, im, kt, e1, q3]
        exact ⟨b, b7, s1, if_f c, db, pb, P1.mono (by omega), K1⟩
    · rw [decide_eq_false q2] at im
      refine no ?_
      unfold D2c
      simp -implicitDefEqProofs [iT, im, kt]
theorem same_i {i : Int} : d__law_same 8 [.int i, .int i] st = .ok (.bl true) st := same_pu 5 (.int i) rfl (by decide) 8 st (by decide)
theorem D34_ok {b3 b4 b7 b8 : Option W} (hk : k ∈ c_KINDS) (P : PotA p n S) (pa : pu a) (da : dataB k a = true) (pb : pu b) (db : dataB k b = true) :
    ∃ (z : Int) (T : Store), (∀ r, sSeq D3 (sSeq D4 r) [some (.loc p), some (.str k), some (.loc N), b3, b4, some a, some b, b7, b8] S = r [some (.loc p), some (.str k), some (.loc N), some (.int z), b4, some a, some b, b7, b8] T) ∧ PotA p n T ∧ Ext p S T ∧ d_data_compared [.str k, a, b] T = .ok (.int z) T ∧ d_data_compared [.str k, b, a] T = .ok (.int (-z)) T := by
  obtain ⟨_, _, sa, sb⟩ := key_all hk pa da pb db
  have ne := (eq_sn (st := S) sa sb).2
  have e3 : D3 [some (.loc p), some (.str k), some (.loc N), b3, b4, some a, some b, b7, b8] S = .go .nx [some (.loc p), some (.str k), some (.loc N), some (.int 0), b4, some a, some b, b7, b8] S := by
    unfold D3
    simp -implicitDefEqProofs only [sAsg_ap, dC_ap, Res.then_ok, kAsg_n, List.set_cons_succ, List.set_cons_zero]
  by_cases q : a = b
  · rw [decide_eq_true q] at ne
    obtain ⟨r, l1, c1, c2⟩ := compared_ok (st := S) hk pa da pb db
    have z : ordI a b r = 0 := if_pos q
    rw [z] at c1 c2
    have cc : D4c [some (.loc p), some (.str k), some (.loc N), some (.int 0), b4, some a, some b, b7, b8] S = .ok false S := by
      unfold D4c
      simp -implicitDefEqProofs only [dBool_ap, dOp_ap, dVar_ap, List.getElem?_cons_zero, List.getElem?_cons_succ, Res.bind_ok, kOp1_ap, ne, Bool.not_true, kBool_ap]
    exact ⟨0, S, fun r => seq_go e3 (seq_go (if_f cc) rfl), P, .refl, c1, c2⟩
  · rw [decide_eq_false q] at ne
    obtain ⟨U, hU⟩ : ∃ U, U = S ++ [Ob.lst [.int 1, .int (-1)]] := ⟨_, rfl⟩
    obtain ⟨r, l1, c1, c2⟩ := compared_ok (st := U) hk pa da pb db
    have z : ordI a b r = if r = true then -1 else 1 := if_neg q
    have cc : D4c [some (.loc p), some (.str k), some (.loc N), some (.int 0), b4, some a, some b, b7, b8] S = .ok true S := by
      unfold D4c
      simp -implicitDefEqProofs only [dBool_ap, dOp_ap, dVar_ap, List.getElem?_cons_zero, List.getElem?_cons_succ, Res.bind_ok, kOp1_ap, ne, Bool.not_false, kBool_ap]
    have kl : kLst [.int 1, .int (-1)] S = .ok (.loc S.length) U := by rw [hU]; exact lst5 (by simp)
    have gU : U[S.length]? = some (.lst [.int 1, .int (-1)]) := by rw [hU]; simp
    have ka := lkey_ok (st := U) hk pa da
    have kb := lkey_ok (st := U) hk pb db
    have ix : ixW (.loc S.length) (.int (if r = true then 1 else 0)) U = .ok (.int (ordI a b r)) U := by
      rw [z]
      cases r with
      | true =>
        show ixW (.loc S.length) (.int ((1 : Nat) : Int)) U = .ok (.int (-1)) U
        unfold ixW
        simp only [seq_loc gU, atI_nat (l := [W.int 1, .int (-1)]) (i := 1) (by decide)]
        rfl
      | false =>
        show ixW (.loc S.length) (.int ((0 : Nat) : Int)) U = .ok (.int 1) U
        unfold ixW
        simp only [seq_loc gU, atI_nat (l := [W.int 1, .int (-1)]) (i := 0) (by decide)]
        rfl
    refine ⟨ordI a b r, U, fun r => seq_go e3 (seq_go (if_t cc ?_) rfl), by rw [hU]; exact P.app _, by rw [hU]; exact .app _, c1, c2⟩
    unfold D4a
    simp -implicitDefEqProofs only [sAsg_ap, dOp_ap, dLst_ap, dCons_ap, dC_ap, dUn_ap, dNil_ap, negW_i, Res.bind_ok, kCons1_ap, kCons2_ap, kl, kOp1_ap, dApp_ap, dCall_ap, dVar_ap, List.getElem?_cons_zero, List.getElem?_cons_succ, kCall_2, ka, kb, l1, intOf_b, ix, Res.then_ok, kAsg_n, List.set_cons_succ, List.set_cons_zero]
theorem D8b_ok {b3 b4 b6 b7 b8 : Option W} (hk : k ∈ c_KINDS) (P : PotA p n S) (hn : n + 30 ≤ 1000000) (hN : S[N]? = some (.lst nl)) (hpN : p ≠ N) (h6 : nl.length = 6) (hnl : ∀ w ∈ nl, NM w) (hs : S1 a) :
    ∃ (c8 : Option W) (T : Store), D8b [some (.loc p), some (.str k), some (.loc N), b3, b4, some a, b6, b7, b8] S = .go .nx [some (.loc p), some (.str k), some (.loc N), b3, b4, some a, b6, b7, c8] T ∧ PotA p (n + 20) T ∧ Ext p S T := by
  obtain ⟨⟨v, T, e, G, PT, XT, _⟩⟩ := bent1 (m := 6) P hn hN hpN h6 hnl hs
  have e : d__law_bent 8 [.loc p, a, .loc N] S = .ok v T := e
  have h1 := dataG hk G
  have h2 := lawdataG hk G (by omega)
  have h3 := same_bl (n := 7) (a := dataB k v) (b := dataB k v) (st := T)
  rw [beq_self_eq_true] at h3
  have h3 : d__law_same 8 [.bl (dataB k v), .bl (dataB k v)] T = .ok (.bl true) T := h3
  refine ⟨some v, T, ?_, PT, XT⟩
  unfold D8b D8b1 D8b2 D8b2c
  simp -implicitDefEqProofs only [sSeq_ap, sAsg_ap, dCall_ap, dCons_ap, dVar_ap, dNil_ap, List.getElem?_cons_zero, List.getElem?_cons_succ, Res.bind_ok, kCons1_ap, kCons2_ap, kCall_3, e, Res.then_ok, kAsg_n, List.set_cons_succ, List.set_cons_zero, RsS.next_nx, sIf_ap, dNot_ap, dBool_ap, kCall_2, h1, h2, h3, kBool_ap, kNot_ap, Bool.not_true, kSIf_f, sNil_ap]
theorem data_right_ok (hk : k ∈ c_KINDS) (P : PotA p n st) (hn : n + 400 ≤ 1000000) (hN : st[N]? = some (.lst nl)) (hpN : p ≠ N) (h6 : nl.length = 6) (hnl : ∀ w ∈ nl, NM w) :
    ∃ (S' : Store), d__law_data_right [.loc p, .str k, .loc N] st = .ok (.bl true) S' ∧ PotA p (n + 300) S' ∧ Kp p st S' := by
  have hl := P.lt
  obtain ⟨a, s1, e1, da, pa, P1, K1, sa⟩ := data_ok hk P hN hpN h6 hnl (by omega)
  have N1 : s1[N]? = some (.lst nl) := by rw [K1.keep _ (Ne.symm hpN)]; exact hN
  obtain ⟨b, s2, e2, db, pb, P2, K2, _⟩ := data_ok hk P1 N1 hpN h6 hnl (by omega)
  obtain ⟨o, c7, s3, e3, dob, po, P3, K3⟩ := D2_ok (b3 := none) (b4 := none) (b7 := none) (b8 := none) (N := N) hk P2 (by omega) pa da pb db
  obtain ⟨z, s4, e4, P4, X4, m1, m2⟩ := D34_ok (b3 := none) (b4 := none) (b7 := c7) (b8 := none) (N := N) hk P3 pa da po dob
  have K123 : Kp p st s3 := (K1.trans K2).trans K3
  have X04 : Ext p st s4 := K123.ext.trans X4
  have N4 : s4[N]? = some (.lst nl) := X04.get hN (Ne.symm hpN)
  have i1 := dataG (st := s4) (n := 0) hk (.pu _ _ pa)
  rw [da] at i1
  have sb : d__law_same 8 [.bl true, .bl true] s4 = .ok (.bl true) s4 := same_bl (n := 7) (a := true) (b := true)
  have hr := kR1_ok (st := s4) (j := 3) (by decide) (by decide)
  obtain ⟨env', S', e, ⟨c4, c8, rfl⟩, PS, XS⟩ := forW_ok (chk := (ItW.mk (intsW 0 (3 : Int).toNat) none).Chk) (t := tName 4) (b := D8b)
    (fun i env T => (∃ c4 c8, env = [some (.loc p), some (.str k), some (.loc N), some (.int z), c4, some a, some o, c7, c8]) ∧ PotA p (n + 162 + 20 * i) T ∧ Ext p st T) (fun _ _ _ _ => by simp) (intsW 0 (3 : Int).toNat) 0 [some (.loc p), some (.str k), some (.loc N), some (.int z), none, some a, some o, c7, none] s4
    (fun i w env T hw hI => by
      obtain ⟨⟨c4, c8, rfl⟩, PT, XT⟩ := hI
      have hi : i < 3 := (ints_get hw).1
      rw [Nat.zero_add] at *
      obtain ⟨d8, T', e, P', X'⟩ := D8b_ok (b3 := some (.int z)) (b4 := some w) (b6 := some o) (b7 := c7) (b8 := c8) hk PT (by omega) (XT.get hN (Ne.symm hpN)) hpN h6 hnl sa
      exact ⟨_, _, _, _, rfl, e, ⟨_, _, rfl⟩, P'.mono (by omega), XT.trans X'⟩) ⟨⟨none, none, rfl⟩, P4.mono (by omega), X04⟩
  have hlen : (intsW 0 (3 : Int).toNat).length = 3 := rfl
  rw [hlen] at PS
  obtain ⟨G1, G2, G3⟩ := gc_pot (v := .bl true) XS PS hl rfl
  refine ⟨_, ?_, G3.mono (by omega), G2⟩
  unfold d__law_data_right; rw [fnDen_ap, D_eq]
  have s1e : D1 [some (.loc p), some (.str k), some (.loc N), none, none, none, none, none, none] st = .go .nx [some (.loc p), some (.str k), some (.loc N), none, none, some a, some b, none, none] s2 := by
    unfold D1
    simp -implicitDefEqProofs only [sPar_ap, dCons_ap, dCall_ap, dVar_ap, dNil_ap, List.getElem?_cons_zero, List.getElem?_cons_succ, Res.bind_ok, kCons1_ap, kCons2_ap, kCall_3, e1, e2, Res.then_ok, kPar_ap, List.set_cons_succ, List.set_cons_zero]
  have c5 : D5c [some (.loc p), some (.str k), some (.loc N), some (.int z), none, some a, some o, c7, none] s4 = .ok false s4 := by
    unfold D5c
    simp -implicitDefEqProofs only [dNot_ap, dBool_ap, dCall_ap, dCons_ap, dVar_ap, dNil_ap, List.getElem?_cons_zero, List.getElem?_cons_succ, Res.bind_ok, kCons1_ap, kCons2_ap, kCall_3, kCall_2, m1, same_i, kBool_ap, kNot_ap, Bool.not_true]
  have c6 : D6c [some (.loc p), some (.str k), some (.loc N), some (.int z), none, some a, some o, c7, none] s4 = .ok false s4 := by
    unfold D6c
    simp -implicitDefEqProofs only [dNot_ap, dBool_ap, dCall_ap, dCons_ap, dVar_ap, dUn_ap, dNil_ap, List.getElem?_cons_zero, List.getElem?_cons_succ, Res.bind_ok, kCons1_ap, kCons2_ap, kCall_3, kCall_2, m2, negW_i, same_i, kBool_ap, kNot_ap, Bool.not_true]
  have c7' : D7c [some (.loc p), some (.str k), some (.loc N), some (.int z), none, some a, some o, c7, none] s4 = .ok false s4 := by
    unfold D7c
    have cp : ∀ env, dCallP 2 [1, 0] d_is_data (dCons (dVar 5) (dCons (dVar 1) dNil)) [some (.loc p), some (.str k), some (.loc N), some (.int z), none, some a, some o, c7, none] s4 = d_is_data [.str k, a] s4 ∨ env = 0 := fun _ => .inl rfl
    have cp := (cp 1).resolve_right (by decide)
    rw [i1] at cp
    simp -implicitDefEqProofs only [dOr_ap, dNot_ap, dBool_ap, dCall_ap, dCons_ap, dVar_ap, dC_ap, dNil_ap, List.getElem?_cons_zero, List.getElem?_cons_succ, Res.bind_ok, kCons1_ap, kCons2_ap, kCall_2, i1, sb, kBool_ap, kNot_ap, Bool.not_true, kOr_f]
    rw [cp]
    simp -implicitDefEqProofs only [Res.bind_ok, kCons1_ap, dCons_ap, dC_ap, dNil_ap, kCons2_ap, kCall_2, sb, kBool_ap, kNot_ap, Bool.not_true]
  have e8 : D8 [some (.loc p), some (.str k), some (.loc N), some (.int z), none, some a, some o, c7, none] s4 = .go .nx [some (.loc p), some (.str k), some (.loc N), some (.int z), c4, some a, some o, c7, c8] S' := by
    unfold D8
    rw [sFor_ap]
    simp -implicitDefEqProofs only [dRange1_ap, dCons_ap, dC_ap, dNil_ap, Res.bind_ok, kCons1_ap, kCons2_ap, hr, Res.then_ok, kFor]
    exact e
  have body : (sSeq D1 (sSeq D2 (sSeq D3 (sSeq D4 (sSeq D5 (sSeq D6 (sSeq D7 (sSeq D8 D9)))))))) [some (.loc p), some (.str k), some (.loc N), none, none, none, none, none, none] st = .go (.rt (.bl true)) [some (.loc p), some (.str k), some (.loc N), some (.int z), c4, some a, some o, c7, c8] S' :=
    seq_go s1e (seq_go e3 ((e4 _).trans (seq_go (if_f c5) (seq_go (if_f c6) (seq_go (if_f c7') (seq_go e8 rfl))))))
  show fnR st ((sSeq D1 (sSeq D2 (sSeq D3 (sSeq D4 (sSeq D5 (sSeq D6 (sSeq D7 (sSeq D8 D9)))))))) [some (.loc p), some (.str k), some (.loc N), none, none, none, none, none, none] st) = _
  rw [body, fnR_rt, G1]
end
end
end K04
namespace K04
open PySem PySem.Spec PyProof.Rows L2 MP
open Classical
noncomputable section
def R1 : DS := (sAsg (dCall 3 d__law_data (dCons (dVar 0) (dCons (dVar 1) (dCons (dVar 2) dNil)))) (tName 3))
def R2 : DS := (sAsg (dOp addW (dOp mulTW (dTup (dCons (dC (.str "*")) dNil)) (dCall 2 d__law_take (dCons (dVar 0) (dCons (dC (.int 2)) dNil)))) (dSl (dOp ixW (dVar 2) (dCall 2 d__law_take (dCons (dVar 0) (dCons (dApp lenW (dCons (dVar 2) dNil)) dNil)))) dNoPart (dPart (dC (.int 11))))) (tName 4))
def R3 : DS := (sAsg (dTup (dCons (dVar 4) (dCons (dVar 1) (dCons (dCall 2 d__law_number (dCons (dVar 0) (dCons (dOp powW (dC (.int 2)) (dC (.int 31))) dNil))) (dCons (dVar 3) dNil))))) (tName 5))
def R4c : D Bool := (dOr (dNot (dBool (dCall 2 (d__law_same 8) (dCons (dCall 1 d_is_record (dCons (dVar 5) dNil)) (dCons (dC (.bl true)) dNil))))) (dNot (dBool (dCall 2 (d__law_same 8) (dCons (dCall 1 d_is_record (dCons (dVar 5) dNil)) (dCons (dC (.bl true)) dNil))))))
def R4a : DS := (sRet (dC (.bl false)))
def R4 : DS := sIf R4c R4a sNil
def R5b1 : DS := (sAsg (dApp listAW (dCons (dVar 5) dNil)) (tName 8))
def R5b2 : DS := (sAsg (dCall 2 d__law_take (dCons (dVar 0) (dCons (dC (.int 4)) dNil))) (tName 9))
def R5b3 : DS := (sAsg (dCall 3 (d__law_bent 8) (dCons (dVar 0) (dCons (dOp ixW (dVar 8) (dVar 9)) (dCons (dVar 2) dNil)))) (tSub (dVar 8) (dVar 9)))
def R5b4 : DS := (sAsg (dApp tupleW (dCons (dVar 8) dNil)) (tName 8))
def R5b5 : DS := (sAsg (dAndV (dCall 1 d__law_is_name (dCons (dOp ixW (dVar 8) (dC (.int 0))) dNil)) (dAndV (dOp inDW (dOp ixW (dVar 8) (dC (.int 1))) (dCall 0 d__law_kinds dNil)) (dCall 2 d__law_in (dCons (dOp ixW (dVar 8) (dC (.int 2))) (dCons (dOp powW (dC (.int 2)) (dC (.int 31))) dNil))))) (tName 10))
def R5b6c : D Bool := (dNot (dBool (dCall 2 (d__law_same 8) (dCons (dCall 1 d_is_record (dCons (dVar 8) dNil)) (dCons (dAndV (dVar 10) (dCall 2 d__law_is_data (dCons (dOp ixW (dVar 8) (dC (.int 1))) (dCons (dOp ixW (dVar 8) (dC (.int 3))) dNil)))) dNil)))))
def R5b6a : DS := (sRet (dC (.bl false)))
def R5b6 : DS := sIf R5b6c R5b6a sNil
def R5b : DS := (sSeq R5b1 (sSeq R5b2 (sSeq R5b3 (sSeq R5b4 (sSeq R5b5 R5b6)))))
def R5 : DS := sFor (dRange1 (dCons (dC (.int 3)) dNil)) (tName 6) R5b
def R6 : DS := (sAsg (dOp ixW (dLst (dCons (dApp listAW (dCons (dVar 5) dNil)) (dCons (dSl (dVar 5) dNoPart (dPart (dC (.int 3)))) (dCons (dOp addW (dVar 5) (dTup (dCons (dC (.int 5)) dNil))) (dCons (dTup (dCons (dVar 5) dNil)) (dCons (dC .non) (dCons (dC (.int 7)) (dCons (dC (.str "addr")) (dCons (dTup dNil) (dCons (dLst (dCons (dVar 5) dNil)) dNil)))))))))) (dCall 2 d__law_take (dCons (dVar 0) (dCons (dC (.int 9)) dNil)))) (tName 7))
def R7 : DS := (sRet (dCall 2 (d__law_same 8) (dCons (dCall 1 d_is_record (dCons (dVar 7) dNil)) (dCons (dC (.bl false)) dNil))))
theorem R_eq : b__law_records_right = (sSeq R1 (sSeq R2 (sSeq R3 (sSeq R4 (sSeq R5 (sSeq R6 R7)))))) := rfl
theorem S0.pu2 {w : W} (h : S0 w) : puB 2 w = true := by
  rcases h with ⟨z, rfl⟩ | ⟨x, rfl, hx, _⟩ | ⟨us, rfl, hl, hi⟩
  · rfl
  · exact hx
  · show (decide (us.length ≤ 8192) && us.all (puB 1)) = true
    rw [Bool.and_eq_true, decide_eq_true_iff, List.all_eq_true]
    exact ⟨by omega, fun a ha => by obtain ⟨s, rfl, hs⟩ := hi a ha; exact hs⟩
theorem S1.pu3 {w : W} (h : S1 w) : puB 3 w = true := by
  rcases h with h | ⟨ws, rfl, hl, hi⟩
  · exact puB_mono h.pu2 (by decide)
  · show (decide (ws.length ≤ 8192) && ws.all (puB 2)) = true
    rw [Bool.and_eq_true, decide_eq_true_iff, List.all_eq_true]
    exact ⟨by omega, fun a ha => (hi a ha).pu2⟩
theorem four_of {l : List W} (h : l.length = 4) : ∃ a b c d, l = [a, b, c, d] := by
  match l, h with
  | [a, b, c, d], _ => exact ⟨a, b, c, d, rfl⟩
def px (t : Int) : List W := if t = 1 then [.str "*"] else []
theorem wild_is : c_WILD = ("*" : Str) := rfl
section
variable {p n N : Nat} {st S T : Store} {w nm : W} {nl : List W} {k : Str} {z : Int}
theorem star_name {us : List W} (t : Int) (h : askB (.tup us) = true) : nameB (.tup (px t ++ us.take 11)) = true := by
  have hall : ∀ l : List W, (∀ x ∈ l, x ∈ us) → l.all plS = true := fun l hl => List.all_eq_true.mpr fun x hx => List.all_eq_true.mp (show us.all plS = true from h) x (hl x hx)
  unfold px
  by_cases q : t = 1
  · rw [if_pos q]
    show (if hdS (.str "*" :: us.take 11) = true then (W.str "*" :: us.take 11).drop 1 else (W.str "*" :: us.take 11)).all plS = true
    rw [if_pos (show hdS (.str "*" :: us.take 11) = true by show (("*" : Str) == c_WILD) = true; rw [wild_is]; exact beq_self_eq_true _)]
    exact hall _ fun x hx => List.mem_of_mem_take hx
  · rw [if_neg q]
    show (if hdS (us.take 11) = true then (us.take 11).drop 1 else (us.take 11)).all plS = true
    split
    · exact hall _ fun x hx => List.mem_of_mem_take (List.mem_of_mem_drop hx)
    · exact hall _ fun x hx => List.mem_of_mem_take hx
theorem R2_ok {b3 b4 b5 b6 b7 b8 b9 b10 : Option W} (P : PotA p n S) (hn : n + 10 ≤ 1000000) (hN : S[N]? = some (.lst nl)) (hpN : p ≠ N) (h6 : nl.length = 6) (hnl : ∀ w ∈ nl, NM w) :
    ∃ (nm : W) (T : Store), R2 [some (.loc p), b3, some (.loc N), b4, b5, b6, b7, b8, b9, b10, none] S = .go .nx [some (.loc p), b3, some (.loc N), b4, some nm, b6, b7, b8, b9, b10, none] T ∧ nameB nm = true ∧ S0 nm ∧ PotA p (n + 2) T ∧ Kp p S T := by
  obtain ⟨t, s1, e1, t0, t1, P1, K1⟩ := take_ok (m := 2) P (by omega) (by decide) (by decide)
  have N1 : s1[N]? = some (.lst nl) := by rw [K1.keep _ (Ne.symm hpN)]; exact hN
  have ln : lenW [.loc N] s1 = .ok (.int 6) s1 := by rw [len_seq (seq_loc N1), h6]; rfl
  obtain ⟨u, s2, e2, u0, u1, P2, K2⟩ := take_ok (m := 6) P1 (by omega) (by decide) (by decide)
  have N2 : s2[N]? = some (.lst nl) := by rw [K2.keep _ (Ne.symm hpN)]; exact N1
  obtain ⟨v, hv, _, ix⟩ := ix_mem (st := s2) (a := .loc N) (ws := nl) (i := u) (seq_loc N2) u0 (by rw [h6]; exact u1)
  have hNM := hnl v hv
  obtain ⟨l, rfl, hl, hl12⟩ := hNM
  have hask : askB (.tup (l.map tW)) = true := (hnl _ hv).ask
  have kt : kTup [.str "*"] S = .ok (.tup [.str "*"]) S := ten (by simp)
  have mu : mulTW (.tup [.str "*"]) (.int t) s1 = .ok (.tup (px t)) s1 := by
    unfold mulTW px
    by_cases q : t = 1
    · subst q
      rw [if_pos rfl]
      exact if_pos ⟨by simp, rfl⟩
    · have q0 : t = 0 := by omega
      subst q0
      rw [if_neg q]
      show (if _ ∧ (0 : Int) = 1 then _ else if _ ∧ (0 : Int) = 0 then _ else _) = _
      rw [if_neg (by simp), if_pos ⟨by simp, rfl⟩]
  have sl : slW (.tup (l.map tW)) none (some 11) s2 = .ok (.tup ((l.map tW).take 11)) s2 := by
    show Res.ok (W.tup (cutW (l.map tW) none (some ((11 : Nat) : Int)))) s2 = _
    rw [cut_to]
  have hpx : (px t).length ≤ 1 := by unfold px; split <;> simp
  have ad : addW (.tup (px t)) (.tup ((l.map tW).take 11)) s2 = .ok (.tup (px t ++ (l.map tW).take 11)) s2 := addW_tt (by simp; omega)
  refine ⟨.tup (px t ++ (l.map tW).take 11), s2, ?_, star_name t hask, .inr (.inr ⟨_, rfl, by simp; omega, fun x hx => ?_⟩), P2.mono (by omega), K1.trans K2⟩
  · unfold R2
    simp -implicitDefEqProofs only [sAsg_ap, dOp_ap, dTup_ap, dCons_ap, dC_ap, dNil_ap, dCall_ap, dVar_ap, dApp_ap, dSl_ap, dNoPart_ap, dPart_ap, List.getElem?_cons_zero, List.getElem?_cons_succ, Res.bind_ok, kCons1_ap, kCons2_ap, kt, kOp1_ap, kCall_2, e1, mu, ln, e2, ix, kSl1_ap, kSl2_ap, kPart_ap, sl, ad, Res.then_ok, kAsg_n, List.set_cons_succ, List.set_cons_zero]
  · rcases List.mem_append.mp hx with h | h
    · unfold px at h
      split at h
      · rw [List.mem_singleton.mp h]; exact ⟨_, rfl, ok_star⟩
      · cases h
    · obtain ⟨y, hy, rfl⟩ := List.mem_map.mp (List.mem_of_mem_take h)
      exact ⟨txt y, rfl, (hl y hy).ok⟩
theorem gd_el {l : List W} {v : W} {j q : Nat} {T : Store} (hl : ∀ x ∈ l, pu x) (G : Gd T 2 v) (hf : frB (q + 1) v = true) (o : Ob) : ∀ x ∈ l.set j v, Gd (T.set q o) 2 x := fun x hx => by
  rcases List.mem_or_eq_of_mem_set hx with h | h
  · exact .pu _ _ (hl x h)
  · rw [h]; exact G.set hf (by omega)
def goodB : List W → Bool
  | [a, b, c, _] => nameB a && (kindB b && rangeB 0 2147483647 c)
  | _ => false
theorem R5b5_ok {env : EnvW} {a b c d : W} (ga : Gd S 2 a) (gb : Gd S 2 b) (gc : Gd S 2 c) (h8 : env[8]? = some (some (.tup [a, b, c, d]))) :
    ∃ g : Store, R5b5 env S = .go .nx (env.set 10 (some (.bl (goodB [a, b, c, d])))) (S ++ g) := by
  have i0 : ∀ T, ixW (.tup [a, b, c, d]) (.int 0) T = .ok a T := fun T => ix_t (j := 0) rfl
  have i1 : ∀ T, ixW (.tup [a, b, c, d]) (.int 1) T = .ok b T := fun T => ix_t (j := 1) rfl
  have i2 : ∀ T, ixW (.tup [a, b, c, d]) (.int 2) T = .ok c T := fun T => ix_t (j := 2) rfl
  have l0 := lawnameG ga
  have kk := kinds_ok (st := S)
  have l1 := in_kinds (q := S.length) (gb.app [.lst KL]) (by omega) (by simp)
  have l2 := lawinG (m := 2147483648) (gc.app [.lst KL])
  have l2 : d__law_in [c, .int 2147483648] (S ++ [.lst KL]) = .ok (.bl (rangeB 0 2147483647 c)) (S ++ [.lst KL]) := l2
  have e : goodB [a, b, c, d] = (nameB a && (kindB b && rangeB 0 2147483647 c)) := rfl
  have c0 : ∀ (den : List W → Store → Res W) (st : Store), kCall 0 den [] st = den [] st := fun _ _ => rfl
  have p31' := p31 (st := S ++ [.lst KL])
  unfold R5b5
  cases q0 : nameB a with
  | false =>
    rw [q0] at l0
    refine ⟨[], ?_⟩
    rw [e, q0, List.append_nil]
    simp -implicitDefEqProofs only [sAsg_ap, dAndV_ap, dCall_ap, dCons_ap, dOp_ap, dVar_ap, h8, dC_ap, dNil_ap, Res.bind_ok, kOp1_ap, i0, kCons1_ap, kCons2_ap, kCall_1, l0, kAndV_f, Res.then_ok, kAsg_n, Bool.false_and]
  | true =>
    rw [q0] at l0
    refine ⟨[.lst KL], ?_⟩
    cases q1 : kindB b with
    | false =>
      rw [q1] at l1
      rw [e, q0, q1]
      simp -implicitDefEqProofs only [sAsg_ap, dAndV_ap, dCall_ap, dCons_ap, dOp_ap, dVar_ap, h8, dC_ap, dNil_ap, Res.bind_ok, kOp1_ap, i0, i1, kCons1_ap, kCons2_ap, kCall_1, l0, kAndV_t, c0, kk, l1, kAndV_f, Res.then_ok, kAsg_n, Bool.false_and, Bool.true_and]
    | true =>
      rw [q1] at l1
      rw [e, q0, q1]
      simp -implicitDefEqProofs only [sAsg_ap, dAndV_ap, dCall_ap, dCons_ap, dOp_ap, dVar_ap, h8, dC_ap, dNil_ap, Res.bind_ok, kOp1_ap, i0, i1, i2, kCons1_ap, kCons2_ap, kCall_1, kCall_2, l0, kAndV_t, c0, kk, l1, p31', l2, Res.then_ok, kAsg_n, Bool.true_and]
theorem R5b6_ok {env : EnvW} {a b c d : W} (ga : Gd S 2 a) (gb : Gd S 2 b) (gc : Gd S 2 c) (gd : Gd S 2 d) (h8 : env[8]? = some (some (.tup [a, b, c, d]))) (h10 : env[10]? = some (some (.bl (goodB [a, b, c, d])))) :
    R5b6 env S = .go .nx env S := by
  have i1 : ∀ T, ixW (.tup [a, b, c, d]) (.int 1) T = .ok b T := fun T => ix_t (j := 1) rfl
  have i3 : ∀ T, ixW (.tup [a, b, c, d]) (.int 3) T = .ok d T := fun T => ix_t (j := 3) rfl
  have gt : Gd S 3 (.tup [a, b, c, d]) := .tp _ _ (by simp) fun w hw => by
    simp only [List.mem_cons, List.not_mem_nil, or_false] at hw
    rcases hw with rfl | rfl | rfl | rfl <;> assumption
  have r := recordG gt (by omega)
  have e : recB (.tup [a, b, c, d]) = (nameB a && (kindB b && (rangeB 0 2147483647 c && dataV b d))) := rfl
  have e2 : goodB [a, b, c, d] = (nameB a && (kindB b && rangeB 0 2147483647 c)) := rfl
  have key : dAndV (dVar 10) (dCall 2 d__law_is_data (dCons (dOp ixW (dVar 8) (dC (.int 1))) (dCons (dOp ixW (dVar 8) (dC (.int 3))) dNil))) env S = .ok (.bl (recB (.tup [a, b, c, d]))) S := by
    cases q : goodB [a, b, c, d] with
    | false =>
      rw [q] at h10
      have : recB (.tup [a, b, c, d]) = false := by
        rw [e]; rw [e2] at q
        revert q; cases nameB a <;> cases kindB b <;> cases rangeB 0 2147483647 c <;> simp
      rw [this]
      simp -implicitDefEqProofs only [dAndV_ap, dVar_ap, h10, Res.bind_ok, kAndV_f]
    | true =>
      rw [q] at h10
      rw [e2] at q
      simp only [Bool.and_eq_true] at q
      have : recB (.tup [a, b, c, d]) = dataV b d := by rw [e, q.1, q.2.1, q.2.2]; rfl
      rw [this]
      cases b with
      | str s =>
        have ld := lawdataG (of_decide_eq_true q.2.1) gd (by omega)
        have e3 : dataV (.str s) d = dataB s d := rfl
        rw [e3]
        simp -implicitDefEqProofs only [dAndV_ap, dVar_ap, h10, Res.bind_ok, kAndV_t, dCall_ap, dCons_ap, dOp_ap, h8, dC_ap, dNil_ap, kOp1_ap, i1, i3, kCons1_ap, kCons2_ap, kCall_2, ld]
      | _ => exact nomatch (show false = true from q.2.1)
  have sb : d__law_same 8 [.bl (recB (.tup [a, b, c, d])), .bl (recB (.tup [a, b, c, d]))] S = .ok (.bl true) S := by
    have := same_bl (n := 7) (a := recB (.tup [a, b, c, d])) (b := recB (.tup [a, b, c, d])) (st := S)
    rw [beq_self_eq_true] at this
    exact this
  have cc : R5b6c env S = .ok false S := by
    unfold R5b6c
    simp -implicitDefEqProofs only [dNot_ap, dBool_ap, dCall_ap, dCons_ap, dVar_ap, h8, dNil_ap, Res.bind_ok, kCons1_ap, kCons2_ap, kCall_1, r] at key ⊢
    rw [key]
    simp -implicitDefEqProofs only [Res.bind_ok, kCons1_ap, dNil_ap, kCons2_ap, kCall_2, sb, kBool_ap, kNot_ap, Bool.not_true]
  exact if_f cc
theorem R5b_ok {b6 b8 b9 b10 : Option W} (P : PotA p n S) (hn : n + 40 ≤ 1000000) (hN : S[N]? = some (.lst nl)) (hpN : p ≠ N) (h6 : nl.length = 6) (hnl : ∀ w ∈ nl, NM w) (h0 : S0 nm) (hk : S0 (.str k)) (h1 : S1 w) :
    ∃ (c8 c9 c10 : Option W) (T : Store), R5b [some (.loc p), some (.str k), some (.loc N), some w, some nm, some (.tup [nm, .str k, .int z, w]), b6, none, b8, b9, b10] S = .go .nx [some (.loc p), some (.str k), some (.loc N), some w, some nm, some (.tup [nm, .str k, .int z, w]), b6, none, c8, c9, c10] T ∧ PotA p (n + 21) T ∧ Ext p S T := by
  have hlt := P.lt
  obtain ⟨L, hL⟩ : ∃ L, L = [nm, W.str k, .int z, w] := ⟨_, rfl⟩
  have hL4 : L.length = 4 := by rw [hL]; rfl
  have hLs : ∀ x ∈ L, S1 x := fun x hx => by
    rw [hL] at hx
    simp only [List.mem_cons, List.not_mem_nil, or_false] at hx
    rcases hx with rfl | rfl | rfl | rfl
    · exact .inl h0
    · exact .inl hk
    · exact .inl (.inl ⟨z, rfl⟩)
    · exact h1
  have hLp : ∀ x ∈ L, pu x := fun x hx => puB_mono (hLs x hx).pu3 (by decide)
  rw [← hL]
  clear hL h0 hk h1
  obtain ⟨U, hU⟩ : ∃ U, U = S ++ [Ob.lst L] := ⟨_, rfl⟩
  have PU : PotA p n U := by rw [hU]; exact P.app _
  have XU : Ext p S U := by rw [hU]; exact .app _
  have gU : U[S.length]? = some (.lst L) := by rw [hU]; simp
  have lU : U.length = S.length + 1 := by rw [hU]; simp
  obtain ⟨t, s1, e1, t0, t1, P1, K1⟩ := take_ok (m := 4) PU (by omega) (by decide) (by decide)
  obtain ⟨j, rfl⟩ : ∃ j : Nat, t = (j : Int) := ⟨t.toNat, by omega⟩
  have g1 : s1[S.length]? = some (.lst L) := by rw [K1.keep _ (by omega)]; exact gU
  have N1 : s1[N]? = some (.lst nl) := (XU.trans K1.ext).get hN (Ne.symm hpN)
  have hj : j < L.length := by omega
  obtain ⟨x, hx, _, ix⟩ := ix_mem (st := s1) (a := .loc S.length) (ws := L) (i := (j : Int)) (seq_loc g1) (by omega) (by omega)
  obtain ⟨⟨v, T, e2, G, PT, XT, hf⟩⟩ := bent1 (m := 6) P1 (by omega) N1 hpN h6 hnl (hLs x hx)
  have e2 : d__law_bent 8 [.loc p, x, .loc N] s1 = .ok v T := e2
  have gT : T[S.length]? = some (.lst L) := XT.get g1 (by omega)
  rw [K1.len, lU] at hf
  obtain ⟨V, hV⟩ : ∃ V, V = T.set S.length (.lst (L.set j v)) := ⟨_, rfl⟩
  have hset : setW (.loc S.length) (.int (j : Int)) v T = some V := by
    rw [hV]
    refine setW_of gT ?_
    unfold ixN
    rw [if_pos (by omega), if_pos (by omega)]
    simp
  have gV : V[S.length]? = some (.lst (L.set j v)) := by rw [hV]; exact List.getElem?_set_self (List.getElem?_eq_some_iff.mp gT).1
  have gE := gd_el (j := j) hLp G hf (.lst (L.set j v))
  rw [← hV] at gE
  obtain ⟨a, b, c, d, h4⟩ := four_of (l := L.set j v) (by rw [List.length_set, hL4])
  rw [h4] at gE gV
  have ga := gE a (by simp)
  have gb := gE b (by simp)
  have gcc := gE c (by simp)
  have gd := gE d (by simp)
  have tu : tupleW [.loc S.length] V = .ok (.tup [a, b, c, d]) V := tuple_loc gV
  have li : listAW [.tup L] S = .ok (.loc S.length) U := by rw [hU]; rfl
  have PV : PotA p (n + 21) V := by rw [hV]; exact (PT.set (by omega)).mono (by omega)
  have XV : Ext p S V := by rw [hV]; exact ((XU.trans K1.ext).trans XT).set (Nat.le_refl _)
  obtain ⟨g, e5⟩ := R5b5_ok (S := V) (env := [some (.loc p), some (.str k), some (.loc N), some w, some nm, some (.tup L), b6, none, some (.tup [a, b, c, d]), some (.int (j : Int)), b10]) (d := d) ga gb gcc rfl
  have e6 := R5b6_ok (S := V ++ g) (env := [some (.loc p), some (.str k), some (.loc N), some w, some nm, some (.tup L), b6, none, some (.tup [a, b, c, d]), some (.int (j : Int)), some (.bl (goodB [a, b, c, d]))]) (ga.app g) (gb.app g) (gcc.app g) (gd.app g) rfl rfl
  refine ⟨some (.tup [a, b, c, d]), some (.int (j : Int)), some (.bl (goodB [a, b, c, d])), V ++ g, ?_, PV.app _, XV.trans (.app _)⟩
  unfold R5b
  refine seq_go (env' := [some (.loc p), some (.str k), some (.loc N), some w, some nm, some (.tup L), b6, none, some (.loc S.length), b9, b10]) (st' := U) ?_ (seq_go (env' := [some (.loc p), some (.str k), some (.loc N), some w, some nm, some (.tup L), b6, none, some (.loc S.length), some (.int (j : Int)), b10]) (st' := s1) ?_ (seq_go (env' := [some (.loc p), some (.str k), some (.loc N), some w, some nm, some (.tup L), b6, none, some (.loc S.length), some (.int (j : Int)), b10]) (st' := V) ?_ (seq_go (env' := [some (.loc p), some (.str k), some (.loc N), some w, some nm, some (.tup L), b6, none, some (.tup [a, b, c, d]), some (.int (j : Int)), b10]) (st' := V) ?_ (seq_go e5 e6))))
  · unfold R5b1
    simp -implicitDefEqProofs only [sAsg_ap, dApp_ap, dCons_ap, dVar_ap, dNil_ap, List.getElem?_cons_zero, List.getElem?_cons_succ, Res.bind_ok, kCons1_ap, kCons2_ap, li, Res.then_ok, kAsg_n, List.set_cons_succ, List.set_cons_zero]
  · unfold R5b2
    simp -implicitDefEqProofs only [sAsg_ap, dCall_ap, dCons_ap, dVar_ap, dC_ap, dNil_ap, List.getElem?_cons_zero, List.getElem?_cons_succ, Res.bind_ok, kCons1_ap, kCons2_ap, kCall_2, e1, Res.then_ok, kAsg_n, List.set_cons_succ, List.set_cons_zero]
  · unfold R5b3
    have ks := kAsg_sub (env := [some (.loc p), some (.str k), some (.loc N), some w, some nm, some (.tup L), b6, none, some (.loc S.length), some (.int (j : Int)), b10]) (st := T) (st3 := V) (mo := dVar 8) (mi := dVar 9) (v := v) rfl rfl hset
    simp -implicitDefEqProofs only [sAsg_ap, dCall_ap, dCons_ap, dVar_ap, dOp_ap, dNil_ap, List.getElem?_cons_zero, List.getElem?_cons_succ, Res.bind_ok, kOp1_ap, ix, kCons1_ap, kCons2_ap, kCall_3, e2, Res.then_ok, ks]
  · unfold R5b4
    simp -implicitDefEqProofs only [sAsg_ap, dApp_ap, dCons_ap, dVar_ap, dNil_ap, List.getElem?_cons_zero, List.getElem?_cons_succ, Res.bind_ok, kCons1_ap, kCons2_ap, tu, Res.then_ok, kAsg_n, List.set_cons_succ, List.set_cons_zero]
end
end
end K04
namespace K04
open PySem PySem.Spec PyProof.Rows L2 MP
open Classical
noncomputable section
theorem kind_s0 {k : Str} (h : k ∈ c_KINDS) : S0 (.str k) := by
  refine .inr (.inl ⟨k, rfl, ok_kind h, ?_⟩)
  rcases kinds_are h with rfl | rfl | rfl | rfl | rfl | rfl | rfl | rfl <;> decide +kernel
section
variable {p n N : Nat} {st S T : Store} {w nm : W} {nl : List W} {k : Str} {z : Int}
theorem R6_ok {L : List W} {b1 b2 b3 b4 b6 b7 b8 b9 b10 : Option W} (P : PotA p n S) (hn : n + 10 ≤ 1000000) (hL4 : L.length = 4) (hL : ∀ x ∈ L, puB 3 x = true) :
    ∃ (v : W) (T : Store), R6 [some (.loc p), b1, b2, b3, b4, some (.tup L), b6, b7, b8, b9, b10] S = .go .nx [some (.loc p), b1, b2, b3, b4, some (.tup L), b6, some v, b8, b9, b10] T ∧ Gd T 0 v ∧ recB v = false ∧ PotA p (n + 1) T ∧ Ext p S T := by
  have hlt := P.lt
  have hp4 : puB 4 (.tup L) = true := by
    show (decide (L.length ≤ 8192) && L.all (puB 3)) = true
    rw [Bool.and_eq_true, decide_eq_true_iff, List.all_eq_true]
    exact ⟨by omega, hL⟩
  have hp : pu (.tup L) := puB4 hp4
  obtain ⟨M, hM⟩ : ∃ M, M = [W.loc S.length, .tup (L.take 3), .tup (L ++ [.int 5]), .tup [.tup L], .non, .int 7, .str "addr", .tup [], .loc (S.length + 1)] := ⟨_, rfl⟩
  obtain ⟨U, hU⟩ : ∃ U, U = S ++ [Ob.lst L, .lst [.tup L], .lst M] := ⟨_, rfl⟩
  have PU : PotA p n U := by rw [hU]; exact P.app _
  have XU : Ext p S U := by rw [hU]; exact .app _
  have gU : U[S.length + 2]? = some (.lst M) := by rw [hU]; simp
  have g0 : U[S.length]? = some (.lst L) := by rw [hU]; simp
  have g1 : U[S.length + 1]? = some (.lst [.tup L]) := by rw [hU]; simp
  have hall : ∀ w ∈ M, Gd U 0 w ∧ recB w = false := fun w hw => by
    rw [hM] at hw
    simp only [List.mem_cons, List.not_mem_nil, or_false] at hw
    rcases hw with rfl | rfl | rfl | rfl | rfl | rfl | rfl | rfl | rfl
    · exact ⟨.ls _ _ L g0 (by omega) fun w hw => puB_mono (hL w hw) (by decide), rfl⟩
    · obtain ⟨a, b, c, d, rfl⟩ := four_of hL4
      exact ⟨.pu _ _ (pu_tup (by simp) fun w hw => puB_mono (hL w (List.mem_of_mem_take hw)) (by decide)), rfl⟩
    · obtain ⟨a, b, c, d, rfl⟩ := four_of hL4
      exact ⟨.pu _ _ (pu_more hp (by simp) rfl).1, rfl⟩
    · refine ⟨.pu _ _ (pu_tup (by simp) fun w hw => ?_), rfl⟩
      rw [List.mem_singleton.mp hw]; exact hp4
    · exact ⟨.pu _ _ rfl, rfl⟩
    · exact ⟨.pu _ _ rfl, rfl⟩
    · exact ⟨.pu _ _ (by decide +kernel), rfl⟩
    · exact ⟨.pu _ _ rfl, rfl⟩
    · refine ⟨.ls _ _ _ g1 (by simp) fun w hw => ?_, rfl⟩
      rw [List.mem_singleton.mp hw]; exact hp
  obtain ⟨t, s1, e, t0, t1, P1, K1⟩ := take_ok (m := 9) PU (by omega) (by decide) (by decide)
  have gq : s1[S.length + 2]? = some (.lst M) := by rw [K1.keep _ (by omega)]; exact gU
  obtain ⟨v, hv, _, ix⟩ := ix_mem (st := s1) (a := .loc (S.length + 2)) (ws := M) (i := t) (seq_loc gq) t0 (by rw [hM]; exact t1)
  refine ⟨v, s1, ?_, (hall v hv).1.ext P1 K1.ext, (hall v hv).2, P1, XU.trans K1.ext⟩
  have k0 : ∀ (T : Store), kTup [] T = .ok (.tup []) T := fun T => ten (by simp)
  have k1 : ∀ (a : W) (T : Store), kTup [a] T = .ok (.tup [a]) T := fun a T => ten (by simp)
  have li : listAW [.tup L] S = .ok (.loc S.length) (S ++ [.lst L]) := rfl
  have sl : slW (.tup L) none (some 3) (S ++ [.lst L]) = .ok (.tup (L.take 3)) (S ++ [.lst L]) := by
    show Res.ok (W.tup (cutW L none (some ((3 : Nat) : Int)))) _ = _
    rw [cut_to]
  have ad : addW (.tup L) (.tup [.int 5]) (S ++ [.lst L]) = .ok (.tup (L ++ [.int 5])) (S ++ [.lst L]) := addW_tt (by simp; omega)
  have kl1 : kLst [.tup L] (S ++ [.lst L]) = .ok (.loc (S.length + 1)) (S ++ [.lst L, .lst [.tup L]]) := by
    have := lst5 (l := [W.tup L]) (st := S ++ [.lst L]) (by simp)
    rw [this]; simp
  have kl : kLst M (S ++ [.lst L, .lst [.tup L]]) = .ok (.loc (S.length + 2)) U := by
    have := lst5 (l := M) (st := S ++ [.lst L, .lst [.tup L]]) (by rw [hM]; simp)
    rw [this, hU]; simp
  unfold R6
  simp -implicitDefEqProofs only [sAsg_ap, dOp_ap, dLst_ap, dCons_ap, dApp_ap, dSl_ap, dNoPart_ap, dPart_ap, dTup_ap, dVar_ap, dC_ap, dNil_ap, List.getElem?_cons_zero, List.getElem?_cons_succ, Res.bind_ok, kOp1_ap, kCons1_ap, kCons2_ap, kSl1_ap, kSl2_ap, kPart_ap, k0, k1, li, sl, ad, kl1]
  rw [← hM, kl]
  simp -implicitDefEqProofs only [Res.bind_ok, kOp1_ap, dCall_ap, dCons_ap, dVar_ap, dC_ap, dNil_ap, List.getElem?_cons_zero, List.getElem?_cons_succ, kCons1_ap, kCons2_ap, kCall_2, e, ix, Res.then_ok, kAsg_n, List.set_cons_succ, List.set_cons_zero]
theorem records_right_ok (hk : k ∈ c_KINDS) (P : PotA p n st) (hn : n + 400 ≤ 1000000) (hN : st[N]? = some (.lst nl)) (hpN : p ≠ N) (h6 : nl.length = 6) (hnl : ∀ w ∈ nl, NM w) :
    ∃ (S' : Store), d__law_records_right [.loc p, .str k, .loc N] st = .ok (.bl true) S' ∧ PotA p (n + 300) S' ∧ Kp p st S' := by
  have hl := P.lt
  obtain ⟨w, s1, e1, dw, pw, P1, K1, sw⟩ := data_ok hk P hN hpN h6 hnl (by omega)
  have N1 : s1[N]? = some (.lst nl) := by rw [K1.keep _ (Ne.symm hpN)]; exact hN
  obtain ⟨nm, s2, e2, nb, s0, P2, K2⟩ := R2_ok (b3 := some (.str k)) (b4 := some w) (b5 := none) (b6 := none) (b7 := none) (b8 := none) (b9 := none) (b10 := none) P1 (by omega) N1 hpN h6 hnl
  obtain ⟨z, s3, e3, z0, z1, P3, K3⟩ := number_ok (m := 2147483648) P2 (by omega) (by decide) (by decide +kernel)
  have N3 : s3[N]? = some (.lst nl) := by rw [K3.keep _ (Ne.symm hpN), K2.keep _ (Ne.symm hpN)]; exact N1
  obtain ⟨L, hL⟩ : ∃ L, L = [nm, W.str k, .int z, w] := ⟨_, rfl⟩
  have hLp : ∀ x ∈ L, puB 3 x = true := fun x hx => by
    rw [hL] at hx
    simp only [List.mem_cons, List.not_mem_nil, or_false] at hx
    rcases hx with rfl | rfl | rfl | rfl
    · exact S1.pu3 (.inl s0)
    · exact S1.pu3 (.inl (kind_s0 hk))
    · rfl
    · exact sw.pu3
  have hL4 : L.length = 4 := by rw [hL]; rfl
  have hrec : recB (.tup L) = true := by
    rw [hL]
    show (nameB nm && (kindB (.str k) && (rangeB 0 2147483647 (.int z) && dataV (.str k) w))) = true
    rw [nb, range_i z0 (by omega), show kindB (.str k) = true from decide_eq_true hk, show dataV (.str k) w = true from dw]; rfl
  have hLpu : pu (.tup L) := pu_tup (by omega) fun x hx => puB_mono (hLp x hx) (by decide)
  have r4 := recordG (st := s3) (n := 0) (.pu _ _ hLpu) (by omega)
  rw [hrec] at r4
  have sb : d__law_same 8 [.bl true, .bl true] s3 = .ok (.bl true) s3 := same_bl (n := 7) (a := true) (b := true)
  have hr := kR1_ok (st := s3) (j := 3) (by decide) (by decide)
  have kt : kTup [nm, .str k, .int z, w] s3 = .ok (.tup L) s3 := by rw [hL]; exact ten (by simp)
  have f1 : R1 [some (.loc p), some (.str k), some (.loc N), none, none, none, none, none, none, none, none] st = .go .nx [some (.loc p), some (.str k), some (.loc N), some w, none, none, none, none, none, none, none] s1 := by
    unfold R1
    simp -implicitDefEqProofs only [sAsg_ap, dCall_ap, dCons_ap, dVar_ap, dNil_ap, List.getElem?_cons_zero, List.getElem?_cons_succ, Res.bind_ok, kCons1_ap, kCons2_ap, kCall_3, e1, Res.then_ok, kAsg_n, List.set_cons_succ, List.set_cons_zero]
  have f3 : R3 [some (.loc p), some (.str k), some (.loc N), some w, some nm, none, none, none, none, none, none] s2 = .go .nx [some (.loc p), some (.str k), some (.loc N), some w, some nm, some (.tup L), none, none, none, none, none] s3 := by
    unfold R3
    simp -implicitDefEqProofs only [sAsg_ap, dTup_ap, dCall_ap, dCons_ap, dVar_ap, dOp_ap, dC_ap, dNil_ap, List.getElem?_cons_zero, List.getElem?_cons_succ, Res.bind_ok, kOp1_ap, p31, kCons1_ap, kCons2_ap, kCall_2, e3, kt, Res.then_ok, kAsg_n, List.set_cons_succ, List.set_cons_zero]
  have c4 : R4c [some (.loc p), some (.str k), some (.loc N), some w, some nm, some (.tup L), none, none, none, none, none] s3 = .ok false s3 := by
    unfold R4c
    simp -implicitDefEqProofs only [dOr_ap, dNot_ap, dBool_ap, dCall_ap, dCons_ap, dVar_ap, dC_ap, dNil_ap, List.getElem?_cons_zero, List.getElem?_cons_succ, Res.bind_ok, kCons1_ap, kCons2_ap, kCall_1, kCall_2, r4, sb, kBool_ap, kNot_ap, Bool.not_true, kOr_f]
  obtain ⟨env', S', e, ⟨c6, c8, c9, c10, rfl⟩, PS, XS⟩ := forW_ok (chk := (ItW.mk (intsW 0 (3 : Int).toNat) none).Chk) (t := tName 6) (b := R5b)
    (fun i env T => (∃ c6 c8 c9 c10, env = [some (.loc p), some (.str k), some (.loc N), some w, some nm, some (.tup L), c6, none, c8, c9, c10]) ∧ PotA p (n + 85 + 21 * i) T ∧ Ext p st T) (fun _ _ _ _ => by simp) (intsW 0 (3 : Int).toNat) 0 [some (.loc p), some (.str k), some (.loc N), some w, some nm, some (.tup L), none, none, none, none, none] s3
    (fun i v env T hw hI => by
      obtain ⟨⟨c6, c8, c9, c10, rfl⟩, PT, XT⟩ := hI
      have hi : i < 3 := (ints_get hw).1
      rw [Nat.zero_add] at *
      obtain ⟨d8, d9, d10, T', e, P', X'⟩ := R5b_ok (z := z) (b6 := some v) (b8 := c8) (b9 := c9) (b10 := c10) PT (by omega) (XT.get hN (Ne.symm hpN)) hpN h6 hnl s0 (kind_s0 hk) sw
      rw [← hL] at e
      exact ⟨_, _, _, _, rfl, e, ⟨_, _, _, _, rfl⟩, P'.mono (by omega), XT.trans X'⟩) ⟨⟨none, none, none, none, rfl⟩, P3.mono (by omega), ((K1.trans K2).trans K3).ext⟩
  have hlen : (intsW 0 (3 : Int).toNat).length = 3 := rfl
  rw [hlen] at PS
  have e5 : R5 [some (.loc p), some (.str k), some (.loc N), some w, some nm, some (.tup L), none, none, none, none, none] s3 = .go .nx [some (.loc p), some (.str k), some (.loc N), some w, some nm, some (.tup L), c6, none, c8, c9, c10] S' := by
    unfold R5
    rw [sFor_ap]
    simp -implicitDefEqProofs only [dRange1_ap, dCons_ap, dC_ap, dNil_ap, Res.bind_ok, kCons1_ap, kCons2_ap, hr, Res.then_ok, kFor]
    exact e
  obtain ⟨v, U, e6, gv, rv, PU, XU⟩ := R6_ok (b1 := some (.str k)) (b2 := some (.loc N)) (b3 := some w) (b4 := some nm) (b6 := c6) (b7 := none) (b8 := c8) (b9 := c9) (b10 := c10) PS (by omega) hL4 hLp
  have r7 := recordG gv (by omega)
  rw [rv] at r7
  have sf : d__law_same 8 [.bl false, .bl false] U = .ok (.bl true) U := same_bl (n := 7) (a := false) (b := false)
  have f7 : R7 [some (.loc p), some (.str k), some (.loc N), some w, some nm, some (.tup L), c6, some v, c8, c9, c10] U = .go (.rt (.bl true)) [some (.loc p), some (.str k), some (.loc N), some w, some nm, some (.tup L), c6, some v, c8, c9, c10] U := by
    unfold R7
    simp -implicitDefEqProofs only [sRet_ap, dCall_ap, dCons_ap, dVar_ap, dC_ap, dNil_ap, List.getElem?_cons_zero, List.getElem?_cons_succ, Res.bind_ok, kCons1_ap, kCons2_ap, kCall_1, kCall_2, r7, sf, Res.then_ok, kRet_ap]
  obtain ⟨G1, G2, G3⟩ := gc_pot (v := .bl true) (XS.trans XU) PU hl rfl
  refine ⟨_, ?_, G3.mono (by omega), G2⟩
  have body : (sSeq R1 (sSeq R2 (sSeq R3 (sSeq R4 (sSeq R5 (sSeq R6 R7)))))) [some (.loc p), some (.str k), some (.loc N), none, none, none, none, none, none, none, none] st = .go (.rt (.bl true)) [some (.loc p), some (.str k), some (.loc N), some w, some nm, some (.tup L), c6, some v, c8, c9, c10] U :=
    seq_go f1 (seq_go e2 (seq_go f3 (seq_go (if_f c4) (seq_go e5 (seq_go e6 f7)))))
  unfold d__law_records_right; rw [fnDen_ap, R_eq]
  show fnR st ((sSeq R1 (sSeq R2 (sSeq R3 (sSeq R4 (sSeq R5 (sSeq R6 R7)))))) [some (.loc p), some (.str k), some (.loc N), none, none, none, none, none, none, none, none] st) = _
  rw [body, fnR_rt, G1]
end
end
end K04
namespace K04
open PySem PySem.Spec PyProof.Rows L2 MP
open Classical
noncomputable section
def F1 : DS := (sAsg (dLst dNil) (tName 4))
def F2 : DS := (sTryAs 5 (sSeq (sIf (dBool (dOp eqW (dVar 0) (dC (.int 0)))) (sExpr (dCall 2 d_is_data (dCons (dVar 1) (dCons (dVar 2) dNil)))) sNil) (sIf (dBool (dOp eqW (dVar 0) (dC (.int 1)))) (sExpr (dCall 3 d_data_compared (dCons (dVar 1) (dCons (dVar 2) (dCons (dVar 3) dNil))))) sNil)) (subL [("TreeError" , false) , ("InvalidKind" , true)]) (fun cN wv => (sAsg (dLst (dCons (dExc wv) dNil)) (tName 4))))
def F3 : DS := (sRet (dVar 4))
theorem F_eq : b__law_refused = (sSeq F1 (sSeq F2 F3)) := rfl
def Z1b1 : DS := (sAsg (dCall 2 d__law_pot (dCons (dVar 0) (dCons (dVar 1) dNil))) (tName 2))
def Z1b2 : DS := (sAsg (dCall 1 d__law_names (dCons (dVar 2) dNil)) (tName 3))
def Z1b3 : DS := (sAsg (dCall 0 d__law_kinds dNil) (tName 4))
def Z1b4 : DS := (sAsg (dLc (dRange1 (dCons (dC (.int 3)) dNil)) [9] (tName 9) dYes (dOp ixW (dVar 4) (dCall 2 d__law_take (dCons (dVar 2) (dCons (dC (.int 8)) dNil))))) (tName 5))
def Z1b5b1c : D Bool := (dOr (dNot (dBool (dCall 3 d__law_data_right (dCons (dVar 2) (dCons (dVar 6) (dCons (dVar 3) dNil)))))) (dNot (dBool (dCall 3 d__law_records_right (dCons (dVar 2) (dCons (dVar 6) (dCons (dVar 3) dNil)))))))
def Z1b5b1a : DS := (sRet (dC (.bl false)))
def Z1b5b1 : DS := sIf Z1b5b1c Z1b5b1a sNil
def Z1b5b2c : D Bool := (dOr (dNot (dBool (dCall 2 (d__law_same 8) (dCons (dCall 1 d_is_kind (dCons (dVar 6) dNil)) (dCons (dC (.bl true)) dNil))))) (dNot (dBool (dCall 2 (d__law_same 8) (dCons (dCall 1 d_is_kind (dCons (dVar 6) dNil)) (dCons (dC (.bl true)) dNil))))))
def Z1b5b2a : DS := (sRet (dC (.bl false)))
def Z1b5b2 : DS := sIf Z1b5b2c Z1b5b2a sNil
def Z1b5b : DS := (sSeq Z1b5b1 Z1b5b2)
def Z1b5 : DS := sFor (dIt (dVar 5)) (tName 6) Z1b5b
def Z1b6 : DS := (sAsg (dCall 1 d__law_odd_kind (dCons (dVar 2) dNil)) (tName 7))
def Z1b7 : DS := (sAsg (dCall 3 d__law_data (dCons (dVar 2) (dCons (dOp ixW (dVar 5) (dC (.int 0))) (dCons (dVar 3) dNil)))) (tName 8))
def Z1b8c : D Bool := (dOr (dNot (dBool (dCall 2 (d__law_same 8) (dCons (dCall 1 d_is_kind (dCons (dVar 7) dNil)) (dCons (dC (.bl false)) dNil))))) (dBool (dOp neW (dCall 4 d__law_refused (dCons (dC (.int 0)) (dCons (dVar 7) (dCons (dVar 8) (dCons (dVar 8) dNil))))) (dLst (dCons (dVar 7) dNil)))))
def Z1b8a : DS := (sRet (dC (.bl false)))
def Z1b8 : DS := sIf Z1b8c Z1b8a sNil
def Z1b9c : D Bool := (dOr (dBool (dOp neW (dCall 4 d__law_refused (dCons (dC (.int 1)) (dCons (dVar 7) (dCons (dVar 8) (dCons (dVar 8) dNil))))) (dLst (dCons (dVar 7) dNil)))) (dBool (dOp neW (dCall 4 d__law_refused (dCons (dC (.int 0)) (dCons (dVar 7) (dCons (dC .non) (dCons (dC .non) dNil))))) (dLst (dCons (dVar 7) dNil)))))
def Z1b9a : DS := (sRet (dC (.bl false)))
def Z1b9 : DS := sIf Z1b9c Z1b9a sNil
def Z1b : DS := (sSeq Z1b1 (sSeq Z1b2 (sSeq Z1b3 (sSeq Z1b4 (sSeq Z1b5 (sSeq Z1b6 (sSeq Z1b7 (sSeq Z1b8 Z1b9))))))))
def Z1 : DS := sFor (dRange1 (dCons (dApp maxW (dCons (dC (.int 1)) (dCons (dApp minW (dCons (dC (.int 4)) (dCons (dApp lenW (dCons (dVar 0) dNil)) dNil))) dNil))) dNil)) (tName 1) Z1b
def Z2 : DS := (sRet (dC (.bl true)))
theorem Z_eq : b_law = (sSeq Z1 Z2) := rfl
section
variable {p n N q : Nat} {st S T : Store} {w u x y : W} {k : Str} {z way : Int}
theorem pic_gd (h : Pic st w u) : Gd st 0 w ∧ kindB w = kindB u := by
  cases h with
  | pu _ h => exact ⟨.pu _ _ h, rfl⟩
  | ls k ws h hl hw => exact ⟨.ls _ _ ws h hl hw, rfl⟩
theorem check_err (h : Pic st w u) (hb : kindB u = false) : ∃ w' g, d_check_kind [w] st = .err "InvalidKind" w' (st ++ g) ∧ Pic (st ++ g) w' u := by
  obtain ⟨w', g, e, hp, _⟩ := rebuilt_ok h
  have k1 := kindG (pic_gd h).1
  rw [(pic_gd h).2, hb] at k1
  refine ⟨w', g, ?_, hp⟩
  unfold d_check_kind; rw [fnDen_ap]; unfold b_check_kind
  simp -implicitDefEqProofs [k1, e]
theorem data_err (h : Pic st w u) (hb : kindB u = false) : ∃ w' g, d_is_data [w, x] st = .err "InvalidKind" w' (st ++ g) ∧ d_data_compared [w, x, y] st = .err "InvalidKind" w' (st ++ g) ∧ Pic (st ++ g) w' u := by
  obtain ⟨w', g, e, hp⟩ := check_err h hb
  refine ⟨w', g, ?_, ?_, hp⟩
  · unfold d_is_data; rw [fnDen_ap]; unfold b_is_data
    simp -implicitDefEqProofs only [List.map_cons, List.map_nil, List.length_cons, List.length_nil, Nat.reduceAdd, Nat.reduceSub, List.replicate_succ, List.replicate_zero, List.cons_append, List.nil_append, sSeq_ap, sExpr_ap, dCall_ap, dCons_ap, dVar_ap, dNil_ap, List.getElem?_cons_zero, List.getElem?_cons_succ, Res.bind_ok, kCons1_ap, kCons2_ap, kCall_1, e, Res.then_err, RsS.next_er, fnR_err]
  · unfold d_data_compared; rw [fnDen_ap]; unfold b_data_compared
    simp -implicitDefEqProofs only [List.map_cons, List.map_nil, List.length_cons, List.length_nil, Nat.reduceAdd, Nat.reduceSub, List.replicate_succ, List.replicate_zero, List.cons_append, List.nil_append, sSeq_ap, sExpr_ap, dCall_ap, dCons_ap, dVar_ap, dNil_ap, List.getElem?_cons_zero, List.getElem?_cons_succ, Res.bind_ok, kCons1_ap, kCons2_ap, kCall_1, e, Res.then_err, RsS.next_er, fnR_err]
theorem refused_ok (h : Pic st w u) (hb : kindB u = false) (hw : way = 0 ∨ way = 1) : ∃ q g' w', d__law_refused [.int way, w, x, y] st = .ok (.loc q) (st ++ g') ∧ (st ++ g')[q]? = some (.lst [w']) ∧ Pic (st ++ g') w' u := by
  obtain ⟨U, hU⟩ : ∃ U, U = st ++ [Ob.lst []] := ⟨_, rfl⟩
  have hp : Pic U w u := by rw [hU]; exact h.app _
  obtain ⟨w', g, e1, e2, hp'⟩ := data_err (x := x) (y := y) hp hb
  have kl : kLst [] st = .ok (.loc st.length) U := by rw [hU]; exact lst5 (by simp)
  have hsub : subL [("TreeError", false), ("InvalidKind", true)] "InvalidKind" = some true := by decide +kernel
  obtain ⟨V, hV⟩ : ∃ V, V = U ++ g ++ [Ob.lst [w']] := ⟨_, rfl⟩
  have kl2 : kLst [w'] (U ++ g) = .ok (.loc (U ++ g).length) V := by rw [hV]; exact lst5 (by simp)
  have hVs : V = st ++ ([Ob.lst []] ++ g ++ [Ob.lst [w']]) := by rw [hV, hU]; simp
  have f1 : F1 [some (.int way), some w, some x, some y, none, none] st = .go .nx [some (.int way), some w, some x, some y, some (.loc st.length), none] U := by
    unfold F1
    simp -implicitDefEqProofs only [sAsg_ap, dLst_ap, dNil_ap, Res.bind_ok, kl, Res.then_ok, kAsg_n, List.set_cons_succ, List.set_cons_zero]
  have f2 : F2 [some (.int way), some w, some x, some y, some (.loc st.length), none] U = .go .nx [some (.int way), some w, some x, some y, some (.loc (U ++ g).length), none] V := by
    unfold F2
    rw [sTryAs_ap]
    have b : ∀ r, r = RsS.err "InvalidKind" w' [some (.int way), some w, some x, some y, some (.loc st.length), none] (U ++ g) → kTry 5 (subL [("TreeError", false), ("InvalidKind", true)]) (fun cN wv => (sAsg (dLst (dCons (dExc wv) dNil)) (tName 4))) r = .go .nx [some (.int way), some w, some x, some y, some (.loc (U ++ g).length), none] V := fun r hr => by
      rw [hr, kTry_err hsub (by simp)]
      simp -implicitDefEqProofs only [sAsg_ap, dLst_ap, dCons_ap, dExc_ap, dNil_ap, Res.bind_ok, kCons1_ap, kCons2_ap, kl2, Res.then_ok, kAsg_n, List.set_cons_succ, List.set_cons_zero, unAt_go]
    refine b _ ?_
    rcases hw with rfl | rfl
    · simp -implicitDefEqProofs [e1]
    · simp -implicitDefEqProofs [e2]
  have f3 : F3 [some (.int way), some w, some x, some y, some (.loc (U ++ g).length), none] V = .go (.rt (.loc (U ++ g).length)) [some (.int way), some w, some x, some y, some (.loc (U ++ g).length), none] V := by
    unfold F3
    simp -implicitDefEqProofs only [sRet_ap, dVar_ap, List.getElem?_cons_zero, List.getElem?_cons_succ, Res.then_ok, kRet_ap]
  have body : (sSeq F1 (sSeq F2 F3)) [some (.int way), some w, some x, some y, none, none] st = .go (.rt (.loc (U ++ g).length)) [some (.int way), some w, some x, some y, some (.loc (U ++ g).length), none] V := seq_go f1 (seq_go f2 f3)
  have gV : (st ++ ([Ob.lst []] ++ g ++ [Ob.lst [w']]))[(U ++ g).length]? = some (.lst [w']) := by rw [← hVs, hV]; simp
  obtain ⟨q, g', G, Gq, hc⟩ := gc_any (m := (U ++ g).length) (by rw [hU]; simp) gV
  have hpV : Pic (st ++ ([Ob.lst []] ++ g ++ [Ob.lst [w']])) w' u := by rw [← hVs, hV]; exact hp'.app _
  refine ⟨q, g', w', ?_, Gq, ?_⟩
  · unfold d__law_refused; rw [fnDen_ap, F_eq]
    show fnR st ((sSeq F1 (sSeq F2 F3)) [some (.int way), some w, some x, some y, none, none] st) = _
    rw [body, fnR_rt, hVs, G]
  · rcases hc with hc | rfl
    · exact pic_cl hpV (by simpa [clBs] using hc)
    · exact hpV
theorem one_list (g : st[q]? = some (.lst [w])) (h : Pic st w u) : datF st 66 (.loc q) = some (.list [dU u]) ∧ SeqAt.shaped (.list [dU u]) = true := by
  refine ⟨?_, shaped_of ⟨canAll (f := fun _ : W => dU u) (ws := [w]) fun _ _ => h.shp.1, ?_⟩⟩
  · simp only [datF, g]
    show (allO [datF st 65 w]).map PyData.list = _
    rw [h.dat 65 (by decide)]; rfl
  · rw [PyData.depth.eq_1]
    have := depAll (f := fun _ : W => dU u) (ws := [w]) (n := 6) fun _ _ => h.shp.2
    simp only [List.map_cons, List.map_nil] at this
    omega
theorem cmp_ok {args : D (List W)} {env : EnvW} (h : Pic st w u) (hb : kindB u = false) (hw : way = 0 ∨ way = 1) (hargs : args env st = .ok [.int way, w, x, y] st) (h7 : env[7]? = some (some w)) :
    ∃ G, dBool (dOp neW (dCall 4 d__law_refused args) (dLst (dCons (dVar 7) dNil))) env st = .ok false (st ++ G) := by
  obtain ⟨q, g', w', e, gq, hp⟩ := refused_ok (x := x) (y := y) h hb hw
  have kl : kLst [w] (st ++ g') = .ok (.loc (st ++ g').length) (st ++ g' ++ [.lst [w]]) := lst5 (by simp)
  have g1 := get_app [Ob.lst [w]] gq
  have g2 : (st ++ g' ++ [Ob.lst [w]])[(st ++ g').length]? = some (.lst [w]) := by simp
  obtain ⟨d1, s1⟩ := one_list g1 (hp.app _)
  obtain ⟨d2, s2⟩ := one_list g2 ((h.app g').app [Ob.lst [w]])
  have ne := neW_of d1 d2 s1 s2
  have eq : (PyData.list [dU u]).eqv (.list [dU u]) = true := by
    rw [PyData.eqv.eq_7, PyData.eqvAll.eq_2, PyData.eqvAll.eq_1, h.refl]; rfl
  rw [eq] at ne
  refine ⟨g' ++ [.lst [w]], ?_⟩
  rw [← List.append_assoc]
  simp -implicitDefEqProofs only [dBool_ap, dOp_ap, dCall_ap, hargs, Res.bind_ok, kCall_4, e, kOp1_ap, dLst_ap, dCons_ap, dVar_ap, h7, kCons1_ap, dNil_ap, kCons2_ap, kl, ne, Bool.not_true, kBool_ap]
end
theorem kl_get {st : Store} {q : Nat} {t : Int} (h : st[q]? = some (.lst KL)) (t0 : 0 ≤ t) (t1 : t < 8) : ∃ k : Str, k ∈ c_KINDS ∧ ixW (.loc q) (.int t) st = .ok (.str k) st := by
  obtain ⟨w, hw, _, ix⟩ := ix_mem (st := st) (a := .loc q) (ws := KL) (i := t) (seq_loc h) t0 (by unfold KL c_KINDS; simp; omega)
  obtain ⟨k, hk, rfl⟩ := List.mem_map.mp hw
  exact ⟨k, hk, ix⟩
section
variable {p n N q : Nat} {st S T : Store} {sc : W} {nl : List W}
theorem Z1b5b_ok {k : Str} {b0 b1 b4 b5 b7 b8 b9 : Option W} (hk : k ∈ c_KINDS) (P : PotA p n st) (hn : n + 1000 ≤ 1000000) (hN : st[N]? = some (.lst nl)) (hpN : p ≠ N) (h6 : nl.length = 6) (hnl : ∀ w ∈ nl, NM w) :
    ∃ T, Z1b5b [b0, b1, some (.loc p), some (.loc N), b4, b5, some (.str k), b7, b8, b9] st = .go .nx [b0, b1, some (.loc p), some (.loc N), b4, b5, some (.str k), b7, b8, b9] T ∧ PotA p (n + 600) T ∧ Kp p st T := by
  obtain ⟨s1, e1, P1, K1⟩ := data_right_ok hk P (by omega) hN hpN h6 hnl
  have N1 : s1[N]? = some (.lst nl) := by rw [K1.keep _ (Ne.symm hpN)]; exact hN
  obtain ⟨s2, e2, P2, K2⟩ := records_right_ok hk P1 (by omega) N1 hpN h6 hnl
  have kd := kindG (st := s2) (n := 0) (.pu _ (.str k) (ok_kind hk))
  rw [show kindB (.str k) = true from decide_eq_true hk] at kd
  have sb : d__law_same 8 [.bl true, .bl true] s2 = .ok (.bl true) s2 := same_bl (n := 7) (a := true) (b := true)
  refine ⟨s2, ?_, P2.mono (by omega), K1.trans K2⟩
  unfold Z1b5b
  refine seq_go (if_f (a := Z1b5b1a) (c := Z1b5b1c) (st' := s2) ?_) (if_f (a := Z1b5b2a) (c := Z1b5b2c) ?_)
  · unfold Z1b5b1c
    simp -implicitDefEqProofs only [dOr_ap, dNot_ap, dBool_ap, dCall_ap, dCons_ap, dVar_ap, dNil_ap, List.getElem?_cons_zero, List.getElem?_cons_succ, Res.bind_ok, kCons1_ap, kCons2_ap, kCall_3, e1, e2, kBool_ap, kNot_ap, Bool.not_true, kOr_f]
  · unfold Z1b5b2c
    simp -implicitDefEqProofs only [dOr_ap, dNot_ap, dBool_ap, dCall_ap, dCons_ap, dVar_ap, dC_ap, dNil_ap, List.getElem?_cons_zero, List.getElem?_cons_succ, Res.bind_ok, kCons1_ap, kCons2_ap, kCall_1, kCall_2, kd, sb, kBool_ap, kNot_ap, Bool.not_true, kOr_f]
theorem Z1b4_ok {b0 b1 b3 b5 b6 b7 b8 : Option W} {q : Nat} (P : PotA p n S) (hn : n + 10 ≤ 1000000) (hq : S[q]? = some (.lst KL)) (hpq : p ≠ q) :
    ∃ (ks : List Str) (T : Store), Z1b4 [b0, b1, some (.loc p), b3, some (.loc q), b5, b6, b7, b8, none] S = .go .nx [b0, b1, some (.loc p), b3, some (.loc q), some (.loc S.length), b6, b7, b8, none] (T ++ [.lst (ks.map W.str)]) ∧ ks.length = 3 ∧ (∀ k ∈ ks, k ∈ c_KINDS) ∧ PotA p (n + 3) T ∧ Kp p S T := by
  have hr := kR1_ok (st := S) (j := 3) (by decide) (by decide)
  obtain ⟨acc, T, e, hl, P1, K1, ks, rfl, hks⟩ := kLc_ok (env := [b0, b1, some (.loc p), b3, some (.loc q), b5, b6, b7, b8, none]) (i := 9) (e := (dOp ixW (dVar 4) (dCall 2 d__law_take (dCons (dVar 2) (dCons (dC (.int 8)) dNil))))) (st := S) (ws := intsW 0 (3 : Int).toNat)
    (fun i acc T => PotA p (n + i) T ∧ Kp p S T ∧ ∃ ks : List Str, acc = ks.map W.str ∧ ∀ k ∈ ks, k ∈ c_KINDS) (fun i w acc T hw hJ => by
      obtain ⟨hP, hK, ks, rfl, hks⟩ := hJ
      have hi : i < 3 := (ints_get hw).1
      obtain ⟨t, s', e, t0, t1, P, K⟩ := take_ok (m := 8) hP (by omega) (by decide) (by decide)
      obtain ⟨k, hk, ix⟩ := kl_get (st := s') (q := q) (by rw [K.keep _ (Ne.symm hpq), hK.keep _ (Ne.symm hpq)]; exact hq) t0 t1
      refine ⟨.str k, s', ?_, P.mono (by omega), hK.trans K, ks ++ [k], by simp, fun y hy => by
        rcases List.mem_append.mp hy with h | h
        · exact hks y h
        · rw [List.mem_singleton.mp h]; exact hk⟩
      simp -implicitDefEqProofs only [List.set_cons_succ, List.set_cons_zero, dOp_ap, dVar_ap, dCall_ap, dCons_ap, dC_ap, dNil_ap, List.getElem?_cons_zero, List.getElem?_cons_succ, Res.bind_ok, kOp1_ap, kCons1_ap, kCons2_ap, kCall_2, e, ix]) (by decide) ⟨by simpa using P, .refl, [], rfl, by simp⟩
  have hlen : (intsW 0 (3 : Int).toNat).length = 3 := rfl
  rw [hlen] at hl P1
  rw [K1.len] at e
  refine ⟨ks, T, ?_, by simpa using hl, hks, P1, K1⟩
  unfold Z1b4
  simp -implicitDefEqProofs only [sAsg_ap, dLc_ap, dRange1_ap, dCons_ap, dC_ap, dNil_ap, Res.bind_ok, kCons1_ap, kCons2_ap, hr, wipeW, List.set_cons_succ, List.set_cons_zero]
  rw [e]
  simp -implicitDefEqProofs only [Res.then_ok, kAsg_n, List.set_cons_succ, List.set_cons_zero]
theorem Z1b5_ok {b0 b1 b4 b6 b7 b8 b9 : Option W} {ks : List Str} {q : Nat} (hl : ks.length = 3) (hks : ∀ k ∈ ks, k ∈ c_KINDS) (hq : S[q]? = some (.lst (ks.map W.str))) (hpq : p ≠ q) (P : PotA p n S) (hn : n + 3000 ≤ 1000000) (hN : S[N]? = some (.lst nl)) (hpN : p ≠ N) (h6 : nl.length = 6) (hnl : ∀ w ∈ nl, NM w) :
    ∃ (c6 : Option W) (T : Store), Z1b5 [b0, b1, some (.loc p), some (.loc N), b4, some (.loc q), b6, b7, b8, b9] S = .go .nx [b0, b1, some (.loc p), some (.loc N), b4, some (.loc q), c6, b7, b8, b9] T ∧ PotA p (n + 1800) T ∧ Kp p S T := by
  have hi := itOf_loc hq
  obtain ⟨env', T, e, ⟨c6, rfl⟩, P1, K1⟩ := forW_ok (chk := (ItW.mk (ks.map W.str) (some q)).Chk) (t := tName 6) (b := Z1b5b)
    (fun i env T => (∃ c6, env = [b0, b1, some (.loc p), some (.loc N), b4, some (.loc q), c6, b7, b8, b9]) ∧ PotA p (n + 600 * i) T ∧ Kp p S T) (fun _ _ T h => by
      show T[q]? = _
      rw [h.2.2.keep _ (Ne.symm hpq)]; exact hq) (ks.map W.str) 0 [b0, b1, some (.loc p), some (.loc N), b4, some (.loc q), b6, b7, b8, b9] S
    (fun i w env T hw hI => by
      obtain ⟨⟨c6, rfl⟩, PT, KT⟩ := hI
      have hlt : i < 3 := by have := (List.getElem?_eq_some_iff.mp hw).1; rw [List.length_map, hl] at this; exact this
      obtain ⟨k, hk, rfl⟩ := List.mem_map.mp (List.mem_of_getElem? hw)
      obtain ⟨T', e, P', K'⟩ := Z1b5b_ok (b0 := b0) (b1 := b1) (b4 := b4) (b5 := some (.loc q)) (b7 := b7) (b8 := b8) (b9 := b9) (hks k hk) PT (by omega) (by rw [KT.keep _ (Ne.symm hpN)]; exact hN) hpN h6 hnl
      exact ⟨_, _, _, _, rfl, e, ⟨_, rfl⟩, P'.mono (by omega), KT.trans K'⟩) ⟨⟨b6, rfl⟩, by simpa using P, .refl⟩
  rw [List.length_map, hl] at P1
  refine ⟨c6, T, ?_, P1, K1⟩
  unfold Z1b5
  rw [sFor_ap]
  simp -implicitDefEqProofs only [dIt_ap, dVar_ap, List.getElem?_cons_zero, List.getElem?_cons_succ, Res.bind_ok, hi, Res.then_ok, kFor]
  exact e
theorem Z1b_ok {ns : List Int} {j : Nat} {c2 c3 c4 c5 c6 c7 c8 : Option W} (hl : ns.length ≤ 63) (hj : j ≤ 63) :
    ∃ (d2 d3 d4 d5 d6 d7 d8 : Option W) (T : Store), Z1b [some (.fro (ns.map W.int)), some (.int (0 + (j : Nat))), c2, c3, c4, c5, c6, c7, c8, none] S = .go .nx [some (.fro (ns.map W.int)), some (.int (0 + (j : Nat))), d2, d3, d4, d5, d6, d7, d8, none] T := by
  obtain ⟨s1, e1, P1, l1⟩ := pot_ok (st := S) (i := 0 + (j : Nat)) hl (by omega) (by omega)
  obtain ⟨p, hp⟩ : ∃ p, p = S.length := ⟨_, rfl⟩
  rw [← hp] at e1 P1
  obtain ⟨nl, s2', e2, h6, hnl, P2', K2⟩ := names_ok P1 (by omega)
  obtain ⟨N, hN⟩ : ∃ N, N = s1.length := ⟨_, rfl⟩
  obtain ⟨s2, hs2⟩ : ∃ s2, s2 = s2' ++ [Ob.lst nl] := ⟨_, rfl⟩
  rw [← hN, ← hs2] at e2
  have hpN : p ≠ N := by omega
  have N2 : s2[N]? = some (.lst nl) := by rw [hs2, hN, ← K2.len]; simp
  have P2 : PotA p (0 + 250) s2 := by rw [hs2]; exact P2'.app _
  have l2 : s2.length = N + 1 := by rw [hs2, hN, ← K2.len]; simp
  obtain ⟨s3, hs3⟩ : ∃ s3, s3 = s2 ++ [Ob.lst KL] := ⟨_, rfl⟩
  have e3 := kinds_ok (st := s2)
  rw [← hs3] at e3
  have P3 : PotA p (0 + 250) s3 := by rw [hs3]; exact P2.app _
  have N3 : s3[N]? = some (.lst nl) := by rw [hs3]; exact get_app _ N2
  have q3 : s3[s2.length]? = some (.lst KL) := by rw [hs3]; simp
  obtain ⟨ks, s4', e4, hk3, hks, P4', K4⟩ := Z1b4_ok (b0 := some (.fro (ns.map W.int))) (b1 := some (.int (0 + (j : Nat)))) (b3 := some (.loc N)) (b5 := c5) (b6 := c6) (b7 := c7) (b8 := c8) P3 (by omega) q3 (by omega)
  obtain ⟨s4, hs4⟩ : ∃ s4, s4 = s4' ++ [Ob.lst (ks.map W.str)] := ⟨_, rfl⟩
  rw [← hs4] at e4
  have P4 : PotA p (0 + 250 + 3) s4 := by rw [hs4]; exact P4'.app _
  have q4 : s4[s3.length]? = some (.lst (ks.map W.str)) := by rw [hs4, ← K4.len]; simp
  have N4 : s4[N]? = some (.lst nl) := by rw [hs4]; refine get_app _ ?_; rw [K4.keep _ (Ne.symm hpN)]; exact N3
  have l3 : s3.length = N + 2 := by rw [hs3]; simp [l2]
  obtain ⟨d6, s5, e5, P5, K5⟩ := Z1b5_ok (b0 := some (.fro (ns.map W.int))) (b1 := some (.int (0 + (j : Nat)))) (b4 := some (.loc s2.length)) (b6 := c6) (b7 := c7) (b8 := c8) (b9 := none) hk3 hks q4 (by omega) P4 (by omega) N4 hpN h6 hnl
  obtain ⟨⟨w, u, s6', g, e6, pic6, hb, P6', K6, hd⟩⟩ := oddk_draw P5 (by omega)
  obtain ⟨s6, hs6⟩ : ∃ s6, s6 = s6' ++ g := ⟨_, rfl⟩
  rw [← hs6] at e6 pic6
  have P6 : PotA p (0 + 250 + 3 + 1800 + 1) s6 := by rw [hs6]; exact P6'.app _
  have N6 : s6[N]? = some (.lst nl) := by rw [hs6]; refine get_app _ ?_; rw [K6.keep _ (Ne.symm hpN), K5.keep _ (Ne.symm hpN)]; exact N4
  have q6 : s6[s3.length]? = some (.lst (ks.map W.str)) := by rw [hs6]; refine get_app _ ?_; rw [K6.keep _ (by omega), K5.keep _ (by omega)]; exact q4
  obtain ⟨k0, hk0, ix0⟩ : ∃ k, k ∈ c_KINDS ∧ ixW (.loc s3.length) (.int 0) s6 = .ok (.str k) s6 := by
    obtain ⟨v, hv, _, ix⟩ := ix_mem (st := s6) (a := .loc s3.length) (ws := ks.map W.str) (i := 0) (seq_loc q6) (by decide) (by simp [hk3])
    obtain ⟨k, hk, rfl⟩ := List.mem_map.mp hv
    exact ⟨k, hks k hk, ix⟩
  obtain ⟨d, s7, e7, dd, pd, P7, K7, _⟩ := data_ok hk0 P6 N6 hpN h6 hnl (by omega)
  have hplt := P5.lt
  have pic7 : Pic s7 w u := by
    cases pic6 with
    | pu _ h => exact .pu _ h
    | ls k ws h hl' hw =>
      refine .ls k ws ?_ hl' hw
      rw [K7.keep _ ?_]; exact h
      rcases hd with ⟨_, h2⟩ | ⟨vs, _, h2, _⟩
      · exact nomatch (show false = true from h2)
      · cases h2; omega
  have kd := kindG (pic_gd pic7).1
  rw [(pic_gd pic7).2, hb] at kd
  have sf : d__law_same 8 [.bl false, .bl false] s7 = .ok (.bl true) s7 := same_bl (n := 7) (a := false) (b := false)
  obtain ⟨G8, c8e⟩ := cmp_ok (args := dCons (dC (.int 0)) (dCons (dVar 7) (dCons (dVar 8) (dCons (dVar 8) dNil)))) (env := [some (.fro (ns.map W.int)), some (.int (0 + (j : Nat))), some (.loc p), some (.loc N), some (.loc s2.length), some (.loc s3.length), d6, some w, some d, none]) (way := 0) (x := d) (y := d) pic7 hb (.inl rfl) rfl rfl
  have pic8 := pic7.app G8
  obtain ⟨G9, c9e⟩ := cmp_ok (args := dCons (dC (.int 1)) (dCons (dVar 7) (dCons (dVar 8) (dCons (dVar 8) dNil)))) (env := [some (.fro (ns.map W.int)), some (.int (0 + (j : Nat))), some (.loc p), some (.loc N), some (.loc s2.length), some (.loc s3.length), d6, some w, some d, none]) (way := 1) (x := d) (y := d) pic8 hb (.inr rfl) rfl rfl
  have pic9 := pic8.app G9
  obtain ⟨G10, c10e⟩ := cmp_ok (args := dCons (dC (.int 0)) (dCons (dVar 7) (dCons (dC .non) (dCons (dC .non) dNil)))) (env := [some (.fro (ns.map W.int)), some (.int (0 + (j : Nat))), some (.loc p), some (.loc N), some (.loc s2.length), some (.loc s3.length), d6, some w, some d, none]) (way := 0) (x := .non) (y := .non) pic9 hb (.inl rfl) rfl rfl
  have c0 : ∀ (den : List W → Store → Res W) (st : Store), kCall 0 den [] st = den [] st := fun _ _ => rfl
  refine ⟨some (.loc p), some (.loc N), some (.loc s2.length), some (.loc s3.length), d6, some w, some d, s7 ++ G8 ++ G9 ++ G10, ?_⟩
  unfold Z1b
  refine seq_go (env' := [some (.fro (ns.map W.int)), some (.int (0 + (j : Nat))), some (.loc p), c3, c4, c5, c6, c7, c8, none]) (st' := s1) ?_ (seq_go (env' := [some (.fro (ns.map W.int)), some (.int (0 + (j : Nat))), some (.loc p), some (.loc N), c4, c5, c6, c7, c8, none]) (st' := s2) ?_ (seq_go (env' := [some (.fro (ns.map W.int)), some (.int (0 + (j : Nat))), some (.loc p), some (.loc N), some (.loc s2.length), c5, c6, c7, c8, none]) (st' := s3) ?_ (seq_go e4 (seq_go e5 (seq_go (env' := [some (.fro (ns.map W.int)), some (.int (0 + (j : Nat))), some (.loc p), some (.loc N), some (.loc s2.length), some (.loc s3.length), d6, some w, c8, none]) (st' := s6) ?_ (seq_go (env' := [some (.fro (ns.map W.int)), some (.int (0 + (j : Nat))), some (.loc p), some (.loc N), some (.loc s2.length), some (.loc s3.length), d6, some w, some d, none]) (st' := s7) ?_ (seq_go (if_f (c := Z1b8c) (a := Z1b8a) (st' := s7 ++ G8) ?_) (if_f (c := Z1b9c) (a := Z1b9a) (st' := s7 ++ G8 ++ G9 ++ G10) ?_))))))))
  · unfold Z1b1
    simp -implicitDefEqProofs only [sAsg_ap, dCall_ap, dCons_ap, dVar_ap, dNil_ap, List.getElem?_cons_zero, List.getElem?_cons_succ, Res.bind_ok, kCons1_ap, kCons2_ap, kCall_2, e1, Res.then_ok, kAsg_n, List.set_cons_succ, List.set_cons_zero]
  · unfold Z1b2
    simp -implicitDefEqProofs only [sAsg_ap, dCall_ap, dCons_ap, dVar_ap, dNil_ap, List.getElem?_cons_zero, List.getElem?_cons_succ, Res.bind_ok, kCons1_ap, kCons2_ap, kCall_1, e2, Res.then_ok, kAsg_n, List.set_cons_succ, List.set_cons_zero]
  · unfold Z1b3
    simp -implicitDefEqProofs only [sAsg_ap, dCall_ap, dNil_ap, Res.bind_ok, c0, e3, Res.then_ok, kAsg_n, List.set_cons_succ, List.set_cons_zero]
  · unfold Z1b6
    simp -implicitDefEqProofs only [sAsg_ap, dCall_ap, dCons_ap, dVar_ap, dNil_ap, List.getElem?_cons_zero, List.getElem?_cons_succ, Res.bind_ok, kCons1_ap, kCons2_ap, kCall_1, e6, Res.then_ok, kAsg_n, List.set_cons_succ, List.set_cons_zero]
  · unfold Z1b7
    simp -implicitDefEqProofs only [sAsg_ap, dCall_ap, dCons_ap, dVar_ap, dOp_ap, dC_ap, dNil_ap, List.getElem?_cons_zero, List.getElem?_cons_succ, Res.bind_ok, kOp1_ap, ix0, kCons1_ap, kCons2_ap, kCall_3, e7, Res.then_ok, kAsg_n, List.set_cons_succ, List.set_cons_zero]
  · unfold Z1b8c
    rw [dOr_ap]
    have h1 : dNot (dBool (dCall 2 (d__law_same 8) (dCons (dCall 1 d_is_kind (dCons (dVar 7) dNil)) (dCons (dC (.bl false)) dNil)))) [some (.fro (ns.map W.int)), some (.int (0 + (j : Nat))), some (.loc p), some (.loc N), some (.loc s2.length), some (.loc s3.length), d6, some w, some d, none] s7 = .ok false s7 := by
      simp -implicitDefEqProofs only [dNot_ap, dBool_ap, dCall_ap, dCons_ap, dVar_ap, dC_ap, dNil_ap, List.getElem?_cons_zero, List.getElem?_cons_succ, Res.bind_ok, kCons1_ap, kCons2_ap, kCall_1, kCall_2, kd, sf, kBool_ap, kNot_ap, Bool.not_true]
    rw [h1, Res.bind_ok, kOr_f]
    exact c8e
  · unfold Z1b9c
    rw [dOr_ap, c9e, Res.bind_ok, kOr_f]
    exact c10e
end
theorem law_true (ns : List Int) (hl : ns.length ≤ 63) (hb : ∀ z ∈ ns, Builtin.Int.intBits z ≤ 1048576) : d_law [.fro (ns.map W.int)] [] = .ok (.bl true) [] := by
  have hlen : lenW [.fro (ns.map W.int)] [] = .ok (.int (ns.length : Int)) [] := by rw [len_seq (ws := ns.map W.int) rfl]; simp
  obtain ⟨m, hm, m0, m1⟩ : ∃ m : Int, (if (ns.length : Int) < 4 then (ns.length : Int) else 4) = m ∧ 0 ≤ m ∧ m ≤ 4 := by
    by_cases z : (ns.length : Int) < 4
    · exact ⟨ns.length, if_pos z, by omega, by omega⟩
    · exact ⟨4, if_neg z, by decide, by decide⟩
  obtain ⟨q, hq, q0, q1⟩ : ∃ q : Int, (if m > 1 then m else 1) = q ∧ 0 ≤ q ∧ q ≤ 4 := by
    by_cases z : m > 1
    · exact ⟨m, if_pos z, by omega, by omega⟩
    · exact ⟨1, if_neg z, by decide, by decide⟩
  have hmin : minW [.int 4, .int (ns.length : Int)] [] = .ok (.int m) [] := by rw [minW_i, hm]
  have hmax : maxW [.int 1, .int m] [] = .ok (.int q) [] := by rw [maxW_i, hq]
  have hr := kR1_ok (st := []) (j := q) (Int.le_trans (by decide) q0) (Int.lt_of_le_of_lt q1 (by decide))
  obtain ⟨env', S', e, c1, c2, c3, c4, c5, c6, c7, c8, rfl⟩ := forW_ok (chk := (ItW.mk (intsW 0 q.toNat) none).Chk) (t := tName 1) (b := Z1b)
    (fun i env S => ∃ c1 c2 c3 c4 c5 c6 c7 c8, env = [some (.fro (ns.map W.int)), c1, c2, c3, c4, c5, c6, c7, c8, none]) (fun _ _ _ _ => by simp) (intsW 0 q.toNat) 0 [some (.fro (ns.map W.int)), none, none, none, none, none, none, none, none, none] []
    (fun j w env S hw hI => by
      obtain ⟨c1, c2, c3, c4, c5, c6, c7, c8, rfl⟩ := hI
      have hj : j < q.toNat := by have := (List.getElem?_eq_some_iff.mp hw).1; rw [ints_len] at this; exact this
      have ew : w = .int (0 + (j : Nat)) := by
        unfold intsW at hw
        rw [List.getElem?_map, List.getElem?_range hj] at hw
        simpa using hw.symm
      subst ew
      obtain ⟨d2, d3, d4, d5, d6, d7, d8, T, e⟩ := Z1b_ok (S := S) (ns := ns) (j := j) (c2 := c2) (c3 := c3) (c4 := c4) (c5 := c5) (c6 := c6) (c7 := c7) (c8 := c8) hl (by omega)
      exact ⟨_, _, _, _, rfl, e, _, _, _, _, _, _, _, _, rfl⟩) ⟨none, none, none, none, none, none, none, none, rfl⟩
  have hg : gc [] (.bl true) S' = .ok (.bl true) [] := by
    have := gcx_ok (p := 0) (st := []) (st' := S') (v := .bl true) ⟨Nat.zero_le _, fun i hi _ => absurd hi (Nat.not_lt_zero _)⟩ (fun o hp _ => absurd hp (Nat.not_lt_zero _)) rfl
    exact this
  have e1 : Z1 [some (.fro (ns.map W.int)), none, none, none, none, none, none, none, none, none] [] = .go .nx [some (.fro (ns.map W.int)), c1, c2, c3, c4, c5, c6, c7, c8, none] S' := by
    unfold Z1
    rw [sFor_ap]
    simp -implicitDefEqProofs only [dRange1_ap, dCons_ap, dApp_ap, dC_ap, dVar_ap, List.getElem?_cons_zero, dNil_ap, Res.bind_ok, kCons1_ap, kCons2_ap, hlen, hmin, hmax, hr, Res.then_ok, kFor]
    exact e
  have e2 : Z2 [some (.fro (ns.map W.int)), c1, c2, c3, c4, c5, c6, c7, c8, none] S' = .go (.rt (.bl true)) [some (.fro (ns.map W.int)), c1, c2, c3, c4, c5, c6, c7, c8, none] S' := by
    unfold Z2
    simp -implicitDefEqProofs only [sRet_ap, dC_ap, Res.then_ok, kRet_ap]
  have body : (sSeq Z1 Z2) [some (.fro (ns.map W.int)), none, none, none, none, none, none, none, none, none] [] = .go (.rt (.bl true)) [some (.fro (ns.map W.int)), c1, c2, c3, c4, c5, c6, c7, c8, none] S' := seq_go e1 e2
  unfold d_law; rw [fnDen_ap, Z_eq]
  show fnR [] ((sSeq Z1 Z2) [some (.fro (ns.map W.int)), none, none, none, none, none, none, none, none, none] []) = _
  rw [body, fnR_rt, hg]
end
end K04
namespace K04
open PySem PySem.Spec PyProof.Rows L2 MP
noncomputable section
theorem all_mk {P : Program} {w : World} {K : PySem.W.Frag} {h : Heap} {mg : Str → Option Value} {fa : Addr} (X : K.In h) (G : h.Ns mainGlobals mg) (hfa : mg "law" = some (.ref fa))
    {fd0 : Addr} {odd0 and0 : Option Addr} {sld0 : Array (Option Value)} {ocd0 kVd0 dcd0 pmd0 cdd0 ctd0 : Value}
    {fd1 : Addr} {odd1 and1 : Option Addr} {sld1 : Array (Option Value)} {ocd1 kVd1 dcd1 pmd1 cdd1 ctd1 : Value}
    {fd2 : Addr} {odd2 and2 : Option Addr} {sld2 : Array (Option Value)} {ocd2 kVd2 dcd2 pmd2 cdd2 ctd2 : Value}
    {fd3 : Addr} {odd3 and3 : Option Addr} {sld3 : Array (Option Value)} {ocd3 kVd3 dcd3 pmd3 cdd3 ctd3 : Value}
    {fd4 : Addr} {odd4 and4 : Option Addr} {sld4 : Array (Option Value)} {ocd4 kVd4 dcd4 pmd4 cdd4 ctd4 : Value}
    {fd5 : Addr} {odd5 and5 : Option Addr} {sld5 : Array (Option Value)} {ocd5 kVd5 dcd5 pmd5 cdd5 ctd5 : Value}
    {fd6 : Addr} {odd6 and6 : Option Addr} {sld6 : Array (Option Value)} {ocd6 kVd6 dcd6 pmd6 cdd6 ctd6 : Value}
    {fd7 : Addr} {odd7 and7 : Option Addr} {sld7 : Array (Option Value)} {ocd7 kVd7 dcd7 pmd7 cdd7 ctd7 : Value}
    {fd8 : Addr} {odd8 and8 : Option Addr} {sld8 : Array (Option Value)} {ocd8 kVd8 dcd8 pmd8 cdd8 ctd8 : Value}
    {fd9 : Addr} {odd9 and9 : Option Addr} {sld9 : Array (Option Value)} {ocd9 kVd9 dcd9 pmd9 cdd9 ctd9 : Value}
    {fd10 : Addr} {odd10 and10 : Option Addr} {sld10 : Array (Option Value)} {ocd10 kVd10 dcd10 pmd10 cdd10 ctd10 : Value}
    {fd11 : Addr} {odd11 and11 : Option Addr} {sld11 : Array (Option Value)} {ocd11 kVd11 dcd11 pmd11 cdd11 ctd11 : Value}
    {fd12 : Addr} {odd12 and12 : Option Addr} {sld12 : Array (Option Value)} {ocd12 kVd12 dcd12 pmd12 cdd12 ctd12 : Value}
    {fd13 : Addr} {odd13 and13 : Option Addr} {sld13 : Array (Option Value)} {ocd13 kVd13 dcd13 pmd13 cdd13 ctd13 : Value}
    {fd14 : Addr} {odd14 and14 : Option Addr} {sld14 : Array (Option Value)} {ocd14 kVd14 dcd14 pmd14 cdd14 ctd14 : Value}
    {fd15 : Addr} {odd15 and15 : Option Addr} {sld15 : Array (Option Value)} {ocd15 kVd15 dcd15 pmd15 cdd15 ctd15 : Value}
    {fd16 : Addr} {odd16 and16 : Option Addr} {sld16 : Array (Option Value)} {ocd16 kVd16 dcd16 pmd16 cdd16 ctd16 : Value}
    {fd17 : Addr} {odd17 and17 : Option Addr} {sld17 : Array (Option Value)} {ocd17 kVd17 dcd17 pmd17 cdd17 ctd17 : Value}
    {fd18 : Addr} {odd18 and18 : Option Addr} {sld18 : Array (Option Value)} {ocd18 kVd18 dcd18 pmd18 cdd18 ctd18 : Value}
    {fd19 : Addr} {odd19 and19 : Option Addr} {sld19 : Array (Option Value)} {ocd19 kVd19 dcd19 pmd19 cdd19 ctd19 : Value}
    {fd20 : Addr} {odd20 and20 : Option Addr} {sld20 : Array (Option Value)} {ocd20 kVd20 dcd20 pmd20 cdd20 ctd20 : Value}
    {fd21 : Addr} {odd21 and21 : Option Addr} {sld21 : Array (Option Value)} {ocd21 kVd21 dcd21 pmd21 cdd21 ctd21 : Value}
    {fd22 : Addr} {odd22 and22 : Option Addr} {sld22 : Array (Option Value)} {ocd22 kVd22 dcd22 pmd22 cdd22 ctd22 : Value}
    {fd23 : Addr} {odd23 and23 : Option Addr} {sld23 : Array (Option Value)} {ocd23 kVd23 dcd23 pmd23 cdd23 ctd23 : Value}
    {fd24 : Addr} {odd24 and24 : Option Addr} {sld24 : Array (Option Value)} {ocd24 kVd24 dcd24 pmd24 cdd24 ctd24 : Value}
    {fd25 : Addr} {odd25 and25 : Option Addr} {sld25 : Array (Option Value)} {ocd25 kVd25 dcd25 pmd25 cdd25 ctd25 : Value}
    {fd26 : Addr} {odd26 and26 : Option Addr} {sld26 : Array (Option Value)} {ocd26 kVd26 dcd26 pmd26 cdd26 ctd26 : Value}
    {fd27 : Addr} {odd27 and27 : Option Addr} {sld27 : Array (Option Value)} {ocd27 kVd27 dcd27 pmd27 cdd27 ctd27 : Value}
    {fd28 : Addr} {odd28 and28 : Option Addr} {sld28 : Array (Option Value)} {ocd28 kVd28 dcd28 pmd28 cdd28 ctd28 : Value}
    {fd29 : Addr} {odd29 and29 : Option Addr} {sld29 : Array (Option Value)} {ocd29 kVd29 dcd29 pmd29 cdd29 ctd29 : Value}
    {fd30 : Addr} {odd30 and30 : Option Addr} {sld30 : Array (Option Value)} {ocd30 kVd30 dcd30 pmd30 cdd30 ctd30 : Value}
    {fd31 : Addr} {odd31 and31 : Option Addr} {sld31 : Array (Option Value)} {ocd31 kVd31 dcd31 pmd31 cdd31 ctd31 : Value}
    {fd32 : Addr} {odd32 and32 : Option Addr} {sld32 : Array (Option Value)} {ocd32 kVd32 dcd32 pmd32 cdd32 ctd32 : Value}
    {fd33 : Addr} {odd33 and33 : Option Addr} {sld33 : Array (Option Value)} {ocd33 kVd33 dcd33 pmd33 cdd33 ctd33 : Value}
    {fd34 : Addr} {odd34 and34 : Option Addr} {sld34 : Array (Option Value)} {ocd34 kVd34 dcd34 pmd34 cdd34 ctd34 : Value}
    {fd35 : Addr} {odd35 and35 : Option Addr} {sld35 : Array (Option Value)} {ocd35 kVd35 dcd35 pmd35 cdd35 ctd35 : Value}
    {fd36 : Addr} {odd36 and36 : Option Addr} {sld36 : Array (Option Value)} {ocd36 kVd36 dcd36 pmd36 cdd36 ctd36 : Value}
    {fd37 : Addr} {odd37 and37 : Option Addr} {sld37 : Array (Option Value)} {ocd37 kVd37 dcd37 pmd37 cdd37 ctd37 : Value}
    {fd38 : Addr} {odd38 and38 : Option Addr} {sld38 : Array (Option Value)} {ocd38 kVd38 dcd38 pmd38 cdd38 ctd38 : Value}
    {fI : Addr}
    {C0 : Addr}
    {C1 : Addr}
    {odI anI : Option Addr} {slI : Array (Option Value)} {ocI kVI dcI pmI cdI ctI : Value}
    {nmC0 : _} {qC0 : _} {NC0 : _} {bsC0 : _} {bmC0 : _} {snC0 : _} {subC0 : _} {abC0 : _} {colC0 : _} {ddC0 : _} {k0C0 : _} {k1C0 : _} {k2C0 : _} {k3C0 : _} {k5C0 : _}
    {nmC1 : _} {qC1 : _} {NC1 : _} {bsC1 : _} {bmC1 : _} {snC1 : _} {subC1 : _} {abC1 : _} {colC1 : _} {ddC1 : _} {k0C1 : _} {k1C1 : _} {k2C1 : _} {k3C1 : _} {k5C1 : _}
    {tK_WILD : Tok}
    {tK_LONGEST : Tok}
    {tK_ENDS : Tok}
    {tK_INNER : Tok}
    {tK_KINDS : Addr} {ddK_KINDS : Option Addr} {nK_KINDS : Nat} {slK_KINDS : Array (Option Value)} {tK_KINDS_0 : Tok} {tK_KINDS_1 : Tok} {tK_KINDS_2 : Tok} {tK_KINDS_3 : Tok} {tK_KINDS_4 : Tok} {tK_KINDS_5 : Tok} {tK_KINDS_6 : Tok} {tK_KINDS_7 : Tok}
    {tK_NAMING : Addr} {ddK_NAMING : Option Addr} {nK_NAMING : Nat} {slK_NAMING : Array (Option Value)} {tK_NAMING_0 : Tok} {tK_NAMING_1 : Tok} {tK_NAMING_2 : Tok} {tK_NAMING_3 : Tok}
    {tK_MOST_AGE : Tok}
    {tK_MOST_SERIAL : Tok}
    {tK_MOST_RANK : Tok}
    {tK_LONGEST_TEXT : Tok}
    {tK_PERCENT : Tok}
    (ad0 : PySem.W.nsIn K mainGlobals "place" = some (some (.ref fd0)))
    (ld0 : K.lookup fd0 = some ⟨ocd0, odd0, .func (PySem.W.fnOf "place" "place" (defArgs (top 4)) (defBody (top 4)) (defScope (top 4)) .none kVd0 dcd0 pmd0 and0 cdd0 ctd0), sld0⟩)
    (cd0 : PySem.W.codeIn K cdd0 "place" = true)
    (kd0 : PySem.W.keepIn K (.ref fd0) = true)
    (ad1 : PySem.W.nsIn K mainGlobals "is_whole" = some (some (.ref fd1)))
    (ld1 : K.lookup fd1 = some ⟨ocd1, odd1, .func (PySem.W.fnOf "is_whole" "is_whole" (defArgs (top 6)) (defBody (top 6)) (defScope (top 6)) .none kVd1 dcd1 pmd1 and1 cdd1 ctd1), sld1⟩)
    (cd1 : PySem.W.codeIn K cdd1 "is_whole" = true)
    (kd1 : PySem.W.keepIn K (.ref fd1) = true)
    (ad2 : PySem.W.nsIn K mainGlobals "is_between" = some (some (.ref fd2)))
    (ld2 : K.lookup fd2 = some ⟨ocd2, odd2, .func (PySem.W.fnOf "is_between" "is_between" (defArgs (top 7)) (defBody (top 7)) (defScope (top 7)) .none kVd2 dcd2 pmd2 and2 cdd2 ctd2), sld2⟩)
    (cd2 : PySem.W.codeIn K cdd2 "is_between" = true)
    (kd2 : PySem.W.keepIn K (.ref fd2) = true)
    (ad3 : PySem.W.nsIn K mainGlobals "rebuilt" = some (some (.ref fd3)))
    (ld3 : K.lookup fd3 = some ⟨ocd3, odd3, .func (PySem.W.fnOf "rebuilt" "rebuilt" (defArgs (top 8)) (defBody (top 8)) (defScope (top 8)) .none kVd3 dcd3 pmd3 and3 cdd3 ctd3), sld3⟩)
    (cd3 : PySem.W.codeIn K cdd3 "rebuilt" = true)
    (kd3 : PySem.W.keepIn K (.ref fd3) = true)
    (ad4 : PySem.W.nsIn K mainGlobals "_is_plain" = some (some (.ref fd4)))
    (ld4 : K.lookup fd4 = some ⟨ocd4, odd4, .func (PySem.W.fnOf "_is_plain" "_is_plain" (defArgs (top 14)) (defBody (top 14)) (defScope (top 14)) .none kVd4 dcd4 pmd4 and4 cdd4 ctd4), sld4⟩)
    (cd4 : PySem.W.codeIn K cdd4 "_is_plain" = true)
    (kd4 : PySem.W.keepIn K (.ref fd4) = true)
    (ad5 : PySem.W.nsIn K mainGlobals "is_name" = some (some (.ref fd5)))
    (ld5 : K.lookup fd5 = some ⟨ocd5, odd5, .func (PySem.W.fnOf "is_name" "is_name" (defArgs (top 15)) (defBody (top 15)) (defScope (top 15)) .none kVd5 dcd5 pmd5 and5 cdd5 ctd5), sld5⟩)
    (cd5 : PySem.W.codeIn K cdd5 "is_name" = true)
    (kd5 : PySem.W.keepIn K (.ref fd5) = true)
    (ad6 : PySem.W.nsIn K mainGlobals "is_asked" = some (some (.ref fd6)))
    (ld6 : K.lookup fd6 = some ⟨ocd6, odd6, .func (PySem.W.fnOf "is_asked" "is_asked" (defArgs (top 16)) (defBody (top 16)) (defScope (top 16)) .none kVd6 dcd6 pmd6 and6 cdd6 ctd6), sld6⟩)
    (cd6 : PySem.W.codeIn K cdd6 "is_asked" = true)
    (kd6 : PySem.W.keepIn K (.ref fd6) = true)
    (ad7 : PySem.W.nsIn K mainGlobals "is_kind" = some (some (.ref fd7)))
    (ld7 : K.lookup fd7 = some ⟨ocd7, odd7, .func (PySem.W.fnOf "is_kind" "is_kind" (defArgs (top 25)) (defBody (top 25)) (defScope (top 25)) .none kVd7 dcd7 pmd7 and7 cdd7 ctd7), sld7⟩)
    (cd7 : PySem.W.codeIn K cdd7 "is_kind" = true)
    (kd7 : PySem.W.keepIn K (.ref fd7) = true)
    (ad8 : PySem.W.nsIn K mainGlobals "check_kind" = some (some (.ref fd8)))
    (ld8 : K.lookup fd8 = some ⟨ocd8, odd8, .func (PySem.W.fnOf "check_kind" "check_kind" (defArgs (top 26)) (defBody (top 26)) (defScope (top 26)) .none kVd8 dcd8 pmd8 and8 cdd8 ctd8), sld8⟩)
    (cd8 : PySem.W.codeIn K cdd8 "check_kind" = true)
    (kd8 : PySem.W.keepIn K (.ref fd8) = true)
    (ad9 : PySem.W.nsIn K mainGlobals "is_data" = some (some (.ref fd9)))
    (ld9 : K.lookup fd9 = some ⟨ocd9, odd9, .func (PySem.W.fnOf "is_data" "is_data" (defArgs (top 27)) (defBody (top 27)) (defScope (top 27)) .none kVd9 dcd9 pmd9 and9 cdd9 ctd9), sld9⟩)
    (cd9 : PySem.W.codeIn K cdd9 "is_data" = true)
    (kd9 : PySem.W.keepIn K (.ref fd9) = true)
    (ad10 : PySem.W.nsIn K mainGlobals "_is_mail" = some (some (.ref fd10)))
    (ld10 : K.lookup fd10 = some ⟨ocd10, odd10, .func (PySem.W.fnOf "_is_mail" "_is_mail" (defArgs (top 28)) (defBody (top 28)) (defScope (top 28)) .none kVd10 dcd10 pmd10 and10 cdd10 ctd10), sld10⟩)
    (cd10 : PySem.W.codeIn K cdd10 "_is_mail" = true)
    (kd10 : PySem.W.keepIn K (.ref fd10) = true)
    (ad11 : PySem.W.nsIn K mainGlobals "_is_start" = some (some (.ref fd11)))
    (ld11 : K.lookup fd11 = some ⟨ocd11, odd11, .func (PySem.W.fnOf "_is_start" "_is_start" (defArgs (top 29)) (defBody (top 29)) (defScope (top 29)) .none kVd11 dcd11 pmd11 and11 cdd11 ctd11), sld11⟩)
    (cd11 : PySem.W.codeIn K cdd11 "_is_start" = true)
    (kd11 : PySem.W.keepIn K (.ref fd11) = true)
    (ad12 : PySem.W.nsIn K mainGlobals "_is_text" = some (some (.ref fd12)))
    (ld12 : K.lookup fd12 = some ⟨ocd12, odd12, .func (PySem.W.fnOf "_is_text" "_is_text" (defArgs (top 30)) (defBody (top 30)) (defScope (top 30)) .none kVd12 dcd12 pmd12 and12 cdd12 ctd12), sld12⟩)
    (cd12 : PySem.W.codeIn K cdd12 "_is_text" = true)
    (kd12 : PySem.W.keepIn K (.ref fd12) = true)
    (ad13 : PySem.W.nsIn K mainGlobals "is_record" = some (some (.ref fd13)))
    (ld13 : K.lookup fd13 = some ⟨ocd13, odd13, .func (PySem.W.fnOf "is_record" "is_record" (defArgs (top 31)) (defBody (top 31)) (defScope (top 31)) .none kVd13 dcd13 pmd13 and13 cdd13 ctd13), sld13⟩)
    (cd13 : PySem.W.codeIn K cdd13 "is_record" = true)
    (kd13 : PySem.W.keepIn K (.ref fd13) = true)
    (ad14 : PySem.W.nsIn K mainGlobals "data_compared" = some (some (.ref fd14)))
    (ld14 : K.lookup fd14 = some ⟨ocd14, odd14, .func (PySem.W.fnOf "data_compared" "data_compared" (defArgs (top 32)) (defBody (top 32)) (defScope (top 32)) .none kVd14 dcd14 pmd14 and14 cdd14 ctd14), sld14⟩)
    (cd14 : PySem.W.codeIn K cdd14 "data_compared" = true)
    (kd14 : PySem.W.keepIn K (.ref fd14) = true)
    (ad15 : PySem.W.nsIn K mainGlobals "data_place" = some (some (.ref fd15)))
    (ld15 : K.lookup fd15 = some ⟨ocd15, odd15, .func (PySem.W.fnOf "data_place" "data_place" (defArgs (top 33)) (defBody (top 33)) (defScope (top 33)) .none kVd15 dcd15 pmd15 and15 cdd15 ctd15), sld15⟩)
    (cd15 : PySem.W.codeIn K cdd15 "data_place" = true)
    (kd15 : PySem.W.keepIn K (.ref fd15) = true)
    (ad16 : PySem.W.nsIn K mainGlobals "_law_pot" = some (some (.ref fd16)))
    (ld16 : K.lookup fd16 = some ⟨ocd16, odd16, .func (PySem.W.fnOf "_law_pot" "_law_pot" (defArgs (top 35)) (defBody (top 35)) (defScope (top 35)) .none kVd16 dcd16 pmd16 and16 cdd16 ctd16), sld16⟩)
    (cd16 : PySem.W.codeIn K cdd16 "_law_pot" = true)
    (kd16 : PySem.W.keepIn K (.ref fd16) = true)
    (ad17 : PySem.W.nsIn K mainGlobals "_law_take" = some (some (.ref fd17)))
    (ld17 : K.lookup fd17 = some ⟨ocd17, odd17, .func (PySem.W.fnOf "_law_take" "_law_take" (defArgs (top 36)) (defBody (top 36)) (defScope (top 36)) .none kVd17 dcd17 pmd17 and17 cdd17 ctd17), sld17⟩)
    (cd17 : PySem.W.codeIn K cdd17 "_law_take" = true)
    (kd17 : PySem.W.keepIn K (.ref fd17) = true)
    (ad18 : PySem.W.nsIn K mainGlobals "_law_same" = some (some (.ref fd18)))
    (ld18 : K.lookup fd18 = some ⟨ocd18, odd18, .func (PySem.W.fnOf "_law_same" "_law_same" (defArgs (top 37)) (defBody (top 37)) (defScope (top 37)) .none kVd18 dcd18 pmd18 and18 cdd18 ctd18), sld18⟩)
    (cd18 : PySem.W.codeIn K cdd18 "_law_same" = true)
    (kd18 : PySem.W.keepIn K (.ref fd18) = true)
    (ad19 : PySem.W.nsIn K mainGlobals "_law_label" = some (some (.ref fd19)))
    (ld19 : K.lookup fd19 = some ⟨ocd19, odd19, .func (PySem.W.fnOf "_law_label" "_law_label" (defArgs (top 38)) (defBody (top 38)) (defScope (top 38)) .none kVd19 dcd19 pmd19 and19 cdd19 ctd19), sld19⟩)
    (cd19 : PySem.W.codeIn K cdd19 "_law_label" = true)
    (kd19 : PySem.W.keepIn K (.ref fd19) = true)
    (ad20 : PySem.W.nsIn K mainGlobals "_law_words" = some (some (.ref fd20)))
    (ld20 : K.lookup fd20 = some ⟨ocd20, odd20, .func (PySem.W.fnOf "_law_words" "_law_words" (defArgs (top 39)) (defBody (top 39)) (defScope (top 39)) .none kVd20 dcd20 pmd20 and20 cdd20 ctd20), sld20⟩)
    (cd20 : PySem.W.codeIn K cdd20 "_law_words" = true)
    (kd20 : PySem.W.keepIn K (.ref fd20) = true)
    (ad21 : PySem.W.nsIn K mainGlobals "_law_odd" = some (some (.ref fd21)))
    (ld21 : K.lookup fd21 = some ⟨ocd21, odd21, .func (PySem.W.fnOf "_law_odd" "_law_odd" (defArgs (top 40)) (defBody (top 40)) (defScope (top 40)) .none kVd21 dcd21 pmd21 and21 cdd21 ctd21), sld21⟩)
    (cd21 : PySem.W.codeIn K cdd21 "_law_odd" = true)
    (kd21 : PySem.W.keepIn K (.ref fd21) = true)
    (ad22 : PySem.W.nsIn K mainGlobals "_law_is_label" = some (some (.ref fd22)))
    (ld22 : K.lookup fd22 = some ⟨ocd22, odd22, .func (PySem.W.fnOf "_law_is_label" "_law_is_label" (defArgs (top 41)) (defBody (top 41)) (defScope (top 41)) .none kVd22 dcd22 pmd22 and22 cdd22 ctd22), sld22⟩)
    (cd22 : PySem.W.codeIn K cdd22 "_law_is_label" = true)
    (kd22 : PySem.W.keepIn K (.ref fd22) = true)
    (ad23 : PySem.W.nsIn K mainGlobals "_law_is_name" = some (some (.ref fd23)))
    (ld23 : K.lookup fd23 = some ⟨ocd23, odd23, .func (PySem.W.fnOf "_law_is_name" "_law_is_name" (defArgs (top 42)) (defBody (top 42)) (defScope (top 42)) .none kVd23 dcd23 pmd23 and23 cdd23 ctd23), sld23⟩)
    (cd23 : PySem.W.codeIn K cdd23 "_law_is_name" = true)
    (kd23 : PySem.W.keepIn K (.ref fd23) = true)
    (ad24 : PySem.W.nsIn K mainGlobals "_law_text" = some (some (.ref fd24)))
    (ld24 : K.lookup fd24 = some ⟨ocd24, odd24, .func (PySem.W.fnOf "_law_text" "_law_text" (defArgs (top 43)) (defBody (top 43)) (defScope (top 43)) .none kVd24 dcd24 pmd24 and24 cdd24 ctd24), sld24⟩)
    (cd24 : PySem.W.codeIn K cdd24 "_law_text" = true)
    (kd24 : PySem.W.keepIn K (.ref fd24) = true)
    (ad25 : PySem.W.nsIn K mainGlobals "_law_number" = some (some (.ref fd25)))
    (ld25 : K.lookup fd25 = some ⟨ocd25, odd25, .func (PySem.W.fnOf "_law_number" "_law_number" (defArgs (top 44)) (defBody (top 44)) (defScope (top 44)) .none kVd25 dcd25 pmd25 and25 cdd25 ctd25), sld25⟩)
    (cd25 : PySem.W.codeIn K cdd25 "_law_number" = true)
    (kd25 : PySem.W.keepIn K (.ref fd25) = true)
    (ad26 : PySem.W.nsIn K mainGlobals "_law_data" = some (some (.ref fd26)))
    (ld26 : K.lookup fd26 = some ⟨ocd26, odd26, .func (PySem.W.fnOf "_law_data" "_law_data" (defArgs (top 45)) (defBody (top 45)) (defScope (top 45)) .none kVd26 dcd26 pmd26 and26 cdd26 ctd26), sld26⟩)
    (cd26 : PySem.W.codeIn K cdd26 "_law_data" = true)
    (kd26 : PySem.W.keepIn K (.ref fd26) = true)
    (ad27 : PySem.W.nsIn K mainGlobals "_law_data_key" = some (some (.ref fd27)))
    (ld27 : K.lookup fd27 = some ⟨ocd27, odd27, .func (PySem.W.fnOf "_law_data_key" "_law_data_key" (defArgs (top 46)) (defBody (top 46)) (defScope (top 46)) .none kVd27 dcd27 pmd27 and27 cdd27 ctd27), sld27⟩)
    (cd27 : PySem.W.codeIn K cdd27 "_law_data_key" = true)
    (kd27 : PySem.W.keepIn K (.ref fd27) = true)
    (ad28 : PySem.W.nsIn K mainGlobals "_law_kinds" = some (some (.ref fd28)))
    (ld28 : K.lookup fd28 = some ⟨ocd28, odd28, .func (PySem.W.fnOf "_law_kinds" "_law_kinds" (defArgs (top 47)) (defBody (top 47)) (defScope (top 47)) .none kVd28 dcd28 pmd28 and28 cdd28 ctd28), sld28⟩)
    (cd28 : PySem.W.codeIn K cdd28 "_law_kinds" = true)
    (kd28 : PySem.W.keepIn K (.ref fd28) = true)
    (ad29 : PySem.W.nsIn K mainGlobals "_law_names" = some (some (.ref fd29)))
    (ld29 : K.lookup fd29 = some ⟨ocd29, odd29, .func (PySem.W.fnOf "_law_names" "_law_names" (defArgs (top 48)) (defBody (top 48)) (defScope (top 48)) .none kVd29 dcd29 pmd29 and29 cdd29 ctd29), sld29⟩)
    (cd29 : PySem.W.codeIn K cdd29 "_law_names" = true)
    (kd29 : PySem.W.keepIn K (.ref fd29) = true)
    (ad30 : PySem.W.nsIn K mainGlobals "_law_in" = some (some (.ref fd30)))
    (ld30 : K.lookup fd30 = some ⟨ocd30, odd30, .func (PySem.W.fnOf "_law_in" "_law_in" (defArgs (top 49)) (defBody (top 49)) (defScope (top 49)) .none kVd30 dcd30 pmd30 and30 cdd30 ctd30), sld30⟩)
    (cd30 : PySem.W.codeIn K cdd30 "_law_in" = true)
    (kd30 : PySem.W.keepIn K (.ref fd30) = true)
    (ad31 : PySem.W.nsIn K mainGlobals "_law_asked" = some (some (.ref fd31)))
    (ld31 : K.lookup fd31 = some ⟨ocd31, odd31, .func (PySem.W.fnOf "_law_asked" "_law_asked" (defArgs (top 50)) (defBody (top 50)) (defScope (top 50)) .none kVd31 dcd31 pmd31 and31 cdd31 ctd31), sld31⟩)
    (cd31 : PySem.W.codeIn K cdd31 "_law_asked" = true)
    (kd31 : PySem.W.keepIn K (.ref fd31) = true)
    (ad32 : PySem.W.nsIn K mainGlobals "_law_is_data" = some (some (.ref fd32)))
    (ld32 : K.lookup fd32 = some ⟨ocd32, odd32, .func (PySem.W.fnOf "_law_is_data" "_law_is_data" (defArgs (top 51)) (defBody (top 51)) (defScope (top 51)) .none kVd32 dcd32 pmd32 and32 cdd32 ctd32), sld32⟩)
    (cd32 : PySem.W.codeIn K cdd32 "_law_is_data" = true)
    (kd32 : PySem.W.keepIn K (.ref fd32) = true)
    (ad33 : PySem.W.nsIn K mainGlobals "_law_bent" = some (some (.ref fd33)))
    (ld33 : K.lookup fd33 = some ⟨ocd33, odd33, .func (PySem.W.fnOf "_law_bent" "_law_bent" (defArgs (top 52)) (defBody (top 52)) (defScope (top 52)) .none kVd33 dcd33 pmd33 and33 cdd33 ctd33), sld33⟩)
    (cd33 : PySem.W.codeIn K cdd33 "_law_bent" = true)
    (kd33 : PySem.W.keepIn K (.ref fd33) = true)
    (ad34 : PySem.W.nsIn K mainGlobals "_law_odd_kind" = some (some (.ref fd34)))
    (ld34 : K.lookup fd34 = some ⟨ocd34, odd34, .func (PySem.W.fnOf "_law_odd_kind" "_law_odd_kind" (defArgs (top 53)) (defBody (top 53)) (defScope (top 53)) .none kVd34 dcd34 pmd34 and34 cdd34 ctd34), sld34⟩)
    (cd34 : PySem.W.codeIn K cdd34 "_law_odd_kind" = true)
    (kd34 : PySem.W.keepIn K (.ref fd34) = true)
    (ad35 : PySem.W.nsIn K mainGlobals "_law_refused" = some (some (.ref fd35)))
    (ld35 : K.lookup fd35 = some ⟨ocd35, odd35, .func (PySem.W.fnOf "_law_refused" "_law_refused" (defArgs (top 54)) (defBody (top 54)) (defScope (top 54)) .none kVd35 dcd35 pmd35 and35 cdd35 ctd35), sld35⟩)
    (cd35 : PySem.W.codeIn K cdd35 "_law_refused" = true)
    (kd35 : PySem.W.keepIn K (.ref fd35) = true)
    (ad36 : PySem.W.nsIn K mainGlobals "_law_data_right" = some (some (.ref fd36)))
    (ld36 : K.lookup fd36 = some ⟨ocd36, odd36, .func (PySem.W.fnOf "_law_data_right" "_law_data_right" (defArgs (top 55)) (defBody (top 55)) (defScope (top 55)) .none kVd36 dcd36 pmd36 and36 cdd36 ctd36), sld36⟩)
    (cd36 : PySem.W.codeIn K cdd36 "_law_data_right" = true)
    (kd36 : PySem.W.keepIn K (.ref fd36) = true)
    (ad37 : PySem.W.nsIn K mainGlobals "_law_records_right" = some (some (.ref fd37)))
    (ld37 : K.lookup fd37 = some ⟨ocd37, odd37, .func (PySem.W.fnOf "_law_records_right" "_law_records_right" (defArgs (top 56)) (defBody (top 56)) (defScope (top 56)) .none kVd37 dcd37 pmd37 and37 cdd37 ctd37), sld37⟩)
    (cd37 : PySem.W.codeIn K cdd37 "_law_records_right" = true)
    (kd37 : PySem.W.keepIn K (.ref fd37) = true)
    (ad38 : PySem.W.nsIn K mainGlobals "law" = some (some (.ref fd38)))
    (ld38 : K.lookup fd38 = some ⟨ocd38, odd38, .func (PySem.W.fnOf "law" "law" (defArgs (top 57)) (defBody (top 57)) (defScope (top 57)) .none kVd38 dcd38 pmd38 and38 cdd38 ctd38), sld38⟩)
    (cd38 : PySem.W.codeIn K cdd38 "law" = true)
    (kd38 : PySem.W.keepIn K (.ref fd38) = true)
    (aC0 : PySem.W.nsIn K mainGlobals "TreeError" = some (some (.ref C0)))
    (iC0 : PySem.W.findIn K (.ref C0) "__init__" = some (some (.ref fI)))
    (aC1 : PySem.W.nsIn K mainGlobals "InvalidKind" = some (some (.ref C1)))
    (iC1 : PySem.W.findIn K (.ref C1) "__init__" = some (some (.ref fI)))
    (lI : K.lookup fI = some ⟨ocI, odI, .func (PySem.W.fnOf "__init__" "TreeError.__init__" (defArgs (inClass (top 1) 0)) (defBody (inClass (top 1) 0)) (defScope (inClass (top 1) 0)) .none kVI dcI pmI anI cdI ctI), slI⟩)
    (cI : PySem.W.codeIn K cdI "TreeError.__init__" = true)
    (kI : PySem.W.keepIn K (.ref fI) = true)
    (yI : PySem.W.typeIn K (.ref fI) = some (.type "function"))
    (eC0 : K.lookup C0 = some (excClassObj nmC0 qC0 C0 NC0 bsC0 bmC0 true snC0 subC0 abC0 colC0 ddC0 k0C0 k1C0 k2C0 k3C0 k5C0 "ValueError.__new__"))
    (rC0 : PySem.HandSPX.refsVE bmC0 = true)
    (sC0 : PySem.W.findIn K (.ref C0) "__setattr__" = some (some (.builtin "object.__setattr__")))
    (xC0 : PySem.W.subIn K (.ref C0) (.type "BaseException") = some true)
    (yC0 : PySem.W.typeIn K (.ref C0) = some (.type "type"))
    (kC0 : PySem.W.keepIn K (.ref C0) = true)
    (vC0 : PySem.W.findIn K (.ref C0) "value" = some none)
    (gC0 : PySem.W.findIn K (.ref C0) "__getattribute__" = some (some (.builtin "BaseException.__getattribute__")))
    (hC0 : PySem.W.findIn K (.ref C0) "__getattr__" = some none)
    (dC0 : PySem.W.hasDictIn K C0 = true)
    (eC1 : K.lookup C1 = some (excClassObj nmC1 qC1 C1 NC1 bsC1 bmC1 true snC1 subC1 abC1 colC1 ddC1 k0C1 k1C1 k2C1 k3C1 k5C1 "ValueError.__new__"))
    (rC1 : PySem.HandSPX.refsVE bmC1 = true)
    (sC1 : PySem.W.findIn K (.ref C1) "__setattr__" = some (some (.builtin "object.__setattr__")))
    (xC1 : PySem.W.subIn K (.ref C1) (.type "BaseException") = some true)
    (yC1 : PySem.W.typeIn K (.ref C1) = some (.type "type"))
    (kC1 : PySem.W.keepIn K (.ref C1) = true)
    (vC1 : PySem.W.findIn K (.ref C1) "value" = some none)
    (gC1 : PySem.W.findIn K (.ref C1) "__getattribute__" = some (some (.builtin "BaseException.__getattribute__")))
    (hC1 : PySem.W.findIn K (.ref C1) "__getattr__" = some none)
    (dC1 : PySem.W.hasDictIn K C1 = true)
    (aK_WILD : PySem.W.nsIn K mainGlobals "WILD" = some (some (.str c_WILD tK_WILD)))
    (aK_LONGEST : PySem.W.nsIn K mainGlobals "LONGEST" = some (some (.int 20 tK_LONGEST)))
    (aK_ENDS : PySem.W.nsIn K mainGlobals "ENDS" = some (some (.str c_ENDS tK_ENDS)))
    (aK_INNER : PySem.W.nsIn K mainGlobals "INNER" = some (some (.str c_INNER tK_INNER)))
    (aK_KINDS : PySem.W.nsIn K mainGlobals "KINDS" = some (some (.ref tK_KINDS)))
    (lK_KINDS : K.lookup tK_KINDS = some ⟨.type "tuple", ddK_KINDS, .seq #[.str "addr" tK_KINDS_0, .str "alias" tK_KINDS_1, .str "back" tK_KINDS_2, .str "mail" tK_KINDS_3, .str "server" tK_KINDS_4, .str "start" tK_KINDS_5, .str "text" tK_KINDS_6, .str "tree" tK_KINDS_7] nK_KINDS, slK_KINDS⟩)
    (aK_NAMING : PySem.W.nsIn K mainGlobals "NAMING" = some (some (.ref tK_NAMING)))
    (lK_NAMING : K.lookup tK_NAMING = some ⟨.type "tuple", ddK_NAMING, .seq #[.str "alias" tK_NAMING_0, .str "back" tK_NAMING_1, .str "server" tK_NAMING_2, .str "tree" tK_NAMING_3] nK_NAMING, slK_NAMING⟩)
    (aK_MOST_AGE : PySem.W.nsIn K mainGlobals "MOST_AGE" = some (some (.int 2147483647 tK_MOST_AGE)))
    (aK_MOST_SERIAL : PySem.W.nsIn K mainGlobals "MOST_SERIAL" = some (some (.int 4294967295 tK_MOST_SERIAL)))
    (aK_MOST_RANK : PySem.W.nsIn K mainGlobals "MOST_RANK" = some (some (.int 65535 tK_MOST_RANK)))
    (aK_LONGEST_TEXT : PySem.W.nsIn K mainGlobals "LONGEST_TEXT" = some (some (.int 60 tK_LONGEST_TEXT)))
    (aK_PERCENT : PySem.W.nsIn K mainGlobals "PERCENT" = some (some (.int 37 tK_PERCENT)))
    (n_abs : PySem.W.nsIn K mainGlobals "abs" = some none)
    (n_all : PySem.W.nsIn K mainGlobals "all" = some none)
    (n_bool : PySem.W.nsIn K mainGlobals "bool" = some none)
    (n_int : PySem.W.nsIn K mainGlobals "int" = some none)
    (n_isinstance : PySem.W.nsIn K mainGlobals "isinstance" = some none)
    (n_len : PySem.W.nsIn K mainGlobals "len" = some none)
    (n_list : PySem.W.nsIn K mainGlobals "list" = some none)
    (n_max : PySem.W.nsIn K mainGlobals "max" = some none)
    (n_min : PySem.W.nsIn K mainGlobals "min" = some none)
    (n_ord : PySem.W.nsIn K mainGlobals "ord" = some none)
    (n_range : PySem.W.nsIn K mainGlobals "range" = some none)
    (n_str : PySem.W.nsIn K mainGlobals "str" = some none)
    (n_tuple : PySem.W.nsIn K mainGlobals "tuple" = some none)
    (u_TreeError_InvalidKind : PySem.W.subIn K (.ref C0) (.ref C1) = some false)
    (u_InvalidKind_InvalidKind : PySem.W.subIn K (.ref C1) (.ref C1) = some true) :
    ∃ fd : FuncData, (∀ (s : Shared) (v : Value), BindsTo s fd ⟨[v], []⟩ [("_law_script", v)]) ∧ ∀ base : Heap, K.In base → base.Ns mainGlobals mg → FnOk P w K mg base (L2.CX P w) 13 fa fd ["_law_script"] (spLaw K) := by
  have e := hfa.symm.trans (PySem.W.mg_of X G ad38)
  cases e
  refine ⟨PySem.W.fnOf "law" "law" (defArgs (top 57)) (defBody (top 57)) (defScope (top 57)) .none kVd38 dcd38 pmd38 and38 cdd38 ctd38, fun s v => .of_eq rfl, fun base _ _ => ?_⟩
  have FI := fun_mk (st := inClass (top 1) 0) lI cI kI
  have OI : FnOk P w K mg base (L2.CX P w) 1 fI _ ["self", "value"] (spExc K) := exc_init_ok FI ⟨rfl, rfl, rfl, by decide +kernel, rfl, by decide +kernel, by decide +kernel⟩ rfl rfl rfl
  have BI := FI.binds (ps := ["self", "value"]) fun _ _ _ _ _ _ us hl => match us, hl with | [_, _], _ => rfl
  have XC0 : XfC K C0 := ⟨gC0, hC0, xC0, dC0⟩
  have EC0 : ErrC K mg "TreeError" C0 fI := ⟨⟨⟨_, _, _, _, _, _, _, _, _, _, _, _, _, _, _, eC0, rC0⟩, sC0, xC0, yC0, kC0⟩, PySem.W.mg_of X G aC0, iC0, yI, vC0, XC0⟩
  have XC1 : XfC K C1 := ⟨gC1, hC1, xC1, dC1⟩
  have EC1 : ErrC K mg "InvalidKind" C1 fI := ⟨⟨⟨_, _, _, _, _, _, _, _, _, _, _, _, _, _, _, eC1, rC1⟩, sC1, xC1, yC1, kC1⟩, PySem.W.mg_of X G aC1, iC1, yI, vC1, XC1⟩
  let T : Txt P w K mg base := {
    D_place := ⟨fd0, _, fun_mk (st := top 4) ld0 cd0 kd0, PySem.W.mg_of X G ad0, (fun_mk (st := top 4) ld0 cd0 kd0).binds (ps := ["name"]) fun _ _ _ _ _ _ us hl => match us, hl with | [_], _ => rfl⟩,
    D_is_whole := ⟨fd1, _, fun_mk (st := top 6) ld1 cd1 kd1, PySem.W.mg_of X G ad1, (fun_mk (st := top 6) ld1 cd1 kd1).binds (ps := ["value"]) fun _ _ _ _ _ _ us hl => match us, hl with | [_], _ => rfl⟩,
    D_is_between := ⟨fd2, _, fun_mk (st := top 7) ld2 cd2 kd2, PySem.W.mg_of X G ad2, (fun_mk (st := top 7) ld2 cd2 kd2).binds (ps := ["value", "least", "most"]) fun _ _ _ _ _ _ us hl => match us, hl with | [_, _, _], _ => rfl⟩,
    D_rebuilt := ⟨fd3, _, fun_mk (st := top 8) ld3 cd3 kd3, PySem.W.mg_of X G ad3, (fun_mk (st := top 8) ld3 cd3 kd3).binds (ps := ["value"]) fun _ _ _ _ _ _ us hl => match us, hl with | [_], _ => rfl⟩,
    D__is_plain := ⟨fd4, _, fun_mk (st := top 14) ld4 cd4 kd4, PySem.W.mg_of X G ad4, (fun_mk (st := top 14) ld4 cd4 kd4).binds (ps := ["text"]) fun _ _ _ _ _ _ us hl => match us, hl with | [_], _ => rfl⟩,
    D_is_name := ⟨fd5, _, fun_mk (st := top 15) ld5 cd5 kd5, PySem.W.mg_of X G ad5, (fun_mk (st := top 15) ld5 cd5 kd5).binds (ps := ["value"]) fun _ _ _ _ _ _ us hl => match us, hl with | [_], _ => rfl⟩,
    D_is_asked := ⟨fd6, _, fun_mk (st := top 16) ld6 cd6 kd6, PySem.W.mg_of X G ad6, (fun_mk (st := top 16) ld6 cd6 kd6).binds (ps := ["value"]) fun _ _ _ _ _ _ us hl => match us, hl with | [_], _ => rfl⟩,
    D_is_kind := ⟨fd7, _, fun_mk (st := top 25) ld7 cd7 kd7, PySem.W.mg_of X G ad7, (fun_mk (st := top 25) ld7 cd7 kd7).binds (ps := ["value"]) fun _ _ _ _ _ _ us hl => match us, hl with | [_], _ => rfl⟩,
    k_is_kind := fun s ws _ hl => match ws, hl with | [_], _ => .of_eq rfl,
    D_check_kind := ⟨fd8, _, fun_mk (st := top 26) ld8 cd8 kd8, PySem.W.mg_of X G ad8, (fun_mk (st := top 26) ld8 cd8 kd8).binds (ps := ["kind"]) fun _ _ _ _ _ _ us hl => match us, hl with | [_], _ => rfl⟩,
    D_is_data := ⟨fd9, _, fun_mk (st := top 27) ld9 cd9 kd9, PySem.W.mg_of X G ad9, (fun_mk (st := top 27) ld9 cd9 kd9).binds (ps := ["kind", "value"]) fun _ _ _ _ _ _ us hl => match us, hl with | [_, _], _ => rfl⟩,
    k_is_data_1_0 := fun s ws _ hl => match ws, hl with | [_, _], _ => .of_eq rfl,
    D__is_mail := ⟨fd10, _, fun_mk (st := top 28) ld10 cd10 kd10, PySem.W.mg_of X G ad10, (fun_mk (st := top 28) ld10 cd10 kd10).binds (ps := ["value"]) fun _ _ _ _ _ _ us hl => match us, hl with | [_], _ => rfl⟩,
    D__is_start := ⟨fd11, _, fun_mk (st := top 29) ld11 cd11 kd11, PySem.W.mg_of X G ad11, (fun_mk (st := top 29) ld11 cd11 kd11).binds (ps := ["value"]) fun _ _ _ _ _ _ us hl => match us, hl with | [_], _ => rfl⟩,
    D__is_text := ⟨fd12, _, fun_mk (st := top 30) ld12 cd12 kd12, PySem.W.mg_of X G ad12, (fun_mk (st := top 30) ld12 cd12 kd12).binds (ps := ["value"]) fun _ _ _ _ _ _ us hl => match us, hl with | [_], _ => rfl⟩,
    D_is_record := ⟨fd13, _, fun_mk (st := top 31) ld13 cd13 kd13, PySem.W.mg_of X G ad13, (fun_mk (st := top 31) ld13 cd13 kd13).binds (ps := ["value"]) fun _ _ _ _ _ _ us hl => match us, hl with | [_], _ => rfl⟩,
    k_is_record := fun s ws _ hl => match ws, hl with | [_], _ => .of_eq rfl,
    D_data_compared := ⟨fd14, _, fun_mk (st := top 32) ld14 cd14 kd14, PySem.W.mg_of X G ad14, (fun_mk (st := top 32) ld14 cd14 kd14).binds (ps := ["kind", "one", "other"]) fun _ _ _ _ _ _ us hl => match us, hl with | [_, _, _], _ => rfl⟩,
    k_data_compared := fun s ws _ hl => match ws, hl with | [_, _, _], _ => .of_eq rfl,
    D_data_place := ⟨fd15, _, fun_mk (st := top 33) ld15 cd15 kd15, PySem.W.mg_of X G ad15, (fun_mk (st := top 33) ld15 cd15 kd15).binds (ps := ["kind", "data"]) fun _ _ _ _ _ _ us hl => match us, hl with | [_, _], _ => rfl⟩,
    D__law_pot := ⟨fd16, _, fun_mk (st := top 35) ld16 cd16 kd16, PySem.W.mg_of X G ad16, (fun_mk (st := top 35) ld16 cd16 kd16).binds (ps := ["_law_script", "_law_k"]) fun _ _ _ _ _ _ us hl => match us, hl with | [_, _], _ => rfl⟩,
    D__law_take := ⟨fd17, _, fun_mk (st := top 36) ld17 cd17 kd17, PySem.W.mg_of X G ad17, (fun_mk (st := top 36) ld17 cd17 kd17).binds (ps := ["_law_pot_here", "_law_many"]) fun _ _ _ _ _ _ us hl => match us, hl with | [_, _], _ => rfl⟩,
    D__law_same := ⟨fd18, _, fun_mk (st := top 37) ld18 cd18 kd18, PySem.W.mg_of X G ad18, (fun_mk (st := top 37) ld18 cd18 kd18).binds (ps := ["_law_told", "_law_due"]) fun _ _ _ _ _ _ us hl => match us, hl with | [_, _], _ => rfl⟩,
    D__law_label := ⟨fd19, _, fun_mk (st := top 38) ld19 cd19 kd19, PySem.W.mg_of X G ad19, (fun_mk (st := top 38) ld19 cd19 kd19).binds (ps := ["_law_pot_here"]) fun _ _ _ _ _ _ us hl => match us, hl with | [_], _ => rfl⟩,
    D__law_words := ⟨fd20, _, fun_mk (st := top 39) ld20 cd20 kd20, PySem.W.mg_of X G ad20, (fun_mk (st := top 39) ld20 cd20 kd20).binds (ps := ["_law_pot_here", "_law_many"]) fun _ _ _ _ _ _ us hl => match us, hl with | [_, _], _ => rfl⟩,
    D__law_odd := ⟨fd21, _, fun_mk (st := top 40) ld21 cd21 kd21, PySem.W.mg_of X G ad21, (fun_mk (st := top 40) ld21 cd21 kd21).binds (ps := ["_law_pot_here"]) fun _ _ _ _ _ _ us hl => match us, hl with | [_], _ => rfl⟩,
    D__law_is_label := ⟨fd22, _, fun_mk (st := top 41) ld22 cd22 kd22, PySem.W.mg_of X G ad22, (fun_mk (st := top 41) ld22 cd22 kd22).binds (ps := ["_law_value"]) fun _ _ _ _ _ _ us hl => match us, hl with | [_], _ => rfl⟩,
    D__law_is_name := ⟨fd23, _, fun_mk (st := top 42) ld23 cd23 kd23, PySem.W.mg_of X G ad23, (fun_mk (st := top 42) ld23 cd23 kd23).binds (ps := ["_law_value"]) fun _ _ _ _ _ _ us hl => match us, hl with | [_], _ => rfl⟩,
    D__law_text := ⟨fd24, _, fun_mk (st := top 43) ld24 cd24 kd24, PySem.W.mg_of X G ad24, (fun_mk (st := top 43) ld24 cd24 kd24).binds (ps := ["_law_pot_here"]) fun _ _ _ _ _ _ us hl => match us, hl with | [_], _ => rfl⟩,
    D__law_number := ⟨fd25, _, fun_mk (st := top 44) ld25 cd25 kd25, PySem.W.mg_of X G ad25, (fun_mk (st := top 44) ld25 cd25 kd25).binds (ps := ["_law_pot_here", "_law_bound"]) fun _ _ _ _ _ _ us hl => match us, hl with | [_, _], _ => rfl⟩,
    D__law_data := ⟨fd26, _, fun_mk (st := top 45) ld26 cd26 kd26, PySem.W.mg_of X G ad26, (fun_mk (st := top 45) ld26 cd26 kd26).binds (ps := ["_law_pot_here", "_law_kind", "_law_names_here"]) fun _ _ _ _ _ _ us hl => match us, hl with | [_, _, _], _ => rfl⟩,
    D__law_data_key := ⟨fd27, _, fun_mk (st := top 46) ld27 cd27 kd27, PySem.W.mg_of X G ad27, (fun_mk (st := top 46) ld27 cd27 kd27).binds (ps := ["_law_kind", "_law_data_here"]) fun _ _ _ _ _ _ us hl => match us, hl with | [_, _], _ => rfl⟩,
    D__law_kinds := ⟨fd28, _, fun_mk (st := top 47) ld28 cd28 kd28, PySem.W.mg_of X G ad28, (fun_mk (st := top 47) ld28 cd28 kd28).binds (ps := []) fun _ _ _ _ _ _ us hl => match us, hl with | [], _ => rfl⟩,
    D__law_names := ⟨fd29, _, fun_mk (st := top 48) ld29 cd29 kd29, PySem.W.mg_of X G ad29, (fun_mk (st := top 48) ld29 cd29 kd29).binds (ps := ["_law_pot_here"]) fun _ _ _ _ _ _ us hl => match us, hl with | [_], _ => rfl⟩,
    D__law_in := ⟨fd30, _, fun_mk (st := top 49) ld30 cd30 kd30, PySem.W.mg_of X G ad30, (fun_mk (st := top 49) ld30 cd30 kd30).binds (ps := ["_law_value", "_law_bound"]) fun _ _ _ _ _ _ us hl => match us, hl with | [_, _], _ => rfl⟩,
    D__law_asked := ⟨fd31, _, fun_mk (st := top 50) ld31 cd31 kd31, PySem.W.mg_of X G ad31, (fun_mk (st := top 50) ld31 cd31 kd31).binds (ps := ["_law_value"]) fun _ _ _ _ _ _ us hl => match us, hl with | [_], _ => rfl⟩,
    D__law_is_data := ⟨fd32, _, fun_mk (st := top 51) ld32 cd32 kd32, PySem.W.mg_of X G ad32, (fun_mk (st := top 51) ld32 cd32 kd32).binds (ps := ["_law_kind", "_law_value"]) fun _ _ _ _ _ _ us hl => match us, hl with | [_, _], _ => rfl⟩,
    D__law_bent := ⟨fd33, _, fun_mk (st := top 52) ld33 cd33 kd33, PySem.W.mg_of X G ad33, (fun_mk (st := top 52) ld33 cd33 kd33).binds (ps := ["_law_pot_here", "_law_value", "_law_names_here"]) fun _ _ _ _ _ _ us hl => match us, hl with | [_, _, _], _ => rfl⟩,
    D__law_odd_kind := ⟨fd34, _, fun_mk (st := top 53) ld34 cd34 kd34, PySem.W.mg_of X G ad34, (fun_mk (st := top 53) ld34 cd34 kd34).binds (ps := ["_law_pot_here"]) fun _ _ _ _ _ _ us hl => match us, hl with | [_], _ => rfl⟩,
    D__law_refused := ⟨fd35, _, fun_mk (st := top 54) ld35 cd35 kd35, PySem.W.mg_of X G ad35, (fun_mk (st := top 54) ld35 cd35 kd35).binds (ps := ["_law_way", "_law_kind", "_law_one", "_law_other"]) fun _ _ _ _ _ _ us hl => match us, hl with | [_, _, _, _], _ => rfl⟩,
    D__law_data_right := ⟨fd36, _, fun_mk (st := top 55) ld36 cd36 kd36, PySem.W.mg_of X G ad36, (fun_mk (st := top 55) ld36 cd36 kd36).binds (ps := ["_law_pot_here", "_law_kind", "_law_names_here"]) fun _ _ _ _ _ _ us hl => match us, hl with | [_, _, _], _ => rfl⟩,
    D__law_records_right := ⟨fd37, _, fun_mk (st := top 56) ld37 cd37 kd37, PySem.W.mg_of X G ad37, (fun_mk (st := top 56) ld37 cd37 kd37).binds (ps := ["_law_pot_here", "_law_kind", "_law_names_here"]) fun _ _ _ _ _ _ us hl => match us, hl with | [_, _, _], _ => rfl⟩,
    D_law := ⟨fa, _, fun_mk (st := top 57) ld38 cd38 kd38, PySem.W.mg_of X G ad38, (fun_mk (st := top 57) ld38 cd38 kd38).binds (ps := ["_law_script"]) fun _ _ _ _ _ _ us hl => match us, hl with | [_], _ => rfl⟩,
    E_TreeError := ⟨C0, fI, _, EC0, OI, BI⟩,
    E_InvalidKind := ⟨C1, fI, _, EC1, OI, BI⟩,
    c_WILD := ⟨_, PySem.W.mg_of X G aK_WILD⟩,
    c_LONGEST := ⟨_, PySem.W.mg_of X G aK_LONGEST⟩,
    c_ENDS := ⟨_, PySem.W.mg_of X G aK_ENDS⟩,
    c_INNER := ⟨_, PySem.W.mg_of X G aK_INNER⟩,
    c_KINDS := ⟨_, _, _, _, PySem.W.mg_of X G aK_KINDS, lK_KINDS, rfl, rfl, show (8 : Nat) ≤ sizeLine by decide, .cons ⟨_, rfl⟩ (.cons ⟨_, rfl⟩ (.cons ⟨_, rfl⟩ (.cons ⟨_, rfl⟩ (.cons ⟨_, rfl⟩ (.cons ⟨_, rfl⟩ (.cons ⟨_, rfl⟩ (.cons ⟨_, rfl⟩ (.nil))))))))⟩,
    c_NAMING := ⟨_, _, _, _, PySem.W.mg_of X G aK_NAMING, lK_NAMING, rfl, rfl, show (4 : Nat) ≤ sizeLine by decide, .cons ⟨_, rfl⟩ (.cons ⟨_, rfl⟩ (.cons ⟨_, rfl⟩ (.cons ⟨_, rfl⟩ (.nil))))⟩,
    c_MOST_AGE := ⟨_, PySem.W.mg_of X G aK_MOST_AGE⟩,
    c_MOST_SERIAL := ⟨_, PySem.W.mg_of X G aK_MOST_SERIAL⟩,
    c_MOST_RANK := ⟨_, PySem.W.mg_of X G aK_MOST_RANK⟩,
    c_LONGEST_TEXT := ⟨_, PySem.W.mg_of X G aK_LONGEST_TEXT⟩,
    c_PERCENT := ⟨_, PySem.W.mg_of X G aK_PERCENT⟩,
    n_abs := PySem.W.mg_none_of X G n_abs,
    n_all := PySem.W.mg_none_of X G n_all,
    n_bool := PySem.W.mg_none_of X G n_bool,
    n_int := PySem.W.mg_none_of X G n_int,
    n_isinstance := PySem.W.mg_none_of X G n_isinstance,
    n_len := PySem.W.mg_none_of X G n_len,
    n_list := PySem.W.mg_none_of X G n_list,
    n_max := PySem.W.mg_none_of X G n_max,
    n_min := PySem.W.mg_none_of X G n_min,
    n_ord := PySem.W.mg_none_of X G n_ord,
    n_range := PySem.W.mg_none_of X G n_range,
    n_str := PySem.W.mg_none_of X G n_str,
    n_tuple := PySem.W.mg_none_of X G n_tuple,
    sub_InvalidKind := mem_all (⟨⟨C0, EC0.mgC, PySem.W.exm_ref xC1 dC1 yC1 u_TreeError_InvalidKind, XC0, vC0⟩, ⟨⟨C1, EC1.mgC, PySem.W.exm_ref xC1 dC1 yC1 u_InvalidKind_InvalidKind, XC1, vC1⟩, trivial⟩⟩) }
  exact law_end (fn_law T) law_true
theorem walk {l : PySem.W.OpenLaw} {q : Program} {loose : List Str} {XP : (Str → Option Value) → Heap → Prop} {YP : World → Heap → Prop} {d : DefRec} {K : Params → PySem.W.Frag} (hn : l.most = some 63) (hdf : d.params.defaults = [])
    (hY : ∀ (w : World) (h : Heap), YP w h → (K w.params).In h)
    (F : ∀ (w : World) (mg : Str → Option Value) (fa : Addr) (h : Heap), (K w.params).In h → h.Ns mainGlobals mg → mg d.name = some (.ref fa) →
      ∃ fd : FuncData, (∀ (s : Shared) (u : Value), BindsTo s fd ⟨[u], []⟩ [("_law_script", u)]) ∧ ∀ base : Heap, (K w.params).In base → base.Ns mainGlobals mg → FnOk l.prog w (K w.params) mg base (L2.CX l.prog w) 13 fa fd ["_law_script"] (spLaw (K w.params))) :
    PySem.W.WalkO q loose XP YP l.row.toRowW d [] (fun f vs => PySem.call f vs) :=
  L2.walk_ofB (n := 63) (k := 13) (x := "_law_script") (CX := fun w => L2.CX l.prog w) (sp := fun w => spLaw (K w.params)) hn (by decide) hdf ⟨rfl, by decide, by decide⟩ hY F (fun _ _ a ns hl hb hO hS => ⟨a, ns, rfl, hO, hS, hl, hb, fun _ => rfl⟩) (fun _ _ _ _ _ z => by obtain ⟨_, _, _, _, _, _, _, _, _, _, _, _, z⟩ := z; exact z.elim)
end
end K04
open PySem PySem.W PyProof.Rows
theorem PySem.Challenge.cw_rootward_k04_kinds_data_and_records_holds : PySem.Challenge.rw_rootward_k04_kinds_data_and_records.Holds := by
  w_on; o_law; k_head; (case hw => w_witness2)
  k_fill
  refine K04.walk (l := PySem.Challenge.rw_rootward_k04_kinds_data_and_records) rfl rfl (fun w h Y => PySem.W.kIn_of Y) ?F
  case F =>
    intro w mg fa h KX G hmg
    refine' K04.all_mk KX G hmg ?ad0 ?ld0 ?cd0 ?kd0 ?ad1 ?ld1 ?cd1 ?kd1 ?ad2 ?ld2 ?cd2 ?kd2 ?ad3 ?ld3 ?cd3 ?kd3 ?ad4 ?ld4 ?cd4 ?kd4 ?ad5 ?ld5 ?cd5 ?kd5 ?ad6 ?ld6 ?cd6 ?kd6 ?ad7 ?ld7 ?cd7 ?kd7 ?ad8 ?ld8 ?cd8 ?kd8 ?ad9 ?ld9 ?cd9 ?kd9 ?ad10 ?ld10 ?cd10 ?kd10 ?ad11 ?ld11 ?cd11 ?kd11 ?ad12 ?ld12 ?cd12 ?kd12 ?ad13 ?ld13 ?cd13 ?kd13 ?ad14 ?ld14 ?cd14 ?kd14 ?ad15 ?ld15 ?cd15 ?kd15 ?ad16 ?ld16 ?cd16 ?kd16 ?ad17 ?ld17 ?cd17 ?kd17 ?ad18 ?ld18 ?cd18 ?kd18 ?ad19 ?ld19 ?cd19 ?kd19 ?ad20 ?ld20 ?cd20 ?kd20 ?ad21 ?ld21 ?cd21 ?kd21 ?ad22 ?ld22 ?cd22 ?kd22 ?ad23 ?ld23 ?cd23 ?kd23 ?ad24 ?ld24 ?cd24 ?kd24 ?ad25 ?ld25 ?cd25 ?kd25 ?ad26 ?ld26 ?cd26 ?kd26 ?ad27 ?ld27 ?cd27 ?kd27 ?ad28 ?ld28 ?cd28 ?kd28 ?ad29 ?ld29 ?cd29 ?kd29 ?ad30 ?ld30 ?cd30 ?kd30 ?ad31 ?ld31 ?cd31 ?kd31 ?ad32 ?ld32 ?cd32 ?kd32 ?ad33 ?ld33 ?cd33 ?kd33 ?ad34 ?ld34 ?cd34 ?kd34 ?ad35 ?ld35 ?cd35 ?kd35 ?ad36 ?ld36 ?cd36 ?kd36 ?ad37 ?ld37 ?cd37 ?kd37 ?ad38 ?ld38 ?cd38 ?kd38 ?aC0 ?iC0 ?aC1 ?iC1 ?lI ?cI ?kI ?yI ?eC0 ?rC0 ?sC0 ?xC0 ?yC0 ?kC0 ?vC0 ?gC0 ?hC0 ?dC0 ?eC1 ?rC1 ?sC1 ?xC1 ?yC1 ?kC1 ?vC1 ?gC1 ?hC1 ?dC1 ?aK_WILD ?aK_LONGEST ?aK_ENDS ?aK_INNER ?aK_KINDS ?lK_KINDS ?aK_NAMING ?lK_NAMING ?aK_MOST_AGE ?aK_MOST_SERIAL ?aK_MOST_RANK ?aK_LONGEST_TEXT ?aK_PERCENT ?n_abs ?n_all ?n_bool ?n_int ?n_isinstance ?n_len ?n_list ?n_max ?n_min ?n_ord ?n_range ?n_str ?n_tuple ?u_TreeError_InvalidKind ?u_InvalidKind_InvalidKind
    (case ad0 => k_is)
    (case ld0 => k_is)
    (case cd0 => k_is)
    (case kd0 => k_is)
    (case ad1 => k_is)
    (case ld1 => k_is)
    (case cd1 => k_is)
    (case kd1 => k_is)
    (case ad2 => k_is)
    (case ld2 => k_is)
    (case cd2 => k_is)
    (case kd2 => k_is)
    (case ad3 => k_is)
    (case ld3 => k_is)
    (case cd3 => k_is)
    (case kd3 => k_is)
    (case ad4 => k_is)
    (case ld4 => k_is)
    (case cd4 => k_is)
    (case kd4 => k_is)
    (case ad5 => k_is)
    (case ld5 => k_is)
    (case cd5 => k_is)
    (case kd5 => k_is)
    (case ad6 => k_is)
    (case ld6 => k_is)
    (case cd6 => k_is)
    (case kd6 => k_is)
    (case ad7 => k_is)
    (case ld7 => k_is)
    (case cd7 => k_is)
    (case kd7 => k_is)
    (case ad8 => k_is)
    (case ld8 => k_is)
    (case cd8 => k_is)
    (case kd8 => k_is)
    (case ad9 => k_is)
    (case ld9 => k_is)
    (case cd9 => k_is)
    (case kd9 => k_is)
    (case ad10 => k_is)
    (case ld10 => k_is)
    (case cd10 => k_is)
    (case kd10 => k_is)
    (case ad11 => k_is)
    (case ld11 => k_is)
    (case cd11 => k_is)
    (case kd11 => k_is)
    (case ad12 => k_is)
    (case ld12 => k_is)
    (case cd12 => k_is)
    (case kd12 => k_is)
    (case ad13 => k_is)
    (case ld13 => k_is)
    (case cd13 => k_is)
    (case kd13 => k_is)
    (case ad14 => k_is)
    (case ld14 => k_is)
    (case cd14 => k_is)
    (case kd14 => k_is)
    (case ad15 => k_is)
    (case ld15 => k_is)
    (case cd15 => k_is)
    (case kd15 => k_is)
    (case ad16 => k_is)
    (case ld16 => k_is)
    (case cd16 => k_is)
    (case kd16 => k_is)
    (case ad17 => k_is)
    (case ld17 => k_is)
    (case cd17 => k_is)
    (case kd17 => k_is)
    (case ad18 => k_is)
    (case ld18 => k_is)
    (case cd18 => k_is)
    (case kd18 => k_is)
    (case ad19 => k_is)
    (case ld19 => k_is)
    (case cd19 => k_is)
    (case kd19 => k_is)
    (case ad20 => k_is)
    (case ld20 => k_is)
    (case cd20 => k_is)
    (case kd20 => k_is)
    (case ad21 => k_is)
    (case ld21 => k_is)
    (case cd21 => k_is)
    (case kd21 => k_is)
    (case ad22 => k_is)
    (case ld22 => k_is)
    (case cd22 => k_is)
    (case kd22 => k_is)
    (case ad23 => k_is)
    (case ld23 => k_is)
    (case cd23 => k_is)
    (case kd23 => k_is)
    (case ad24 => k_is)
    (case ld24 => k_is)
    (case cd24 => k_is)
    (case kd24 => k_is)
    (case ad25 => k_is)
    (case ld25 => k_is)
    (case cd25 => k_is)
    (case kd25 => k_is)
    (case ad26 => k_is)
    (case ld26 => k_is)
    (case cd26 => k_is)
    (case kd26 => k_is)
    (case ad27 => k_is)
    (case ld27 => k_is)
    (case cd27 => k_is)
    (case kd27 => k_is)
    (case ad28 => k_is)
    (case ld28 => k_is)
    (case cd28 => k_is)
    (case kd28 => k_is)
    (case ad29 => k_is)
    (case ld29 => k_is)
    (case cd29 => k_is)
    (case kd29 => k_is)
    (case ad30 => k_is)
    (case ld30 => k_is)
    (case cd30 => k_is)
    (case kd30 => k_is)
    (case ad31 => k_is)
    (case ld31 => k_is)
    (case cd31 => k_is)
    (case kd31 => k_is)
    (case ad32 => k_is)
    (case ld32 => k_is)
    (case cd32 => k_is)
    (case kd32 => k_is)
    (case ad33 => k_is)
    (case ld33 => k_is)
    (case cd33 => k_is)
    (case kd33 => k_is)
    (case ad34 => k_is)
    (case ld34 => k_is)
    (case cd34 => k_is)
    (case kd34 => k_is)
    (case ad35 => k_is)
    (case ld35 => k_is)
    (case cd35 => k_is)
    (case kd35 => k_is)
    (case ad36 => k_is)
    (case ld36 => k_is)
    (case cd36 => k_is)
    (case kd36 => k_is)
    (case ad37 => k_is)
    (case ld37 => k_is)
    (case cd37 => k_is)
    (case kd37 => k_is)
    (case ad38 => k_is)
    (case ld38 => k_is)
    (case cd38 => k_is)
    (case kd38 => k_is)
    (case aC0 => k_is)
    (case iC0 => k_is)
    (case aC1 => k_is)
    (case iC1 => k_is)
    (case lI => k_is)
    (case cI => k_is)
    (case kI => k_is)
    (case yI => k_is)
    (case eC0 => k_is)
    (case rC0 => first | k_is | decide +kernel)
    (case sC0 => k_is)
    (case xC0 => k_is)
    (case yC0 => k_is)
    (case kC0 => k_is)
    (case vC0 => k_is)
    (case gC0 => k_is)
    (case hC0 => k_is)
    (case dC0 => k_is)
    (case eC1 => k_is)
    (case rC1 => first | k_is | decide +kernel)
    (case sC1 => k_is)
    (case xC1 => k_is)
    (case yC1 => k_is)
    (case kC1 => k_is)
    (case vC1 => k_is)
    (case gC1 => k_is)
    (case hC1 => k_is)
    (case dC1 => k_is)
    (case aK_WILD => k_is)
    (case aK_LONGEST => k_is)
    (case aK_ENDS => k_is)
    (case aK_INNER => k_is)
    (case aK_KINDS => k_is)
    (case lK_KINDS => k_is)
    (case aK_NAMING => k_is)
    (case lK_NAMING => k_is)
    (case aK_MOST_AGE => k_is)
    (case aK_MOST_SERIAL => k_is)
    (case aK_MOST_RANK => k_is)
    (case aK_LONGEST_TEXT => k_is)
    (case aK_PERCENT => k_is)
    (case n_abs => k_is)
    (case n_all => k_is)
    (case n_bool => k_is)
    (case n_int => k_is)
    (case n_isinstance => k_is)
    (case n_len => k_is)
    (case n_list => k_is)
    (case n_max => k_is)
    (case n_min => k_is)
    (case n_ord => k_is)
    (case n_range => k_is)
    (case n_str => k_is)
    (case n_tuple => k_is)
    (case u_TreeError_InvalidKind => k_is)
    (case u_InvalidKind_InvalidKind => k_is)
