import PyProof.Rows.All
import Wide.All
import OpenK.AllK
import Wide.FinOn
import HandS.ForMost
import HandS.ForExc
import HandS.ExcInit
import HandS.ExcField
import HandS.TryMany
import HandS.WideBits
import HandS.Flow
import HandS.IsInst
import HandS.EndBits
import HandS.ExcOwn
import HandS.TupAny
import HandS.StrMore
import HandS.Text
import HandS.Style
import HandS.ExcIs
import KE.KExcIs
import HandS.Sort
import HandS.Replace
import HandS.TupLe
import HandS.More
import PyProof.ListStr
import PySem.Challenge.RW_rootward_k03_numbers_of_labels_and_names
set_option Elab.async false
set_option linter.all false
set_option maxRecDepth 100000
set_option maxHeartbeats 4000000
namespace MP
open PySem PySem.Spec PyProof.Rows L2

/-! ### values, objects, results -/
inductive W where
  | non | bl (b : Bool) | int (i : Int) | str (x : Str) | tup (xs : List W) | fro (xs : List W) | loc (n : Nat) | gl (v : V) | rng (i j : Int)
inductive Ob where
  | lst (xs : List W)
abbrev Store := List Ob
abbrev EnvW := List (Option W)
inductive Res (α : Type) where
  | ok (a : α) (st : Store)
  | err (c : Str) (fs : W) (st : Store)
  | stuck
def Res.bind {α β : Type} (r : Res α) (k : α → Store → Res β) : Res β := match r with
  | .ok a st => k a st
  | .err c fs st => .err c fs st
  | .stuck => .stuck
@[simp] theorem Res.bind_ok {α β : Type} (a : α) (st : Store) (k : α → Store → Res β) : (Res.ok a st).bind k = k a st := rfl
@[simp] theorem Res.bind_err {α β : Type} (c : Str) (fs : W) (st : Store) (k : α → Store → Res β) : (Res.err c fs st : Res α).bind k = .err c fs st := rfl
@[simp] theorem Res.bind_stuck {α β : Type} (k : α → Store → Res β) : (Res.stuck : Res α).bind k = .stuck := rfl
abbrev D (α : Type) := EnvW → Store → Res α

/-! ### how values and stores lie in the heap -/
/-- a list that is never written: the script, or the module's own -/
def SqF (K : PySem.W.Frag) (H : Hp) (a : Addr) (xs : List V) : Prop :=
  (∃ o, H a = some (.frz o (.lst xs))) ∨
    ∃ (o : Obj) (its : Array Value) (n : Nat), K.lookup a = some o ∧ o.cls = .type "list" ∧ o.dict = none ∧ o.data = .seq its n ∧ its.size ≤ sizeLine ∧ Vals xs its.toList
/-- a tuple: tracked, or the module's own -/
def TpF (K : PySem.W.Frag) (H : Hp) (a : Addr) (xs : List V) : Prop :=
  H a = some (.tup xs) ∨
    ∃ (o : Obj) (its : Array Value) (n : Nat), K.lookup a = some o ∧ o.cls = .type "tuple" ∧ o.data = .seq its n ∧ its.size ≤ sizeLine ∧ Vals xs its.toList
theorem SqF.sq {K : PySem.W.Frag} {H : Hp} {a : Addr} {xs : List V} (h : SqF K H a xs) : SqL K H a xs := by
  rcases h with ⟨o, h⟩ | h
  · exact .inl (.inr ⟨o, h⟩)
  · exact .inr h
theorem TpF.sq {K : PySem.W.Frag} {H : Hp} {a : Addr} {xs : List V} (h : TpF K H a xs) : SqT K H a xs := by
  rcases h with h | h
  · exact .inl (.inl h)
  · exact .inr h
mutual
def VR (K : PySem.W.Frag) (ρ : List Addr) (H : Hp) : W → V → Prop
  | .non, v => v = .non
  | .bl b, v => v = .bl b
  | .int i, v => v = .int i
  | .str x, v => v = .str x
  | .tup ws, v => ∃ a us, v = .ref a ∧ TpF K H a us ∧ VRs K ρ H ws us
  | .fro ws, v => ∃ a us, v = .ref a ∧ SqF K H a us ∧ VRs K ρ H ws us
  | .loc n, v => ∃ a, ρ[n]? = some a ∧ v = .ref a
  | .gl u, v => v = u
  | .rng i j, v => ∃ a, v = .ref a ∧ H a = some (.rng i j)
def VRs (K : PySem.W.Frag) (ρ : List Addr) (H : Hp) : List W → List V → Prop
  | [], vs => vs = []
  | w :: ws, vs => ∃ u us, vs = u :: us ∧ VR K ρ H w u ∧ VRs K ρ H ws us
end
/-- what may be written lies at the addresses of ρ -/
def ObR (K : PySem.W.Frag) (ρ : List Addr) (H : Hp) (a : Addr) : Ob → Prop
  | .lst ws => ∃ us, H a = some (.lst us) ∧ VRs K ρ H ws us
structure StR (K : PySem.W.Frag) (ρ : List Addr) (H : Hp) (st : Store) : Prop where
  len : ρ.length = st.length
  nd : ρ.Nodup
  ob : ∀ (n : Nat) (o : Ob), st[n]? = some o → ∃ a, ρ[n]? = some a ∧ ObR K ρ H a o
/-- in an except suite: the exception's slot, its address, its dict, its value -/
structure Exn where
  i : Nat
  a : Addr
  dd : Addr
  y : V
  w : W
structure EnvR (K : PySem.W.Frag) (ex : Option Exn) (ρ : List Addr) (H : Hp) (env : EnvW) (σ : L2.St) : Prop where
  len : σ.length = env.length
  at_ : ∀ (i : Nat) (w : W), env[i]? = some (some w) → ∃ v, σ[i]? = some (some v) ∧ VR K ρ H w v
  exc : ∀ x, ex = some x → σ[x.i]? = some (some (.ref x.a)) ∧ H x.dd = some (.xd [(("value" : Str), x.y)]) ∧ x.dd ∉ ρ ∧ VR K ρ H x.w x.y
def ExOk (ex : Option Exn) (i : Nat) : Prop := ∀ x, ex = some x → x.i ≠ i
theorem ExOk.none {i : Nat} : ExOk none i := fun _ h => nomatch h
/-- later: the store's part may be longer, nothing else that is tracked is changed -/
structure Grow (ρ : List Addr) (H : Hp) (ρ' : List Addr) (H' : Hp) : Prop where
  pre : ∃ m, ρ' = ρ ++ m ∧ ∀ a ∈ m, H a = none
  keep : ∀ a o, H a = some o → a ∉ ρ → H' a = some o
  live : ∀ a, a ∈ ρ → H a ≠ none → H' a ≠ none
/-- immutable things are never among the written ones -/
def Apart (ρ : List Addr) (H : Hp) : Prop := ∀ a ∈ ρ, ∃ o, H a = some o ∧ (∀ xs, o ≠ .tup xs) ∧ (∀ b u, o ≠ .frz b u) ∧ ∀ i j, o ≠ .rng i j

section
variable {K : PySem.W.Frag} {ρ ρ' ρ'' : List Addr} {H H' H'' : Hp} {st st' : Store}
theorem Grow.refl : Grow ρ H ρ H := ⟨⟨[], by simp, fun _ h => nomatch h⟩, fun _ _ h _ => h, fun _ _ h => h⟩
theorem Grow.fresh (g : Grow ρ H ρ' H') {a : Addr} (h : H' a = none) : H a = none := by
  cases e : H a with
  | none => rfl
  | some o =>
    by_cases m : a ∈ ρ
    · exact absurd h (g.live a m (by rw [e]; simp))
    · have := g.keep a o e m
      rw [this] at h; cases h
theorem Grow.trans (g : Grow ρ H ρ' H') (g' : Grow ρ' H' ρ'' H'') : Grow ρ H ρ'' H'' := by
  obtain ⟨m, e, f⟩ := g.pre
  obtain ⟨m', e', f'⟩ := g'.pre
  subst e; subst e'
  refine ⟨⟨m ++ m', by simp, fun a h => ?_⟩, fun a o h n => ?_, fun a h h' => ?_⟩
  · rcases List.mem_append.mp h with h | h
    · exact f a h
    · exact g.fresh (f' a h)
  · refine g'.keep a o (g.keep a o h n) fun z => ?_
    rcases List.mem_append.mp z with z | z
    · exact n z
    · have := f a z; rw [h] at this; cases this
  · exact g'.live a (List.mem_append_left _ h) (g.live a h h')
theorem StR.apart (s : StR K ρ H st) : Apart ρ H := fun a h => by
  obtain ⟨n, hn, e⟩ := List.getElem_of_mem h
  have hn' : n < st.length := by rw [← s.len]; exact hn
  obtain ⟨b, hb, hob⟩ := s.ob n st[n] (by rw [List.getElem?_eq_getElem hn'])
  rw [List.getElem?_eq_getElem hn, e] at hb
  cases hb
  cases ho : st[n] with
  | lst ws =>
    rw [ho] at hob
    obtain ⟨us, hu, _⟩ := hob
    exact ⟨_, hu, fun _ z => (nomatch z), fun _ _ z => (nomatch z), fun _ _ z => (nomatch z)⟩
theorem TpF.grow {a : Addr} {xs : List V} (h : TpF K H a xs) (ap : Apart ρ H) (g : Grow ρ H ρ' H') : TpF K H' a xs := by
  rcases h with h | h
  · refine .inl (g.keep a _ h fun m => ?_)
    obtain ⟨o, e, n, _⟩ := ap a m
    rw [h] at e; cases e
    exact n _ rfl
  · exact .inr h
theorem SqF.grow {a : Addr} {xs : List V} (h : SqF K H a xs) (ap : Apart ρ H) (g : Grow ρ H ρ' H') : SqF K H' a xs := by
  rcases h with ⟨o, h⟩ | h
  · refine .inl ⟨o, g.keep a _ h fun m => ?_⟩
    obtain ⟨o', e, _, n, _⟩ := ap a m
    rw [h] at e; cases e
    exact n _ _ rfl
  · exact .inr h
mutual
theorem VR.grow (ap : Apart ρ H) (g : Grow ρ H ρ' H') : ∀ (w : W) (v : V), VR K ρ H w v → VR K ρ' H' w v
  | .non, _, h => by simpa only [VR] using h
  | .bl _, _, h => by simpa only [VR] using h
  | .int _, _, h => by simpa only [VR] using h
  | .str _, _, h => by simpa only [VR] using h
  | .gl _, _, h => by simpa only [VR] using h
  | .rng i j, v, h => by
    simp only [VR] at h ⊢
    obtain ⟨a, e, r⟩ := h
    refine ⟨a, e, g.keep a _ r fun m => ?_⟩
    obtain ⟨o, e', _, _, n⟩ := ap a m
    rw [r] at e'; cases e'
    exact n _ _ rfl
  | .tup ws, v, h => by
    simp only [VR] at h ⊢
    obtain ⟨a, us, e, t, r⟩ := h
    exact ⟨a, us, e, t.grow ap g, VRs.grow ap g ws us r⟩
  | .fro ws, v, h => by
    simp only [VR] at h ⊢
    obtain ⟨a, us, e, t, r⟩ := h
    exact ⟨a, us, e, t.grow ap g, VRs.grow ap g ws us r⟩
  | .loc n, v, h => by
    simp only [VR] at h ⊢
    obtain ⟨a, e, r⟩ := h
    obtain ⟨m, e', _⟩ := g.pre
    subst e'
    refine ⟨a, ?_, r⟩
    have hl := (List.getElem?_eq_some_iff.mp e).1
    rw [List.getElem?_append_left hl]; exact e
theorem VRs.grow (ap : Apart ρ H) (g : Grow ρ H ρ' H') : ∀ (ws : List W) (vs : List V), VRs K ρ H ws vs → VRs K ρ' H' ws vs
  | [], _, h => by simpa only [VRs] using h
  | w :: ws, vs, h => by
    simp only [VRs] at h ⊢
    obtain ⟨u, us, e, r, rs⟩ := h
    exact ⟨u, us, e, VR.grow ap g w u r, VRs.grow ap g ws us rs⟩
end
theorem EnvR.grow {ex : Option Exn} {env : EnvW} {σ : L2.St} (e : EnvR K ex ρ H env σ) (ap : Apart ρ H) (g : Grow ρ H ρ' H') : EnvR K ex ρ' H' env σ :=
  ⟨e.len, fun i w h => let ⟨v, h1, h2⟩ := e.at_ i w h; ⟨v, h1, VR.grow ap g w v h2⟩, fun x h => by
    obtain ⟨h1, h2, h3, h4⟩ := e.exc x h
    refine ⟨h1, g.keep _ _ h2 h3, fun z => ?_, VR.grow ap g _ _ h4⟩
    obtain ⟨m, em, fm⟩ := g.pre
    subst em
    rcases List.mem_append.mp z with z | z
    · exact h3 z
    · have := fm _ z; rw [h2] at this; cases this⟩
theorem EnvR.put {ex : Option Exn} {env : EnvW} {σ : L2.St} (e : EnvR K ex ρ H env σ) {i : Nat} {w : Option W} {v : Option V} (hx : ExOk ex i) (r : ∀ w', w = some w' → ∃ v', v = some v' ∧ VR K ρ H w' v') : EnvR K ex ρ H (env.set i w) (σ.set i v) := by
  refine ⟨by simp [e.len], fun j w' h => ?_, fun x h => ?_⟩
  · by_cases hj : i = j
    · subst hj
      rw [List.getElem?_set] at h
      split at h
      · split at h
        · rename_i hl
          obtain ⟨v', e1, rv⟩ := r w' (Option.some.inj h)
          subst e1
          refine ⟨v', ?_, rv⟩
          rw [List.getElem?_set]; simp [e.len, *]
        · cases h
      · rename_i z; exact absurd rfl z
    · rw [List.getElem?_set_ne hj] at h
      obtain ⟨u, h1, h2⟩ := e.at_ j w' h
      exact ⟨u, by rw [List.getElem?_set_ne hj]; exact h1, h2⟩
  · obtain ⟨h1, h2⟩ := e.exc x h
    exact ⟨by rw [List.getElem?_set_ne (Ne.symm (hx x h))]; exact h1, h2⟩
theorem EnvR.set {ex : Option Exn} {env : EnvW} {σ : L2.St} (e : EnvR K ex ρ H env σ) {i : Nat} {w : W} {v : V} (hx : ExOk ex i) (r : VR K ρ H w v) : EnvR K ex ρ H (env.set i (some w)) (σ.set i (some v)) :=
  e.put hx fun w' h => by cases h; exact ⟨v, rfl, r⟩
theorem EnvR.unset {ex : Option Exn} {env : EnvW} {σ : L2.St} (e : EnvR K ex ρ H env σ) {i : Nat} (hx : ExOk ex i) : EnvR K ex ρ H (env.set i none) (σ.set i none) :=
  e.put hx fun w' h => by cases h
theorem VRs.length : ∀ {ws : List W} {vs : List V}, VRs K ρ H ws vs → ws.length = vs.length
  | [], vs, h => by simp only [VRs] at h; simp [h]
  | w :: ws, vs, h => by
    simp only [VRs] at h
    obtain ⟨u, us, rfl, _, r⟩ := h
    simp [VRs.length r]
theorem VRs.get : ∀ {ws : List W} {vs : List V} {i : Nat} {w : W}, VRs K ρ H ws vs → ws[i]? = some w → ∃ v, vs[i]? = some v ∧ VR K ρ H w v
  | [], _, _, _, _, e => by simp at e
  | w :: ws, vs, 0, w', h, e => by
    simp only [VRs] at h
    obtain ⟨u, us, rfl, r, _⟩ := h
    simp at e; subst e
    exact ⟨u, rfl, r⟩
  | w :: ws, vs, i + 1, w', h, e => by
    simp only [VRs] at h
    obtain ⟨u, us, rfl, _, r⟩ := h
    obtain ⟨v, h1, h2⟩ := VRs.get (i := i) r (by simpa using e)
    exact ⟨v, by simpa using h1, h2⟩
theorem VRs.append : ∀ {ws ws' : List W} {vs vs' : List V}, VRs K ρ H ws vs → VRs K ρ H ws' vs' → VRs K ρ H (ws ++ ws') (vs ++ vs')
  | [], _, vs, _, h, h' => by simp only [VRs] at h; subst h; simpa using h'
  | w :: ws, _, vs, _, h, h' => by
    simp only [VRs, List.cons_append] at h ⊢
    obtain ⟨u, us, rfl, r, rs⟩ := h
    exact ⟨u, us ++ _, rfl, r, VRs.append rs h'⟩
theorem VRs.take : ∀ {ws : List W} {vs : List V} (n : Nat), VRs K ρ H ws vs → VRs K ρ H (ws.take n) (vs.take n)
  | _, _, 0, _ => by simp [VRs]
  | [], vs, n + 1, h => by simp only [VRs] at h; subst h; simp [VRs]
  | w :: ws, vs, n + 1, h => by
    simp only [VRs] at h
    obtain ⟨u, us, rfl, r, rs⟩ := h
    simp only [List.take_succ_cons, VRs]
    exact ⟨u, _, rfl, r, rs.take n⟩
theorem VRs.drop : ∀ {ws : List W} {vs : List V} (n : Nat), VRs K ρ H ws vs → VRs K ρ H (ws.drop n) (vs.drop n)
  | _, _, 0, h => by simpa using h
  | [], vs, n + 1, h => by simp only [VRs] at h; subst h; simp [VRs]
  | w :: ws, vs, n + 1, h => by
    simp only [VRs] at h
    obtain ⟨u, us, rfl, r, rs⟩ := h
    simpa using rs.drop n
theorem VRs.one {w : W} {v : V} (r : VR K ρ H w v) : VRs K ρ H [w] [v] := by
  simp only [VRs]; exact ⟨v, [], rfl, r, rfl⟩
theorem VRs.cons' {w : W} {v : V} {ws : List W} {vs : List V} (r : VR K ρ H w v) (rs : VRs K ρ H ws vs) : VRs K ρ H (w :: ws) (v :: vs) := by
  simp only [VRs]; exact ⟨v, vs, rfl, r, rs⟩
theorem VRs.reverse : ∀ {ws : List W} {vs : List V}, VRs K ρ H ws vs → VRs K ρ H ws.reverse vs.reverse
  | [], vs, h => by simp only [VRs] at h; subst h; simp [VRs]
  | w :: ws, vs, h => by
    simp only [VRs] at h
    obtain ⟨u, us, rfl, r, rs⟩ := h
    rw [List.reverse_cons, List.reverse_cons]
    exact rs.reverse.append (.one r)
theorem VRs.set {w : W} {v : V} (r : VR K ρ H w v) : ∀ {ws : List W} {vs : List V} (i : Nat), VRs K ρ H ws vs → VRs K ρ H (ws.set i w) (vs.set i v)
  | [], vs, _, h => by simp only [VRs] at h; subst h; simp [VRs]
  | w' :: ws, vs, 0, h => by
    simp only [VRs] at h
    obtain ⟨u, us, rfl, _, rs⟩ := h
    exact .cons' r rs
  | w' :: ws, vs, i + 1, h => by
    simp only [VRs] at h
    obtain ⟨u, us, rfl, r', rs⟩ := h
    exact .cons' r' (rs.set r i)
theorem ObR.stay {a : Addr} {o : Ob} (h : ObR K ρ H a o) (e : H' a = H a) (ap : Apart ρ H) (g : Grow ρ H ρ' H') : ObR K ρ' H' a o := by
  cases o with
  | lst ws =>
    obtain ⟨us, hu, hr⟩ := h
    exact ⟨us, by rw [e]; exact hu, VRs.grow ap g ws us hr⟩
theorem StR.none_of (s : StR K ρ H st) {p : Addr} (hp : H p = none) : p ∉ ρ := fun m => by
  obtain ⟨o, e, _⟩ := s.apart p m; rw [hp] at e; cases e
/-- an object more -/
theorem StR.new (s : StR K ρ H st) {p : Addr} {o : Ob} {u : HO} (hp : H p = none) (g : Grow ρ H (ρ ++ [p]) (upd H p u)) (ho : ObR K (ρ ++ [p]) (upd H p u) p o) : StR K (ρ ++ [p]) (upd H p u) (st ++ [o]) := by
  have ap := s.apart
  have np : p ∉ ρ := fun m => by obtain ⟨o, e, _⟩ := ap p m; rw [hp] at e; cases e
  refine ⟨by simp [s.len], ?_, fun n o' e => ?_⟩
  · rw [List.nodup_append]
    exact ⟨s.nd, List.nodup_cons.mpr ⟨by simp, List.nodup_nil⟩, fun a ha b hb e => by
      have : b = p := by simpa using hb
      subst this; subst e; exact np ha⟩
  · by_cases hn : n < st.length
    · rw [List.getElem?_append_left hn] at e
      obtain ⟨a, ha, hob⟩ := s.ob n o' e
      have hl := (List.getElem?_eq_some_iff.mp ha).1
      have hap : a ≠ p := fun z => np (z ▸ List.mem_of_getElem? ha)
      exact ⟨a, by rw [List.getElem?_append_left hl]; exact ha, hob.stay (upd_ne hap) ap g⟩
    · have hl : n < (st ++ [o]).length := (List.getElem?_eq_some_iff.mp e).1
      have : n = st.length := by simp at hl; omega
      subst this
      rw [List.getElem?_append_right (Nat.le_refl _)] at e
      simp at e; subst e
      exact ⟨p, by rw [← s.len, List.getElem?_append_right (Nat.le_refl _)]; simp, ho⟩
theorem grow_new {p : Addr} {u : HO} (hp : H p = none) : Grow ρ H (ρ ++ [p]) (upd H p u) :=
  ⟨⟨[p], rfl, fun a h => by have : a = p := by simpa using h
                            subst this; exact hp⟩, fun a o h _ => by rw [upd_ne (ne_of_none h hp)]; exact h, fun a _ h z => by
    by_cases e : a = p
    · subst e; rw [upd_same] at z; cases z
    · rw [upd_ne e] at z; exact h z⟩
/-- an immutable thing more -/
theorem grow_imm {p : Addr} {u : HO} (hp : H p = none) : Grow ρ H ρ (upd H p u) :=
  ⟨⟨[], by simp, fun _ h => nomatch h⟩, fun a o h _ => by rw [upd_ne (ne_of_none h hp)]; exact h, fun a _ h z => by
    by_cases e : a = p
    · subst e; rw [upd_same] at z; cases z
    · rw [upd_ne e] at z; exact h z⟩
theorem StR.grow_imm (s : StR K ρ H st) {p : Addr} {u : HO} (hp : H p = none) : StR K ρ (upd H p u) st := by
  have ap := s.apart
  have np : p ∉ ρ := fun m => by obtain ⟨o, e, _⟩ := ap p m; rw [hp] at e; cases e
  refine ⟨s.len, s.nd, fun n o e => ?_⟩
  obtain ⟨a, ha, hob⟩ := s.ob n o e
  have hap : a ≠ p := fun z => np (z ▸ List.mem_of_getElem? ha)
  exact ⟨a, ha, hob.stay (upd_ne hap) ap (MP.grow_imm hp)⟩
/-- an object of the store changed -/
theorem grow_write {a : Addr} {u : HO} (ha : a ∈ ρ) : Grow ρ H ρ (upd H a u) :=
  ⟨⟨[], by simp, fun _ h => nomatch h⟩, fun b o h n => by rw [upd_ne (fun z : b = a => n (by rw [z]; exact ha))]; exact h, fun b _ h z => by
    by_cases e : b = a
    · subst e; rw [upd_same] at z; cases z
    · rw [upd_ne e] at z; exact h z⟩
theorem StR.write (s : StR K ρ H st) {n : Nat} {a : Addr} {o : Ob} {u : HO} (hn : ρ[n]? = some a) (ho : ObR K ρ (upd H a u) a o) : StR K ρ (upd H a u) (st.set n o) := by
  have ap := s.apart
  have hm : a ∈ ρ := List.mem_of_getElem? hn
  have hnl := (List.getElem?_eq_some_iff.mp hn).1
  refine ⟨by simp [s.len], s.nd, fun k o' e => ?_⟩
  by_cases hk : n = k
  · subst hk
    rw [List.getElem?_set] at e
    rw [if_pos rfl, if_pos (by rw [← s.len]; exact hnl)] at e
    cases e
    exact ⟨a, hn, ho⟩
  · rw [List.getElem?_set_ne hk] at e
    obtain ⟨b, hb, hob⟩ := s.ob k o' e
    refine ⟨b, hb, ?_⟩
    have hab : b ≠ a := fun z => by
      subst z
      have h1 := (List.getElem?_eq_some_iff.mp hn)
      have h2 := (List.getElem?_eq_some_iff.mp hb)
      exact hk ((List.getElem_inj s.nd).mp (h1.2.trans h2.2.symm))
    exact hob.stay (upd_ne hab) ap (grow_write hm)
end
end MP
namespace MP
open PySem PySem.Spec PyProof.Rows L2

/-! ### what is wanted of a result; judgements -/
/-- an exception: an own class, its dict -/
def ErR (K : PySem.W.Frag) (mg : Str → Option Value) (ρ : List Addr) (H : Hp) (c : Str) (w : W) (cls : Value) (d : Option Addr) : Prop :=
  ∃ (C dd : Addr) (y : V), mg c = some (.ref C) ∧ cls = .ref C ∧ d = some dd ∧ H dd = some (.xd [(("value" : Str), y)]) ∧ dd ∉ ρ ∧ VR K ρ H w y
def Post {α β : Type} (K : PySem.W.Frag) (mg : Str → Option Value) (Wx : WX) (rel : List Addr → Hp → α → β → Prop) (ρ : List Addr) (H : Hp) (σ : L2.St) (r : Res α) (Q : β → Hp → Prop) : Prop :=
  match r with
  | .ok a st' => ∀ ρ' H' x, Grow ρ H ρ' H' → StR K ρ' H' st' → rel ρ' H' a x → Q x H'
  | .err c fs st' => ∀ ρ' H' cls d, Grow ρ H ρ' H' → StR K ρ' H' st' → ErR K mg ρ' H' c fs cls d → Wx cls d σ H'
  | .stuck => False
abbrev relV (K : PySem.W.Frag) : List Addr → Hp → W → V → Prop := VR K
abbrev relVs (K : PySem.W.Frag) : List Addr → Hp → List W → List V → Prop := VRs K
abbrev relE {α : Type} : List Addr → Hp → α → α → Prop := fun _ _ a b => a = b
section
variable {K : PySem.W.Frag} {mg : Str → Option Value} {Wx : WX} {ρ ρ1 : List Addr} {H H1 : Hp} {σ : L2.St} {α β γ δ : Type}
theorem Post.mono {rel : List Addr → Hp → α → β → Prop} {r : Res α} {Q : β → Hp → Prop} (h : Post K mg Wx rel ρ H σ r Q) (g : Grow ρ H ρ1 H1) : Post K mg Wx rel ρ1 H1 σ r Q := by
  cases r with
  | ok a st => exact fun ρ' H' x g' => h ρ' H' x (g.trans g')
  | err c fs st => exact fun ρ' H' cls d g' => h ρ' H' cls d (g.trans g')
  | stuck => exact h
theorem Post.bind {relA : List Addr → Hp → α → β → Prop} {relC : List Addr → Hp → γ → δ → Prop} {r : Res α} {k : α → Store → Res γ} {Q : δ → Hp → Prop} (h : Post K mg Wx relC ρ H σ (r.bind k) Q) :
    Post K mg Wx relA ρ H σ r (fun x H1 => ∃ ρ1 st1 a, Grow ρ H ρ1 H1 ∧ StR K ρ1 H1 st1 ∧ relA ρ1 H1 a x ∧ Post K mg Wx relC ρ1 H1 σ (k a st1) Q) := by
  cases r with
  | ok a st => exact fun ρ' H' x g s r => ⟨ρ', st, a, g, s, r, Post.mono h g⟩
  | err c fs st => exact h
  | stuck => exact h
theorem Post.ok_ {rel : List Addr → Hp → α → β → Prop} {a : α} {st : Store} {x : β} {Q : β → Hp → Prop} (h : Post K mg Wx rel ρ H σ (.ok a st) Q) (s : StR K ρ H st) (r : rel ρ H a x) : Q x H := h ρ H x .refl s r
end
/-- the reading of a denotation -/
def RG {α β : Type} (X : Cx) (ex : Option Exn) (Wx : WX) (rel : List Addr → Hp → α → β → Prop) (m : D α) : L2.St → Hp → (β → Hp → Prop) → Prop := fun σ H Q =>
  ∃ ρ env st, StR X.K ρ H st ∧ EnvR X.K ex ρ H env σ ∧ Post X.K X.mg Wx rel ρ H σ (m env st) Q
abbrev IE (X : Cx) (ex : Option Exn) (Wx : WX) (e : Expr) (m : D W) : Prop := PE X e (RG X ex Wx (relV X.K) m)
abbrev IA (X : Cx) (ex : Option Exn) (Wx : WX) (es : List Expr) (m : D (List W)) : Prop := PA X es (RG X ex Wx (relVs X.K) m)
abbrev IT (X : Cx) (ex : Option Exn) (Wx : WX) (e : Expr) (m : D Bool) : Prop := PT X e (RG X ex Wx relE m)
abbrev IW (X : Cx) (ex : Option Exn) (Wx : WX) (e : Expr) (m : D Bool) : Prop := PW X e (RG X ex Wx relE m)
section
variable {X : Cx} {ex : Option Exn} {Wx : WX} {α β γ δ : Type}
theorem PE.of {e : Expr} {t t' : TE} (h : PE X e t) (w : ∀ σ H Q, t' σ H Q → t σ H Q) : PE X e t' := ⟨fun pins s σ H Q I q => h.run pins s σ H Q I (w _ _ _ q)⟩
theorem PT.of {e : Expr} {t t' : TT} (h : PT X e t) (w : ∀ σ H Q, t' σ H Q → t σ H Q) : PT X e t' := ⟨fun pins s σ H Q I q => h.run pins s σ H Q I (w _ _ _ q)⟩
theorem PW.of {e : Expr} {t t' : TT} (h : PW X e t) (w : ∀ σ H Q, t' σ H Q → t σ H Q) : PW X e t' := ⟨fun whole pins s σ H Q I q => h.run whole pins s σ H Q I (w _ _ _ q)⟩
theorem PA.of {es : List Expr} {t t' : TA} (h : PA X es t) (w : ∀ σ H Q, t' σ H Q → t σ H Q) : PA X es t' := ⟨fun pos pins s σ H Q I q => h.run pos pins s σ H Q I (w _ _ _ q)⟩
theorem PS.of {e : Stmt} {t t' : TS} (h : PS X e t) (w : ∀ D σ H, t' D σ H → t D σ H) : PS X e t' := ⟨fun pins s σ H D I q => h.run pins s σ H D I (w _ _ _ q)⟩
theorem PSs.of {e : List Stmt} {t t' : TS} (h : PSs X e t) (w : ∀ D σ H, t' D σ H → t D σ H) : PSs X e t' := ⟨fun pins s σ H D I q => h.run pins s σ H D I (w _ _ _ q)⟩
/-- one step of a reading: m's, then what k asks -/
theorem RG.bind {relA : List Addr → Hp → α → β → Prop} {relC : List Addr → Hp → γ → δ → Prop} {ρ : List Addr} {H : Hp} {σ : L2.St} {env : EnvW} {st : Store} {m : D α} {k : α → Store → Res γ} {Q : δ → Hp → Prop} {R : β → Hp → Prop}
    (s : StR X.K ρ H st) (e : EnvR X.K ex ρ H env σ) (h : Post X.K X.mg Wx relC ρ H σ ((m env st).bind k) Q)
    (hk : ∀ ρ1 H1 st1 a x, Grow ρ H ρ1 H1 → StR X.K ρ1 H1 st1 → EnvR X.K ex ρ1 H1 env σ → relA ρ1 H1 a x → Post X.K X.mg Wx relC ρ1 H1 σ (k a st1) Q → R x H1) : RG X ex Wx relA m σ H R := by
  refine ⟨ρ, env, st, s, e, ?_⟩
  generalize hm : m env st = r at h
  cases r with
  | ok a st' => exact fun ρ' H' x g s' r => hk ρ' H' st' a x g s' (e.grow s.apart g) r (Post.mono h g)
  | err c fs st' => exact h
  | stuck => exact h
end

/-! ### denotations -/
def dVar (i : Nat) : D W := fun env st => match env[i]? with
  | some (some w) => .ok w st
  | _ => .stuck
def dC (w : W) : D W := fun _ st => .ok w st
def dOp (f : W → W → Store → Res W) (ma mb : D W) : D W := fun env st => (ma env st).bind fun a st1 => (mb env st1).bind fun b st2 => f a b st2
def dUn (f : W → Store → Res W) (ma : D W) : D W := fun env st => (ma env st).bind fun a st1 => f a st1
def dIf (c : D Bool) (ma mb : D W) : D W := fun env st => (c env st).bind fun b st1 => if b = true then ma env st1 else mb env st1
def dNil : D (List W) := fun _ st => .ok [] st
def dCons (m : D W) (r : D (List W)) : D (List W) := fun env st => (m env st).bind fun a st1 => (r env st1).bind fun l st2 => .ok (a :: l) st2
def dTup (m : D (List W)) : D W := fun env st => (m env st).bind fun l st1 => if l.length ≤ sizeLine then .ok (.tup l) st1 else .stuck
def dLst (m : D (List W)) : D W := fun env st => (m env st).bind fun l st1 => if l.length ≤ sizeLine then .ok (.loc st1.length) (st1 ++ [.lst l]) else .stuck
def dApp (f : List W → Store → Res W) (m : D (List W)) : D W := fun env st => (m env st).bind fun l st1 => f l st1
/-- tests -/
def dBool (m : D W) : D Bool := fun env st => (m env st).bind fun a st1 => match a with
  | .bl b => .ok b st1
  | _ => .stuck
def dAnd (a b : D Bool) : D Bool := fun env st => (a env st).bind fun c st1 => if c = true then b env st1 else .ok false st1
def dOr (a b : D Bool) : D Bool := fun env st => (a env st).bind fun c st1 => if c = true then .ok true st1 else b env st1
def dNot (a : D Bool) : D Bool := fun env st => (a env st).bind fun c st1 => .ok (!c) st1
def dAndV (a b : D W) : D W := fun env st => (a env st).bind fun x st1 => match x with
  | .bl c => if c = true then b env st1 else .ok (.bl false) st1
  | _ => .stuck
def dOrV (a b : D W) : D W := fun env st => (a env st).bind fun x st1 => match x with
  | .bl c => if c = true then .ok (.bl true) st1 else b env st1
  | _ => .stuck
def dNotV (a : D W) : D W := fun env st => (a env st).bind fun x st1 => match x with
  | .bl c => .ok (.bl (!c)) st1
  | _ => .stuck
def dChain (f g : W → W → Store → Res W) (ma mb mc : D W) : D W := fun env st => (ma env st).bind fun a st1 => (mb env st1).bind fun b st2 => (f a b st2).bind fun x st3 => match x with
  | .bl true => (mc env st3).bind fun c st4 => g b c st4
  | .bl false => .ok (.bl false) st3
  | _ => .stuck

section
variable {X : Cx} {ex : Option Exn} {Wx : WX} {pos : Pos}
/-- a two-place operation by values -/
def OpOk (X : Cx) (r : R2) (f : W → W → Store → Res W) : Prop :=
  ∀ (Wx : WX) (ρ : List Addr) (H : Hp) (st : Store) (σ : L2.St) (a b : W) (x y : V) (Q : VK), StR X.K ρ H st → VR X.K ρ H a x → VR X.K ρ H b y → Post X.K X.mg Wx (relV X.K) ρ H σ (f a b st) Q → r x y H Q
def UnOk (X : Cx) (r : V → Hp → VK → Prop) (f : W → Store → Res W) : Prop :=
  ∀ (Wx : WX) (ρ : List Addr) (H : Hp) (st : Store) (σ : L2.St) (a : W) (x : V) (Q : VK), StR X.K ρ H st → VR X.K ρ H a x → Post X.K X.mg Wx (relV X.K) ρ H σ (f a st) Q → r x H Q
def CallOk (X : Cx) (r : List V → Hp → VK → Prop) (f : List W → Store → Res W) : Prop :=
  ∀ (Wx : WX) (ρ : List Addr) (H : Hp) (st : Store) (σ : L2.St) (l : List W) (vs : List V) (Q : VK), StR X.K ρ H st → VRs X.K ρ H l vs → Post X.K X.mg Wx (relV X.K) ρ H σ (f l st) Q → r vs H Q
theorem OpR.or {f : Value → Value → Sem Value} {r r' : R2} (h : OpR X f r) (h' : OpR X f r') : OpR X f (fun x y H Q => r x y H Q ∨ r' x y H Q) := fun pins s σ H x y v u Q I a b q => by
  rcases q with q | q
  · exact h pins s σ H x y v u Q I a b q
  · exact h' pins s σ H x y v u Q I a b q
theorem ie_var (i : Nat) {x : Str} (hN : X.N[i]? = some x := by rfl) (hv : Vis X.env.scope x := by first | exact Or.inl rfl | exact Or.inr (Or.inl rfl) | exact Or.inr (Or.inr rfl)) (hd : (x == ("__debug__" : Str)) = false := by decide)
    (hcd : (x == ("__classdict__" : Str)) = false := by decide) : IE X ex Wx (.Name x pos) (dVar i) := by
  refine PE.of (pe_var hN hv hd hcd) fun σ H Q ⟨ρ, env, st, s, e, p⟩ => ?_
  unfold dVar at p
  generalize hq : env[i]? = o at p
  match o, hq, p with
  | some (some w), hq, p =>
    obtain ⟨v, h1, h2⟩ := e.at_ i w hq
    exact ⟨v, h1, p.ok_ s h2⟩
  | some none, _, p => exact p.elim
  | none, _, p => exact p.elim
theorem ie_c {e : Expr} {v : V} {w : W} (h : PE X e (tC v)) (r : ∀ ρ H, VR X.K ρ H w v) : IE X ex Wx e (dC w) :=
  PE.of h fun σ H Q ⟨ρ, env, st, s, e, p⟩ => p.ok_ s (r ρ H)
theorem ie_op {a b : Expr} {op : Operator} {r : R2} {f : W → W → Store → Res W} {ma mb : D W} (ho : OpR X (binaryOp op) r) (hf : OpOk X r f) (ha : IE X ex Wx a ma) (hb : IE X ex Wx b mb) : IE X ex Wx (.BinOp a op b pos) (dOp f ma mb) :=
  PE.of (pe_op ho ha hb) fun σ H Q ⟨ρ, env, st, s, e, p⟩ => RG.bind s e p fun ρ1 H1 st1 a x g1 s1 e1 ra p1 => RG.bind s1 e1 p1 fun ρ2 H2 st2 b y g2 s2 e2 rb p2 =>
    hf Wx ρ2 H2 st2 σ a b x y Q s2 (VR.grow s1.apart g2 a x ra) rb p2
theorem ie_cmp {a b : Expr} {op : CmpOp} {r : R2} {f : W → W → Store → Res W} {ma mb : D W} (ho : OpR X (compareOp op) r) (hf : OpOk X r f) (ha : IE X ex Wx a ma) (hb : IE X ex Wx b mb) (hm : behindInMarks op b = false) : IE X ex Wx (.Compare a [op] [b] pos) (dOp f ma mb) :=
  PE.of (pe_cmpR ho ha hb hm) fun σ H Q ⟨ρ, env, st, s, e, p⟩ => RG.bind s e p fun ρ1 H1 st1 a x g1 s1 e1 ra p1 => RG.bind s1 e1 p1 fun ρ2 H2 st2 b y g2 s2 e2 rb p2 =>
    hf Wx ρ2 H2 st2 σ a b x y Q s2 (VR.grow s1.apart g2 a x ra) rb p2
/-- a value that is a bool, as a test -/
theorem dBool_step {m : D W} {σ : L2.St} {H : Hp} {Q : Bool → Hp → Prop} (h : RG X ex Wx relE (dBool m) σ H Q) : RG X ex Wx (relV X.K) m σ H fun x H' => ∃ k, x = .bl k ∧ Q k H' := by
  obtain ⟨ρ, env, st, s, e, p⟩ := h
  refine RG.bind s e p fun ρ1 H1 st1 a x g1 s1 e1 ra p1 => ?_
  cases a with
  | bl b =>
    simp only [VR] at ra
    exact ⟨b, ra, p1.ok_ s1 rfl⟩
  | _ => exact p1.elim
theorem it_cmp {a b : Expr} {op : CmpOp} {r : R2} {f : W → W → Store → Res W} {ma mb : D W} (ho : OpR X (compareOp op) r) (hf : OpOk X r f) (ha : IE X ex Wx a ma) (hb : IE X ex Wx b mb) (hm : behindInMarks op b = false) : IT X ex Wx (.Compare a [op] [b] pos) (dBool (dOp f ma mb)) :=
  PT.of (pt_cmpR ho ha hb hm) fun σ H Q h => by
    obtain ⟨ρ, env, st, s, e, p⟩ := dBool_step h
    exact RG.bind s e p fun ρ1 H1 st1 a x g1 s1 e1 ra p1 => RG.bind s1 e1 p1 fun ρ2 H2 st2 b y g2 s2 e2 rb p2 =>
      hf Wx ρ2 H2 st2 σ a b x y _ s2 (VR.grow s1.apart g2 a x ra) rb p2
theorem ie_un {a : Expr} {op : UnaryOp} {r : V → Hp → VK → Prop} {f : W → Store → Res W} {ma : D W} (ho : UnR X (unaryOp op) r) (hf : UnOk X r f) (ha : IE X ex Wx a ma) : IE X ex Wx (.UnaryOp op a pos) (dUn f ma) :=
  PE.of (pe_un ho ha) fun σ H Q ⟨ρ, env, st, s, e, p⟩ => RG.bind s e p fun ρ1 H1 st1 a x g1 s1 e1 ra p1 => hf Wx ρ1 H1 st1 σ a x Q s1 ra p1
theorem ie_if {c a b : Expr} {mc : D Bool} {ma mb : D W} (hc : IT X ex Wx c mc) (ha : IE X ex Wx a ma) (hb : IE X ex Wx b mb) : IE X ex Wx (.IfExp c a b pos) (dIf mc ma mb) :=
  PE.of (pe_ifExp hc ha hb) fun σ H Q ⟨ρ, env, st, s, e, p⟩ => RG.bind s e p fun ρ1 H1 st1 a x g1 s1 e1 ra p1 => by
    have ra' : a = x := ra
    subst ra'
    by_cases h : a = true
    · rw [if_pos h] at p1 ⊢; exact ⟨ρ1, env, st1, s1, e1, p1⟩
    · rw [if_neg h] at p1 ⊢; exact ⟨ρ1, env, st1, s1, e1, p1⟩
theorem ia_nil : IA X ex Wx [] dNil := PA.of pa_nil fun σ H Q ⟨ρ, env, st, s, e, p⟩ => p.ok_ s (by simp [VRs])
theorem ia_cons {e : Expr} {es : List Expr} {m : D W} {r : D (List W)} (he : IE X ex Wx e m) (hr : IA X ex Wx es r) (hs : starEach (e :: es) X.env = (false, eval e X.env) :: starEach es X.env := by rfl) : IA X ex Wx (e :: es) (dCons m r) :=
  PA.of (pa_cons he hr hs) fun σ H Q ⟨ρ, env, st, s, e, p⟩ => RG.bind s e p fun ρ1 H1 st1 a x g1 s1 e1 ra p1 => RG.bind s1 e1 p1 fun ρ2 H2 st2 l xs g2 s2 e2 rb p2 =>
    p2.ok_ s2 (VRs.cons' (VR.grow s1.apart g2 a x ra) rb)
theorem tup_new {ρ : List Addr} {H : Hp} {st : Store} {l : List W} {xs : List V} {p : Addr} (s : StR X.K ρ H st) (r : VRs X.K ρ H l xs) (hp : H p = none) : VR X.K ρ (upd H p (.tup xs)) (.tup l) (.ref p) := by
  simp only [VR]
  exact ⟨p, xs, rfl, .inl upd_same, VRs.grow s.apart (grow_imm hp) l xs r⟩
theorem lst_new {ρ : List Addr} {H : Hp} {st : Store} {l : List W} {xs : List V} {p : Addr} (s : StR X.K ρ H st) (r : VRs X.K ρ H l xs) (hp : H p = none) : StR X.K (ρ ++ [p]) (upd H p (.lst xs)) (st ++ [.lst l]) ∧ VR X.K (ρ ++ [p]) (upd H p (.lst xs)) (.loc st.length) (.ref p) := by
  have g : Grow ρ H (ρ ++ [p]) (upd H p (.lst xs)) := grow_new hp
  refine ⟨s.new hp g ⟨xs, upd_same, VRs.grow s.apart g l xs r⟩, ?_⟩
  simp only [VR]
  exact ⟨p, by rw [← s.len]; simp, rfl⟩
theorem ie_tup {es : List Expr} {m : D (List W)} {x1} (h : IA X ex Wx es m) : IE X ex Wx (.Tuple es x1 pos) (dTup m) :=
  PE.of (pe_tup h) fun σ H Q ⟨ρ, env, st, s, e, p⟩ => RG.bind s e p fun ρ1 H1 st1 l xs g1 s1 e1 r p1 => by
    by_cases hz : l.length ≤ sizeLine
    · rw [if_pos hz] at p1
      refine ⟨by rw [← VRs.length r]; exact hz, fun q hq => ?_⟩
      exact p1 ρ1 _ _ (grow_imm hq) (s1.grow_imm hq) (tup_new s1 r hq)
    · rw [if_neg hz] at p1; exact p1.elim
theorem ie_lst {es : List Expr} {m : D (List W)} (h : IA X ex Wx es m) : IE X ex Wx (.List es pos) (dLst m) :=
  PE.of (pe_lst h) fun σ H Q ⟨ρ, env, st, s, e, p⟩ => RG.bind s e p fun ρ1 H1 st1 l xs g1 s1 e1 r p1 => by
    by_cases hz : l.length ≤ sizeLine
    · rw [if_pos hz] at p1
      refine ⟨by rw [← VRs.length r]; exact hz, fun q hq => ?_⟩
      obtain ⟨a, b⟩ := lst_new s1 r hq
      exact p1 (ρ1 ++ [q]) _ _ (grow_new hq) a b
    · rw [if_neg hz] at p1; exact p1.elim
/-! tests -/
theorem iw_and1 {a : Expr} {m : D Bool} (ha : IT X ex Wx a m) : IW X ex Wx (.BoolOp .And [a] pos) m := pw_and1 ha
theorem iw_or1 {a : Expr} {m : D Bool} (ha : IT X ex Wx a m) : IW X ex Wx (.BoolOp .Or [a] pos) m := pw_or1 ha
theorem iw_and {a b : Expr} {rest : List Expr} {ma mb : D Bool} (ha : IT X ex Wx a ma) (hb : IW X ex Wx (.BoolOp .And (b :: rest) pos) mb) : IW X ex Wx (.BoolOp .And (a :: b :: rest) pos) (dAnd ma mb) :=
  PW.of (pw_and ha hb) fun σ H Q ⟨ρ, env, st, s, e, p⟩ => RG.bind s e p fun ρ1 H1 st1 a x g1 s1 e1 ra p1 => by
    have ra' : a = x := ra
    subst ra'
    by_cases h : a = true
    · rw [if_pos h] at p1 ⊢; exact ⟨ρ1, env, st1, s1, e1, p1⟩
    · rw [if_neg h] at p1 ⊢; exact p1.ok_ s1 rfl
theorem iw_or {a b : Expr} {rest : List Expr} {ma mb : D Bool} (ha : IT X ex Wx a ma) (hb : IW X ex Wx (.BoolOp .Or (b :: rest) pos) mb) : IW X ex Wx (.BoolOp .Or (a :: b :: rest) pos) (dOr ma mb) :=
  PW.of (pw_or ha hb) fun σ H Q ⟨ρ, env, st, s, e, p⟩ => RG.bind s e p fun ρ1 H1 st1 a x g1 s1 e1 ra p1 => by
    have ra' : a = x := ra
    subst ra'
    by_cases h : a = true
    · rw [if_pos h] at p1 ⊢; exact p1.ok_ s1 rfl
    · rw [if_neg h] at p1 ⊢; exact ⟨ρ1, env, st1, s1, e1, p1⟩
theorem it_w {e : Expr} {m : D Bool} (h : IW X ex Wx e m) : IT X ex Wx e m := PW.pt h
theorem it_not {a : Expr} {m : D Bool} (ha : IT X ex Wx a m) : IT X ex Wx (.UnaryOp .Not a pos) (dNot m) :=
  PT.of (pt_not ha) fun σ H Q ⟨ρ, env, st, s, e, p⟩ => RG.bind s e p fun ρ1 H1 st1 a x g1 s1 e1 ra p1 => by
    have ra' : a = x := ra
    subst ra'
    exact p1.ok_ s1 rfl
/-! as values -/
theorem ie_one {a : Expr} {op} {m : D W} (ha : IE X ex Wx a m) : IE X ex Wx (.BoolOp op [a] pos) m := pe_one ha
theorem ie_and {a b : Expr} {rest : List Expr} {ma mb : D W} (ha : IE X ex Wx a ma) (hb : IE X ex Wx (.BoolOp .And (b :: rest) pos) mb) : IE X ex Wx (.BoolOp .And (a :: b :: rest) pos) (dAndV ma mb) :=
  PE.of (pe_and ha hb) fun σ H Q ⟨ρ, env, st, s, e, p⟩ => RG.bind s e p fun ρ1 H1 st1 a x g1 s1 e1 ra p1 => by
    cases a with
    | bl c =>
      simp only [VR] at ra
      refine ⟨c, ra, ?_⟩
      simp only at p1
      by_cases h : c = true
      · rw [if_pos h] at p1 ⊢; exact ⟨ρ1, env, st1, s1, e1, p1⟩
      · rw [if_neg h] at p1 ⊢; exact p1.ok_ s1 (by simp [VR])
    | _ => exact p1.elim
theorem ie_or {a b : Expr} {rest : List Expr} {ma mb : D W} (ha : IE X ex Wx a ma) (hb : IE X ex Wx (.BoolOp .Or (b :: rest) pos) mb) : IE X ex Wx (.BoolOp .Or (a :: b :: rest) pos) (dOrV ma mb) :=
  PE.of (pe_or ha hb) fun σ H Q ⟨ρ, env, st, s, e, p⟩ => RG.bind s e p fun ρ1 H1 st1 a x g1 s1 e1 ra p1 => by
    cases a with
    | bl c =>
      simp only [VR] at ra
      refine ⟨c, ra, ?_⟩
      simp only at p1
      by_cases h : c = true
      · rw [if_pos h] at p1 ⊢; exact p1.ok_ s1 (by simp [VR])
      · rw [if_neg h] at p1 ⊢; exact ⟨ρ1, env, st1, s1, e1, p1⟩
    | _ => exact p1.elim
theorem ie_notV {a : Expr} {ma : D W} (ha : IE X ex Wx a ma) : IE X ex Wx (.UnaryOp .Not a pos) (dNotV ma) :=
  PE.of (pe_not ha) fun σ H Q ⟨ρ, env, st, s, e, p⟩ => RG.bind s e p fun ρ1 H1 st1 a x g1 s1 e1 ra p1 => by
    cases a with
    | bl c =>
      simp only [VR] at ra
      exact ⟨c, ra, p1.ok_ s1 (by simp [VR])⟩
    | _ => exact p1.elim
theorem ie_chain {a b c : Expr} {op op' : CmpOp} {r r' : R2} {f g : W → W → Store → Res W} {ma mb mc : D W} (ho : OpR X (compareOp op) r) (hf : OpOk X r f) (ho' : OpR X (compareOp op') r') (hg : OpOk X r' g) (ha : IE X ex Wx a ma) (hb : IE X ex Wx b mb) (hc : IE X ex Wx c mc)
    (hm : lastMarks [op, op'] [b, c] = false := by with_unfolding_all rfl) : IE X ex Wx (.Compare a [op, op'] [b, c] pos) (dChain f g ma mb mc) := by
  refine PE.of (pe_chain ho ho' ha hb hc hm) fun σ H Q ⟨ρ, env, st, s, e, p⟩ => RG.bind s e p fun ρ1 H1 st1 a x g1 s1 e1 ra p1 => RG.bind s1 e1 p1 fun ρ2 H2 st2 b y g2 s2 e2 rb p2 => ?_
  refine hf Wx ρ2 H2 st2 σ a b x y _ s2 (VR.grow s1.apart g2 a x ra) rb ?_
  generalize f a b st2 = q at p2
  cases q with
  | stuck => exact p2
  | err c fs st' => exact p2
  | ok z st3 =>
    intro ρ3 H3 zv g3 s3 rz
    simp only [Res.bind_ok] at p2
    cases z with
    | bl k =>
      simp only [relV, VR] at rz
      refine ⟨k, rz, ?_⟩
      cases k with
      | true =>
        rw [if_pos rfl]
        simp only at p2
        exact RG.bind s3 (e2.grow s2.apart g3) (Post.mono p2 g3) fun ρ4 H4 st4 c z g4 s4 e4 rc p4 => hg Wx ρ4 H4 st4 σ b c y z Q s4 (VR.grow s3.apart g4 b y (VR.grow s2.apart g3 b y rb)) rc p4
      | false =>
        rw [if_neg (by decide)]
        simp only at p2
        exact (Post.mono p2 g3).ok_ s3 (by simp [VR])
    | _ => exact p2.elim
end
end MP
namespace MP
open PySem PySem.Spec PyProof.Rows L2

/-! ### statements -/
inductive Fl where
  | nx | rt (v : W) | bk | ct
inductive RsS where
  | go (f : Fl) (env : EnvW) (st : Store)
  | err (c : Str) (fs : W) (env : EnvW) (st : Store)
  | stuck
abbrev DS := EnvW → Store → RsS
abbrev DT := W → EnvW → Store → Option (EnvW × Store)
/-- an expression's result, then a statement's -/
def Res.then {α : Type} (r : Res α) (env : EnvW) (k : α → Store → RsS) : RsS := match r with
  | .ok a st => k a st
  | .err c fs st => .err c fs env st
  | .stuck => .stuck
@[simp] theorem Res.then_ok {α : Type} (a : α) (st : Store) (env : EnvW) (k : α → Store → RsS) : (Res.ok a st).then env k = k a st := rfl
@[simp] theorem Res.then_err {α : Type} (c : Str) (fs : W) (st : Store) (env : EnvW) (k : α → Store → RsS) : (Res.err c fs st : Res α).then env k = .err c fs env st := rfl
@[simp] theorem Res.then_stuck {α : Type} (env : EnvW) (k : α → Store → RsS) : (Res.stuck : Res α).then env k = .stuck := rfl
def RsS.next (r : RsS) (k : EnvW → Store → RsS) : RsS := match r with
  | .go .nx env st => k env st
  | r => r
@[simp] theorem RsS.next_nx (env : EnvW) (st : Store) (k) : (RsS.go .nx env st).next k = k env st := rfl
@[simp] theorem RsS.next_rt (v : W) (env : EnvW) (st : Store) (k) : (RsS.go (.rt v) env st).next k = .go (.rt v) env st := rfl
@[simp] theorem RsS.next_bk (env : EnvW) (st : Store) (k) : (RsS.go .bk env st).next k = .go .bk env st := rfl
@[simp] theorem RsS.next_ct (env : EnvW) (st : Store) (k) : (RsS.go .ct env st).next k = .go .ct env st := rfl
@[simp] theorem RsS.next_err (c : Str) (fs : W) (env : EnvW) (st : Store) (k) : (RsS.err c fs env st).next k = .err c fs env st := rfl
@[simp] theorem RsS.next_stuck (k) : (RsS.stuck).next k = .stuck := rfl
def PostF (K : PySem.W.Frag) (D : Ends) (ρ : List Addr) (H : Hp) (σ : L2.St) : Fl → Prop
  | .nx => D.nx σ H
  | .bk => D.bk σ H
  | .ct => D.ct σ H
  | .rt v => ∀ x, VR K ρ H v x → D.rt x H
def PostS (K : PySem.W.Frag) (ex : Option Exn) (mg : Str → Option Value) (Wx : WX) (D : Ends) (ρ : List Addr) (H : Hp) (r : RsS) : Prop := match r with
  | .go f env' st' => ∀ ρ' H' σ', Grow ρ H ρ' H' → StR K ρ' H' st' → EnvR K ex ρ' H' env' σ' → PostF K D ρ' H' σ' f
  | .err c fs env' st' => ∀ ρ' H' σ' cls d, Grow ρ H ρ' H' → StR K ρ' H' st' → EnvR K ex ρ' H' env' σ' → ErR K mg ρ' H' c fs cls d → Wx cls d σ' H'
  | .stuck => False
section
variable {K : PySem.W.Frag} {ex : Option Exn} {mg : Str → Option Value} {Wx : WX} {ρ ρ1 : List Addr} {H H1 : Hp} {De : Ends}
theorem PostS.mono {r : RsS} (h : PostS K ex mg Wx De ρ H r) (g : Grow ρ H ρ1 H1) : PostS K ex mg Wx De ρ1 H1 r := by
  cases r with
  | go f env st => exact fun ρ' H' σ' g' => h ρ' H' σ' (g.trans g')
  | err c fs env st => exact fun ρ' H' σ' cls d g' => h ρ' H' σ' cls d (g.trans g')
  | stuck => exact h
theorem PostS.go_ {f : Fl} {env : EnvW} {st : Store} {σ : L2.St} (h : PostS K ex mg Wx De ρ H (.go f env st)) (s : StR K ρ H st) (e : EnvR K ex ρ H env σ) : PostF K De ρ H σ f := h ρ H σ .refl s e
end
def RS (X : Cx) (ex : Option Exn) (Wx : WX) (m : DS) : TS := fun D σ H => ∃ ρ env st, StR X.K ρ H st ∧ EnvR X.K ex ρ H env σ ∧ PostS X.K ex X.mg Wx D ρ H (m env st)
abbrev IS (X : Cx) (ex : Option Exn) (Wx : WX) (s : Stmt) (m : DS) : Prop := PS X s (RS X ex Wx m)
abbrev ISs (X : Cx) (ex : Option Exn) (Wx : WX) (s : List Stmt) (m : DS) : Prop := PSs X s (RS X ex Wx m)
theorem wipe_set {σ : L2.St} {i : Nat} {v : Option V} : ∀ {vs : List Nat}, i ∈ vs → wipe (σ.set i v) vs = wipe σ vs
  | [], h => nomatch h
  | j :: vs, h => by
    show (wipe (σ.set i v) vs).set j none = (wipe σ vs).set j none
    by_cases hj : i ∈ vs
    · rw [wipe_set hj]
    · have hij : i = j := by
        rcases List.mem_cons.mp h with h | h
        · exact h
        · exact absurd h hj
      subst hij
      have : ∀ (l : List Nat), i ∉ l → wipe (σ.set i v) l = (wipe σ l).set i v := by
        intro l
        induction l with
        | nil => intro _; rfl
        | cons k l ih =>
          intro hn
          have hk : i ≠ k := fun z => hn (z ▸ List.mem_cons_self)
          show (wipe (σ.set i v) l).set k none = ((wipe σ l).set k none).set i v
          rw [ih (fun z => hn (List.mem_cons_of_mem _ z)), List.set_comm _ _ hk]
      rw [this vs hj, List.set_set]
theorem wipe_wipe {σ : L2.St} {vs : List Nat} : wipe (wipe σ vs) vs = wipe σ vs := by
  have : ∀ (l : List Nat) (τ : L2.St), (∀ i ∈ l, i ∈ vs) → wipe (wipe τ l) vs = wipe τ vs := by
    intro l
    induction l with
    | nil => intro τ _; rfl
    | cons k l ih =>
      intro τ h
      show wipe ((wipe τ l).set k none) vs = wipe τ vs
      rw [wipe_set (h k List.mem_cons_self), ih τ fun i hi => h i (List.mem_cons_of_mem _ hi)]
  exact this vs σ fun _ h => h
/-- a target's reading: of the slots only those at vs may change -/
def RT (X : Cx) (ex : Option Exn) (vs : List Nat) (t : DT) : TG := fun v σ H Q => ∃ ρ env st w, StR X.K ρ H st ∧ EnvR X.K ex ρ H env σ ∧ VR X.K ρ H w v ∧ ∃ env' st', t w env st = some (env', st') ∧ ∀ ρ' H' σ', Grow ρ H ρ' H' → StR X.K ρ' H' st' → EnvR X.K ex ρ' H' env' σ' → wipe σ' vs = wipe σ vs → Q σ' H'
abbrev IG (X : Cx) (ex : Option Exn) (vs : List Nat) (e : Expr) (t : DT) : Prop := PG X e (RT X ex vs t)

/-! denotations -/
def sSeq (a b : DS) : DS := fun env st => (a env st).next b
def sNil : DS := fun env st => .go .nx env st
def sExpr (m : D W) : DS := fun env st => (m env st).then env fun _ st1 => .go .nx env st1
def sRet (m : D W) : DS := fun env st => (m env st).then env fun a st1 => .go (.rt a) env st1
def sRetN : DS := fun env st => .go (.rt .non) env st
def sBk : DS := fun env st => .go .bk env st
def sCt : DS := fun env st => .go .ct env st
def sIf (c : D Bool) (a b : DS) : DS := fun env st => (c env st).then env fun k st1 => if k = true then a env st1 else b env st1
def sNever : DS := fun _ _ => .stuck
def sAsg (m : D W) (t : DT) : DS := fun env st => (m env st).then env fun a st1 => match t a env st1 with
  | some (env', st2) => .go .nx env' st2
  | none => .stuck
def tName (i : Nat) : DT := fun w env st => some (env.set i (some w), st)
def tAll : List DT → List W → EnvW → Store → Option (EnvW × Store)
  | [], [], env, st => some (env, st)
  | t :: ts, w :: ws, env, st => (t w env st).bind fun p => tAll ts ws p.1 p.2
  | _, _, _, _ => none
def tTupT (ts : List DT) : DT := fun w env st => match w with
  | .tup ws => tAll ts ws env st
  | _ => none

section
variable {X : Cx} {ex : Option Exn} {Wx : WX} {pos : Pos} {α β : Type}
/-- an expression within a statement -/
theorem RS.step {rel : List Addr → Hp → α → β → Prop} {De : Ends} {ρ : List Addr} {H : Hp} {σ : L2.St} {env : EnvW} {st : Store} {m : D α} {k : α → Store → RsS} {R : β → Hp → Prop}
    (s : StR X.K ρ H st) (e : EnvR X.K ex ρ H env σ) (h : PostS X.K ex X.mg Wx De ρ H ((m env st).then env k))
    (hk : ∀ ρ1 H1 st1 a x, Grow ρ H ρ1 H1 → StR X.K ρ1 H1 st1 → EnvR X.K ex ρ1 H1 env σ → rel ρ1 H1 a x → PostS X.K ex X.mg Wx De ρ1 H1 (k a st1) → R x H1) : RG X ex Wx rel m σ H R := by
  refine ⟨ρ, env, st, s, e, ?_⟩
  generalize hm : m env st = r at h
  cases r with
  | ok a st' => exact fun ρ' H' x g s' r => hk ρ' H' st' a x g s' (e.grow s.apart g) r (PostS.mono h g)
  | err c fs st' => exact fun ρ' H' cls d g s' r => h ρ' H' σ cls d g s' (e.grow s.apart g) r
  | stuck => exact h
/-- the first of two statements -/
theorem PostS.seq {De : Ends} {ρ : List Addr} {H : Hp} {r : RsS} {k : DS} (h : PostS X.K ex X.mg Wx De ρ H (r.next k)) : PostS X.K ex X.mg Wx { De with nx := RS X ex Wx k De } ρ H r := by
  cases r with
  | stuck => exact h
  | err c fs env st => exact h
  | go f env st =>
    cases f with
    | nx => exact fun ρ' H' σ' g s e => ⟨ρ', env, st, s, e, PostS.mono h g⟩
    | rt v => exact h
    | bk => exact h
    | ct => exact h
theorem is_cons {a : Stmt} {rest : List Stmt} {m k : DS} (ha : IS X ex Wx a m) (hr : ISs X ex Wx rest k) : ISs X ex Wx (a :: rest) (sSeq m k) :=
  PSs.of (pss_cons ha hr) fun D σ H ⟨ρ, env, st, s, e, p⟩ => ⟨ρ, env, st, s, e, PostS.seq p⟩
theorem is_one {a : Stmt} {m : DS} (ha : IS X ex Wx a m) : ISs X ex Wx [a] m := pss_one ha
theorem is_nil : ISs X ex Wx [] sNil := PSs.of pss_nil fun D σ H ⟨ρ, env, st, s, e, p⟩ => p.go_ s e
theorem is_never {a : Stmt} : IS X ex Wx a sNever := PS.of ps_never fun D σ H ⟨ρ, env, st, s, e, p⟩ => p
theorem is_neverS {a : List Stmt} : ISs X ex Wx a sNever := PSs.of pss_never fun D σ H ⟨ρ, env, st, s, e, p⟩ => p
theorem is_pass : IS X ex Wx (.Pass pos) sNil := PS.of ps_pass fun D σ H ⟨ρ, env, st, s, e, p⟩ => p.go_ s e
theorem is_break : IS X ex Wx (.Break pos) sBk := PS.of ps_break fun D σ H ⟨ρ, env, st, s, e, p⟩ => p.go_ s e
theorem is_continue : IS X ex Wx (.Continue pos) sCt := PS.of ps_continue fun D σ H ⟨ρ, env, st, s, e, p⟩ => p.go_ s e
theorem is_expr {e : Expr} {m : D W} (he : IE X ex Wx e m) (hs : swapsWith e none pos.line X.env = pure false := by rfl) : IS X ex Wx (.Expr e pos) (sExpr m) :=
  PS.of (ps_expr he hs) fun De σ H ⟨ρ, env, st, s, e, p⟩ => RS.step s e p fun ρ1 H1 st1 a x g s1 e1 r p1 => PostS.go_ (f := .nx) p1 s1 e1
theorem is_ret {e : Expr} {m : D W} (he : IE X ex Wx e m) : IS X ex Wx (.Return (some e) pos) (sRet m) :=
  PS.of (ps_ret he) fun D σ H ⟨ρ, env, st, s, e, p⟩ => RS.step s e p fun ρ1 H1 st1 a x g s1 e1 r p1 => PostS.go_ (f := .rt a) p1 s1 e1 x r
theorem is_retN : IS X ex Wx (.Return none pos) sRetN := PS.of ps_retN fun D σ H ⟨ρ, env, st, s, e, p⟩ => p.go_ s e .non (by simp [VR])
theorem is_if {c : Expr} {a b : List Stmt} {mc : D Bool} {ma mb : DS} (hc : IT X ex Wx c mc) (ha : ISs X ex Wx a ma) (hb : ISs X ex Wx b mb) : IS X ex Wx (.If c a b pos) (sIf mc ma mb) :=
  PS.of (ps_if hc ha hb) fun D σ H ⟨ρ, env, st, s, e, p⟩ => RS.step (rel := relE) s e p fun ρ1 H1 st1 k x g s1 e1 r p1 => by
    have r' : k = x := r
    subst r'
    by_cases h : k = true
    · rw [if_pos h] at p1 ⊢; exact ⟨ρ1, env, st1, s1, e1, p1⟩
    · rw [if_neg h] at p1 ⊢; exact ⟨ρ1, env, st1, s1, e1, p1⟩
/-! targets -/
theorem ig_name {vs : List Nat} {i : Nat} {x : Str} (hv : i ∈ vs) (hx0 : ExOk ex i := by exact ExOk.none) (hN : X.N.Nodup) (hi : X.N[i]? = some x) (hx : Loc X.env.scope x) (hf : X.fn x = true ∨ X.env.scope.names.lookup x = some .local := by first | exact .inl rfl | exact .inr rfl | assumption) : IG X ex vs (.Name x pos) (tName i) :=
  ⟨fun pins s σ H v u Q I r h => (pg_name hN hi hx hf).run pins s σ H v u Q I r (by
    obtain ⟨ρ, env, st, w, s, e, rv, env', st', q, p⟩ := h
    cases q
    exact p ρ H _ .refl s (e.set hx0 rv) (wipe_set hv))⟩
theorem is_asg {vs : List Nat} {tg e : Expr} {m : D W} {t : DT} (he : IE X ex Wx e m) (hg : IG X ex vs tg t) (hs : swapsWithSole [tg] e pos.line X.env = pure false := by rfl) (hw : swappedStores [tg] e X.env = pure none := by rfl)
    (h1 : (assignEach [tg] X.env).map (·.2) = [assign tg X.env] := by rfl) : IS X ex Wx (.Assign [tg] e pos) (sAsg m t) :=
  PS.of (ps_asg he hg hs hw h1) fun D σ H ⟨ρ, env, st, s, e, p⟩ => RS.step s e p fun ρ1 H1 st1 a x g s1 e1 r p1 => by
    refine ⟨ρ1, env, st1, a, s1, e1, r, ?_⟩
    generalize t a env st1 = q at p1
    match q, p1 with
    | some (env', st'), p1 => exact ⟨env', st', rfl, fun ρ' H' σ' g' s' e' _ => p1 ρ' H' σ' g' s' e'⟩
    | none, p1 => exact p1.elim
theorem is_set {i : Nat} {x : Str} {e : Expr} {m : D W} {pos' : Pos} (hx0 : ExOk ex i) (hN : X.N.Nodup) (hi : X.N[i]? = some x) (hx : Loc X.env.scope x) (he : IE X ex Wx e m) (hs : swapsWith e (some (.Name x pos')) pos.line X.env = pure false := by rfl)
    (hf : X.fn x = true ∨ X.env.scope.names.lookup x = some .local := by first | exact .inl rfl | exact .inr rfl | assumption) : IS X ex Wx (.Assign [.Name x pos'] e pos) (sAsg m (tName i)) :=
  PS.of (ps_set hN hi hx he hs hf) fun D σ H ⟨ρ, env, st, s, e, p⟩ => RS.step s e p fun ρ1 H1 st1 a x g s1 e1 r p1 => PostS.go_ p1 s1 (e1.set hx0 r)
/-- several targets by the parts of a tuple -/
def RTs (X : Cx) (ex : Option Exn) (vl : List Nat) (ts : List DT) : TGs := fun vs σ H Q => ∃ ρ env st ws, StR X.K ρ H st ∧ EnvR X.K ex ρ H env σ ∧ VRs X.K ρ H ws vs ∧
  ∃ env' st', tAll ts ws env st = some (env', st') ∧ ∀ ρ' H' σ', Grow ρ H ρ' H' → StR X.K ρ' H' st' → EnvR X.K ex ρ' H' env' σ' → wipe σ' vl = wipe σ vl → Q σ' H'
abbrev IGs (X : Cx) (ex : Option Exn) (vl : List Nat) (es : List Expr) (ts : List DT) : Prop := PGs X es (RTs X ex vl ts)
theorem PGs.of {es : List Expr} {t t' : TGs} (h : PGs X es t) (w : ∀ vs σ H Q, t' vs σ H Q → t vs σ H Q) : PGs X es t' := ⟨fun pins s σ H vs us Q I r q => h.run pins s σ H vs us Q I r (w _ _ _ _ q)⟩
theorem PG.of {e : Expr} {t t' : TG} (h : PG X e t) (w : ∀ v σ H Q, t' v σ H Q → t v σ H Q) : PG X e t' := ⟨fun pins s σ H v u Q I r q => h.run pins s σ H v u Q I r (w _ _ _ _ q)⟩
theorem igs_nil {vl : List Nat} : IGs X ex vl [] [] := PGs.of pgs_nil fun vs σ H Q ⟨ρ, env, st, ws, s, e, r, env', st', q, p⟩ => by
  cases ws with
  | nil =>
    simp only [VRs] at r
    simp only [tAll, Option.some.injEq, Prod.mk.injEq] at q
    obtain ⟨rfl, rfl⟩ := q
    exact ⟨r, p ρ H σ .refl s e rfl⟩
  | cons w ws => simp [tAll] at q
theorem igs_cons {vl : List Nat} {e : Expr} {es : List Expr} {t : DT} {ts : List DT} (h1 : IG X ex vl e t) (h2 : IGs X ex vl es ts) (hs : (assignEach (e :: es) X.env).map (·.2) = assign e X.env :: (assignEach es X.env).map (·.2) := by rfl) : IGs X ex vl (e :: es) (t :: ts) :=
  PGs.of (pgs_cons h1 h2 hs) fun vs σ H Q ⟨ρ, env, st, ws, s, e, r, env', st', q, p⟩ => by
    cases ws with
    | nil => simp [tAll] at q
    | cons w ws =>
      simp only [VRs] at r
      obtain ⟨u, us, rfl, ru, rs⟩ := r
      unfold tAll at q
      cases ht : t w env st with
      | none => rw [ht] at q; cases q
      | some pr =>
        obtain ⟨env1, st1⟩ := pr
        rw [ht] at q
        refine ⟨u, us, rfl, ρ, env, st, w, s, e, ru, env1, st1, ht, fun ρ1 H1 σ1 g s1 e1 w1 => ?_⟩
        exact ⟨ρ1, env1, st1, ws, s1, e1, VRs.grow s.apart g ws us rs, env', st', q, fun ρ' H' σ' g' s' e' w' => p ρ' H' σ' (g.trans g') s' e' (w'.trans w1)⟩
theorem tAll_len : ∀ {ts : List DT} {ws : List W} {env : EnvW} {st : Store} {r : EnvW × Store}, tAll ts ws env st = some r → ws.length = ts.length
  | [], [], _, _, _, _ => rfl
  | [], _ :: _, _, _, _, h => by simp [tAll] at h
  | _ :: _, [], _, _, _, h => by simp [tAll] at h
  | t :: ts, w :: ws, env, st, r, h => by
    unfold tAll at h
    cases ht : t w env st with
    | none => rw [ht] at h; cases h
    | some pr => rw [ht] at h; simp [tAll_len (show tAll ts ws pr.1 pr.2 = some r from h)]
theorem ig_tup {vl : List Nat} {es : List Expr} {k : Nat} {ts : List DT} (hc : X.calm = true) (h : IGs X ex vl es ts) (hn : (assignEach es X.env).length = ts.length := by rfl) (hst : (assignEach es X.env).findIdx? (·.1) = none := by rfl) : IG X ex vl (.Tuple es k pos) (tTupT ts) :=
  PG.of (pg_tup hc h hn hst) fun v σ H Q ⟨ρ, env, st, w, s, e, r, env', st', q, p⟩ => by
    cases w with
    | tup ws =>
      simp only [VR] at r
      obtain ⟨a, us, rfl, ht, rs⟩ := r
      have q' : tAll ts ws env st = some (env', st') := q
      exact ⟨a, us, rfl, ht.sq, by rw [← VRs.length rs, tAll_len q'], ρ, env, st, ws, s, e, rs, env', st', q', p⟩
    | _ => simp [tTupT] at q
end
end MP
namespace MP
open PySem PySem.Spec PyProof.Rows L2
open Classical
noncomputable section

/-! ### what is walked -/
structure ItW where
  items : List W
  src : Option Nat
/-- the list that is walked stands as it stood -/
def ItW.Chk (it : ItW) (st : Store) : Prop := match it.src with
  | none => True
  | some n => st[n]? = some (.lst it.items)
@[simp] theorem ItW.chk_none (l : List W) (st : Store) : ItW.Chk ⟨l, none⟩ st = True := rfl
@[simp] theorem ItW.chk_some (l : List W) (n : Nat) (st : Store) : ItW.Chk ⟨l, some n⟩ st = (st[n]? = some (.lst l)) := rfl
def signs (x : Str) : List W := x.cps.toList.map fun c => .str ⟨#[c]⟩
def intsW (lo : Int) (n : Nat) : List W := (List.range n).map fun i => .int (lo + (i : Nat))
def itOf (a : W) (st : Store) : Res ItW := match a with
  | .tup xs => .ok ⟨xs, none⟩ st
  | .fro xs => .ok ⟨xs, none⟩ st
  | .str x => .ok ⟨signs x, none⟩ st
  | .loc n => match st[n]? with
    | some (.lst xs) => .ok ⟨xs, some n⟩ st
    | none => .stuck
  | .rng lo hi => if -(2 ^ 62) ≤ lo ∧ lo < 2 ^ 62 ∧ -(2 ^ 62) ≤ hi ∧ hi < 2 ^ 62 then .ok ⟨intsW lo (hi - lo).toNat, none⟩ st else .stuck
  | _ => .stuck
def dIt (m : D W) : D ItW := fun env st => (m env st).bind fun a st1 => itOf a st1
def rangeW (lo hi : Int) (st : Store) : Res ItW := if -(2 ^ 62) ≤ lo ∧ lo < 2 ^ 62 ∧ -(2 ^ 62) ≤ hi ∧ hi < 2 ^ 62 then .ok ⟨intsW lo (hi - lo).toNat, none⟩ st else .stuck
def rangeOf (l : List W) (st : Store) : Res ItW := match l with
  | [.int j] => rangeW 0 j st
  | [.int i, .int j] => rangeW i j st
  | _ => .stuck
def dRange (m : D (List W)) : D ItW := fun env st => (m env st).bind fun l st1 => rangeOf l st1
def dRange1 (m : D (List W)) : D ItW := dRange (fun env st => (m env st).bind fun l st1 => match l with | [.int j] => .ok [.int j] st1 | _ => .stuck)
def dRange2 (m : D (List W)) : D ItW := dRange (fun env st => (m env st).bind fun l st1 => match l with | [.int i, .int j] => .ok [.int i, .int j] st1 | _ => .stuck)
def forW (chk : Store → Prop) (t : DT) (b : DS) : List W → DS
  | [], env, st => if chk st then .go .nx env st else .stuck
  | w :: ws, env, st => if chk st then
      match t w env st with
      | none => .stuck
      | some (env1, st1) => match b env1 st1 with
        | .go .nx env2 st2 => forW chk t b ws env2 st2
        | .go .ct env2 st2 => forW chk t b ws env2 st2
        | .go .bk env2 st2 => .go .nx env2 st2
        | r => r
    else .stuck
def sFor (m : D ItW) (t : DT) (b : DS) : DS := fun env st => (m env st).then env fun it st1 => forW it.Chk t b it.items env st1
def whileF (c : D Bool) (b : DS) : Nat → DS
  | 0, _, _ => .stuck
  | n + 1, env, st => (c env st).then env fun k st1 => if k = true then
      match b env st1 with
      | .go .nx env2 st2 => whileF c b n env2 st2
      | .go .ct env2 st2 => whileF c b n env2 st2
      | .go .bk env2 st2 => .go .nx env2 st2
      | r => r
    else .go .nx env st1
def sWhile (c : D Bool) (b : DS) : DS := fun env st => if h : ∃ n, whileF c b n env st ≠ .stuck then whileF c b h.choose env st else .stuck
/-- a comprehension's elements -/
def wipeW (env : EnvW) : List Nat → EnvW
  | [] => env
  | v :: vs => (wipeW env vs).set v none
def lcW (chk : Store → Prop) (env : EnvW) (t : DT) (c : D Bool) (e : D W) : List W → List W → Store → Option (List W × Store)
  | [], acc, st => if chk st then some (acc, st) else none
  | w :: ws, acc, st => if chk st then
      match t w env st with
      | none => none
      | some (env1, st1) => match c env1 st1 with
        | .ok true st2 => match e env1 st2 with
          | .ok y st3 => if acc.length < sizeLine then lcW chk env t c e ws (acc ++ [y]) st3 else none
          | _ => none
        | .ok false st2 => lcW chk env t c e ws acc st2
        | _ => none
    else none
def dYes : D Bool := fun _ st => .ok true st
def dLc (m : D ItW) (vs : List Nat) (t : DT) (c : D Bool) (e : D W) : D W := fun env st => (m env st).bind fun it st1 =>
  match lcW it.Chk (wipeW env vs) t c e it.items [] st1 with
  | some (acc, st2) => .ok (.loc st2.length) (st2 ++ [.lst acc])
  | none => .stuck

section
variable {X : Cx} {ex : Option Exn} {Wx : WX} {pos : Pos}
/-- an iterator walks these things -/
def relI (X : Cx) : List Addr → Hp → ItW → It → Prop := fun ρ0 H0 it J =>
  ∀ ρ H st, Grow ρ0 H0 ρ H → StR X.K ρ H st → it.Chk st → ∀ i, (∀ w, it.items[i]? = some w → J.go i H ∧ ∀ x H', J.yld i H x H' → Grow ρ H ρ H' ∧ StR X.K ρ H' st ∧ VR X.K ρ H' w x) ∧ (it.items.length ≤ i → J.stop i H)
abbrev II (X : Cx) (ex : Option Exn) (Wx : WX) (tg e : Expr) (m : D ItW) : Prop := PI X tg e (RG X ex Wx (relI X) m)
theorem PI.of {tg e : Expr} {t t' : TI} (h : PI X tg e t) (w : ∀ σ H R, t' σ H R → t σ H R) : PI X tg e t' := ⟨fun pins s σ H R I q => h.run pins s σ H R I (w _ _ _ q)⟩
theorem PI.or {tg e : Expr} {t t' : TI} (h : PI X tg e t) (h' : PI X tg e t') : PI X tg e (fun σ H R => t σ H R ∨ t' σ H R) := ⟨fun pins s σ H R I q => by
  rcases q with q | q
  · exact h.run pins s σ H R I q
  · exact h'.run pins s σ H R I q⟩
theorem relI_list {ρ : List Addr} {H : Hp} {st : Store} {ws : List W} {us : List V} {a : Addr} (s : StR X.K ρ H st) (ht : SqF X.K H a us) (r : VRs X.K ρ H ws us) : relI X ρ H ⟨ws, none⟩ (Itl X.K a) := by
  intro ρ' H' st' g s' _ i
  have h' := ht.grow s.apart g
  have r' := VRs.grow s.apart g ws us r
  refine ⟨fun w e => ?_, fun h => ⟨us, h'.sq, by rw [← VRs.length r]; exact h⟩⟩
  obtain ⟨v, e1, rv⟩ := r'.get e
  refine ⟨⟨us, v, h'.sq, e1⟩, fun x H2 ⟨e2, y⟩ => ?_⟩
  subst e2
  have := y us h'.sq
  rw [e1] at this; cases this
  exact ⟨.refl, s', rv⟩
theorem relI_tup {ρ : List Addr} {H : Hp} {st : Store} {ws : List W} {us : List V} {a : Addr} (s : StR X.K ρ H st) (ht : TpF X.K H a us) (r : VRs X.K ρ H ws us) : relI X ρ H ⟨ws, none⟩ (Itt X.K a) := by
  intro ρ' H' st' g s' _ i
  have h' := ht.grow s.apart g
  have r' := VRs.grow s.apart g ws us r
  refine ⟨fun w e => ?_, fun h => ⟨us, h'.sq, by rw [← VRs.length r]; exact h⟩⟩
  obtain ⟨v, e1, rv⟩ := r'.get e
  refine ⟨⟨us, v, h'.sq, e1⟩, fun x H2 ⟨e2, y⟩ => ?_⟩
  subst e2
  have := y us h'.sq
  rw [e1] at this; cases this
  exact ⟨.refl, s', rv⟩
theorem relI_loc {ρ : List Addr} {H : Hp} {ws : List W} {n : Nat} {a : Addr} (hn : ρ[n]? = some a) : relI X ρ H ⟨ws, some n⟩ (Itl X.K a) := by
  intro ρ' H' st' g s' ck i
  obtain ⟨m, e, _⟩ := g.pre
  subst e
  obtain ⟨b, hb, us, hu, r⟩ := s'.ob n (.lst ws) ck
  have : b = a := by
    rw [List.getElem?_append_left (List.getElem?_eq_some_iff.mp hn).1, hn] at hb
    exact (Option.some.inj hb).symm
  subst this
  have hs : SqL X.K H' b us := .inl (.inl hu)
  refine ⟨fun w e => ?_, fun h => ⟨us, hs, by rw [← VRs.length r]; exact h⟩⟩
  obtain ⟨v, e1, rv⟩ := r.get e
  refine ⟨⟨us, v, hs, e1⟩, fun x H2 ⟨e2, y⟩ => ?_⟩
  subst e2
  have := y us hs
  rw [e1] at this; cases this
  exact ⟨.refl, s', rv⟩
theorem relI_str {ρ : List Addr} {H : Hp} {z : Str} : relI X ρ H ⟨signs z, none⟩ (Its z) := by
  intro ρ' H' st' g s' _ i
  have hl : (signs z).length = z.cps.size := by simp [signs]
  refine ⟨fun w e => ?_, fun h => by show z.cps.size ≤ i; rw [← hl]; exact h⟩
  simp only [signs, List.getElem?_map] at e
  cases hc : z.cps.toList[i]? with
  | none => rw [hc] at e; cases e
  | some c =>
    rw [hc] at e
    cases e
    have hi : i < z.cps.size := by simpa using (List.getElem?_eq_some_iff.mp hc).1
    refine ⟨hi, fun x H2 ⟨e2, c', hc', e3⟩ => ?_⟩
    subst e2; subst e3
    have hcc : z.cps[i]? = some c := by simpa using hc
    rw [hcc] at hc'; cases hc'
    exact ⟨.refl, s', by simp [VR]⟩
theorem relI_range {ρ : List Addr} {H : Hp} {lo : Int} {n : Nat} : relI X ρ H ⟨intsW lo n, none⟩ (Itr lo n) := by
  intro ρ' H' st' g s' _ i
  have hl : (intsW lo n).length = n := by simp [intsW]
  refine ⟨fun w e => ?_, fun h => by show n ≤ i; rw [← hl]; exact h⟩
  have hi : i < n := by rw [← hl]; exact (List.getElem?_eq_some_iff.mp e).1
  refine ⟨hi, fun x H2 ⟨e2, e3⟩ => ?_⟩
  subst e2; subst e3
  simp only [intsW, List.getElem?_map, List.getElem?_range hi, Option.map_some, Option.some.injEq] at e
  subst e
  exact ⟨.refl, s', by simp [VR]⟩
/-- a range that a name holds -/
def iRngV (te : TE) : TI := fun σ H R => te σ H fun x H1 => ∃ (a : Addr) (lo hi : Int), x = .ref a ∧ H1 a = some (.rng lo hi) ∧ (-(2 ^ 62) ≤ lo ∧ lo < 2 ^ 62 ∧ -(2 ^ 62) ≤ hi ∧ hi < 2 ^ 62) ∧ R (Itr lo (hi - lo).toNat) H1
theorem pi_rngV {X : Cx} {tg e : Expr} {te : TE} (he : PE X e te) : PI X tg e (iRngV te) := by
  refine ⟨fun pins s σ H R I h => thn (he.run pins s σ H _ I h) fun v s1 ⟨x, H1, I1, r1, q1⟩ => ?_⟩
  obtain ⟨a, lo, hi, rfl, hq, ⟨h1, h2, h3, h4⟩, q⟩ := q1
  cases r1
  obtain ⟨t, u, v, hget⟩ := I1.hok a _ hq
  refine wpAny_pyIter_range (show IsRange s1.heap a lo hi 1 t u v from hget) (small_one h1 h2 h3 h4) ?_
  refine ⟨s1.heap.objs.size, [s1.heap.objs.size], _, _, H1, rfl, I1.kept (t' := s1.toks) fun b o e => Heap.get?_push_of_some _ e, turn_range _ lo (hi - lo).toNat, ?_, fun b hb => ?_, q⟩
  · have e1 : lo + ((0 : Nat) : Int) * 1 = lo := by simp
    have e2 : (((hi - lo).toNat : Nat) : Int) - ((0 : Nat) : Int) = Builtin.Range.rangeSize lo hi 1 := by rw [rangeSize_one]; split <;> omega
    show IsRangeIter _ _ (lo + ((0 : Nat) : Int) * 1) ((((hi - lo).toNat : Nat) : Int) - ((0 : Nat) : Int)) 1
    rw [e1, e2]
    exact Heap.get?_push_size _ rfl
  · have e : b = s1.heap.objs.size := by simpa using hb
    subst e
    exact I1.fpOk (Nat.le_refl _) (I1.hok.fresh (Nat.le_refl _))
theorem ii_val {tg e : Expr} {m : D W} (he : IE X ex Wx e m) : II X ex Wx tg e (dIt m) := by
  refine PI.of (PI.or (pi_list he) (PI.or (pi_tup he) (PI.or (pi_str he) (pi_rngV he)))) fun σ H R ⟨ρ, env, st, s, e, p⟩ => ?_
  have key : ∀ (ok : W → Store → Prop) (R' : V → Hp → Prop), (∀ a st1, m env st = .ok a st1 → ok a st1) →
      (∀ ρ1 H1 st1 a x, ok a st1 → Grow ρ H ρ1 H1 → StR X.K ρ1 H1 st1 → VR X.K ρ1 H1 a x → Post X.K X.mg Wx (relI X) ρ1 H1 σ (itOf a st1) R → R' x H1) → RG X ex Wx (relV X.K) m σ H R' := fun ok R' h1 h2 => by
    refine ⟨ρ, env, st, s, e, ?_⟩
    unfold dIt at p
    generalize hm : m env st = r at p h1
    cases r with
    | ok a st' => exact fun ρ' H' x g s' r => h2 ρ' H' st' a x (h1 a st' rfl) g s' r (Post.mono p g)
    | err c fs st' => exact p
    | stuck => exact p
  have p0 := p
  unfold dIt at p0
  generalize hm : m env st = r at p0
  cases r with
  | stuck => exact p0.elim
  | err c fs st' =>
    refine .inl (key (fun _ _ => False) _ (fun a st1 h => ?_) (fun _ _ _ _ _ h => h.elim))
    rw [hm] at h; cases h
  | ok a0 st0 =>
    have same : ∀ a st1, m env st = .ok a st1 → (a = a0 ∧ st1 = st0) := fun a st1 h => by rw [hm] at h; cases h; exact ⟨rfl, rfl⟩
    cases a0 with
    | tup xs =>
      refine .inr (.inl (key _ _ same fun ρ1 H1 st1 a x h g s1 r q => ?_))
      obtain ⟨rfl, rfl⟩ := h
      simp only [VR] at r
      obtain ⟨ad, us, rfl, ht, rs⟩ := r
      exact ⟨ad, rfl, ⟨us, ht.sq⟩, q ρ1 H1 _ .refl s1 (relI_tup s1 ht rs)⟩
    | fro xs =>
      refine .inl (key _ _ same fun ρ1 H1 st1 a x h g s1 r q => ?_)
      obtain ⟨rfl, rfl⟩ := h
      simp only [VR] at r
      obtain ⟨ad, us, rfl, ht, rs⟩ := r
      exact ⟨ad, rfl, ⟨us, ht.sq⟩, q ρ1 H1 _ .refl s1 (relI_list s1 ht rs)⟩
    | loc n =>
      refine .inl (key _ _ same fun ρ1 H1 st1 a x h g s1 r q => ?_)
      obtain ⟨rfl, rfl⟩ := h
      simp only [VR] at r
      obtain ⟨ad, hn, rfl⟩ := r
      simp only [itOf] at q
      split at q
      · rename_i xs hx
        obtain ⟨b, hb, us, hu, rs⟩ := s1.ob n (.lst xs) hx
        rw [hn] at hb; cases hb
        exact ⟨ad, rfl, ⟨us, .inl (.inl hu)⟩, q ρ1 H1 _ .refl s1 (relI_loc hn)⟩
      · exact q.elim
    | str z =>
      refine .inr (.inr (.inl (key _ _ same fun ρ1 H1 st1 a x h g s1 r q => ?_)))
      obtain ⟨rfl, rfl⟩ := h
      simp only [VR] at r
      exact ⟨z, r, q ρ1 H1 _ .refl s1 relI_str⟩
    | rng lo hi =>
      refine .inr (.inr (.inr (key _ _ same fun ρ1 H1 st1 a x h g s1 r q => ?_)))
      obtain ⟨rfl, rfl⟩ := h
      simp only [VR] at r
      obtain ⟨ad, rfl, hr⟩ := r
      simp only [itOf] at q
      split at q
      · rename_i hb
        exact ⟨ad, lo, hi, rfl, hr, hb, q ρ1 H1 _ .refl s1 relI_range⟩
      · exact q.elim
    | _ => exact p0.elim
theorem ii_range1 {tg a : Expr} {m : D (List W)} {p' : Pos} (hg : Gl X "range") (hm : X.mg "range" = none) (ha : IA X ex Wx [a] m) (hs : starEach [a] X.env = [(false, eval a X.env)] := by rfl) : II X ex Wx tg (.Call (.Name "range" p') [a] [] pos) (dRange1 m) :=
  PI.of (pi_range1 hg hm ha hs) fun σ H R ⟨ρ, env, st, s, e, p⟩ => by
    have p' : Post X.K X.mg Wx (relI X) ρ H σ ((m env st).bind fun l st1 => match l with | [.int j] => rangeW 0 j st1 | _ => .stuck) R := by
      unfold dRange1 dRange at p
      simp only at p
      generalize m env st = r at p ⊢
      cases r with
      | ok l st1 =>
        simp only [Res.bind_ok] at p ⊢
        match l, p with
        | [.int j], p => exact p
      | err c fs st1 => exact p
      | stuck => exact p
    refine RG.bind s e p' fun ρ1 H1 st1 l vs g1 s1 e1 r q => ?_
    match l, q, r with
    | [.int j], q, r =>
      simp only [VRs, VR] at r
      obtain ⟨_, _, rfl, rfl, rfl⟩ := r
      simp only [rangeW] at q
      split at q
      · rename_i hb
        have e0 : (j - 0).toNat = j.toNat := by omega
        rw [e0] at q
        exact ⟨j, rfl, hb.2.2.1, hb.2.2.2, q ρ1 H1 _ .refl s1 relI_range⟩
      · exact q.elim
theorem ii_range2 {tg a b : Expr} {m : D (List W)} {p' : Pos} (hg : Gl X "range") (hm : X.mg "range" = none) (ha : IA X ex Wx [a, b] m) (hs : starEach [a, b] X.env = [(false, eval a X.env), (false, eval b X.env)] := by rfl) (hs2 : starEach [b] X.env = [(false, eval b X.env)] := by rfl) :
    II X ex Wx tg (.Call (.Name "range" p') [a, b] [] pos) (dRange2 m) :=
  PI.of (pi_range2 hg hm ha hs hs2) fun σ H R ⟨ρ, env, st, s, e, p⟩ => by
    have p' : Post X.K X.mg Wx (relI X) ρ H σ ((m env st).bind fun l st1 => match l with | [.int i, .int j] => rangeW i j st1 | _ => .stuck) R := by
      unfold dRange2 dRange at p
      simp only at p
      generalize m env st = r at p ⊢
      cases r with
      | ok l st1 =>
        simp only [Res.bind_ok] at p ⊢
        match l, p with
        | [.int i, .int j], p => exact p
      | err c fs st1 => exact p
      | stuck => exact p
    refine RG.bind s e p' fun ρ1 H1 st1 l vs g1 s1 e1 r q => ?_
    match l, q, r with
    | [.int i, .int j], q, r =>
      simp only [VRs, VR] at r
      obtain ⟨_, _, rfl, rfl, _, _, rfl, rfl, rfl⟩ := r
      simp only [rangeW] at q
      split at q
      · rename_i hb
        exact ⟨i, j, rfl, hb, q ρ1 H1 _ .refl s1 relI_range⟩
      · exact q.elim
/-! ### loops -/
theorem is_for {vs : List Nat} {tg iter : Expr} {body : List Stmt} {m : D ItW} {t : DT} {b : DS} (hp : PassesOwn (model X.prog X.w) X.A X.env X.xe) (hc : X.calm = true) (hi : II X ex Wx tg iter m) (hg : IG X ex vs tg t) (hb : ISs X ex Wx body b) (hs : ∀ x, foldedSetIterable iter X.env x = pure x := by intro _; rfl) : IS X ex Wx (.For tg iter body [] pos) (sFor m t b) :=
  PS.of (ps_for hp hc hi hg hb hs) fun De σ H ⟨ρ, env, st, s, e, p⟩ => RS.step (rel := relI X) s e p fun ρ1 H1 st1 it J g s1 e1 r q => by
    refine ⟨fun i m σ H => m = it.items.length - i ∧ i ≤ it.items.length ∧ ∃ ρ env st, Grow ρ1 H1 ρ H ∧ StR X.K ρ H st ∧ EnvR X.K ex ρ H env σ ∧ PostS X.K ex X.mg Wx De ρ H (forW it.Chk t b (it.items.drop i) env st),
      ⟨_, rfl, Nat.zero_le _, ρ1, env, st1, .refl, s1, e1, q⟩, ?_⟩
    rintro i m σ' H' ⟨rfl, hi, ρ', env', st', g', s', e', q'⟩
    by_cases hlt : i < it.items.length
    · rw [List.drop_eq_getElem_cons hlt] at q'
      unfold forW at q'
      split at q'
      · rename_i ck
        obtain ⟨go, stop⟩ := r ρ' H' st' g' s' ck i
        obtain ⟨hgo, hy⟩ := go _ (List.getElem?_eq_getElem hlt)
        refine .inr ⟨hgo, fun σ2 H2 => ∃ ρ env st, Grow ρ1 H1 ρ H2 ∧ StR X.K ρ H2 st ∧ EnvR X.K ex ρ H2 env σ2 ∧ PostS X.K ex X.mg Wx De ρ H2 (forW it.Chk t b (it.items.drop (i + 1)) env st), fun σ2 H2 n => ⟨_, by omega, rfl, hlt, n⟩, fun x H2 y => ?_⟩
        obtain ⟨g2, s2, rv⟩ := hy x H2 y
        have e2 := e'.grow s'.apart g2
        cases ht : t it.items[i] env' st' with
        | none => rw [ht] at q'; exact q'.elim
        | some pr =>
          obtain ⟨env3, st3⟩ := pr
          rw [ht] at q'
          refine ⟨ρ', env', st', _, s2, e2, rv, env3, st3, ht, fun ρ3 H3 σ3 g3 s3 e3 _ => ⟨ρ3, env3, st3, s3, e3, ?_⟩⟩
          simp only at q'
          have gg := g'.trans (g2.trans g3)
          have q3 := PostS.mono q' (g2.trans g3)
          generalize hbr : b env3 st3 = br at q3
          cases br with
          | stuck => exact q3
          | err c fs env4 st4 => exact q3
          | go f env4 st4 =>
            cases f with
            | nx => exact fun ρ4 H4 σ4 g4 s4 e4 => ⟨ρ4, env4, st4, gg.trans g4, s4, e4, PostS.mono q3 g4⟩
            | ct => exact fun ρ4 H4 σ4 g4 s4 e4 => ⟨ρ4, env4, st4, gg.trans g4, s4, e4, PostS.mono q3 g4⟩
            | bk => exact q3
            | rt v => exact q3
      · exact q'.elim
    · have : i = it.items.length := by omega
      subst this
      rw [List.drop_length] at q'
      unfold forW at q'
      split at q'
      · rename_i ck
        exact .inl ⟨(r ρ' H' st' g' s' ck _).2 (Nat.le_refl _), PostS.go_ (f := .nx) q' s' e'⟩
      · exact q'.elim
theorem is_while {c : Expr} {body : List Stmt} {mc : D Bool} {b : DS} (hp : PassesOwn (model X.prog X.w) X.A X.env X.xe) (hc : IT X ex Wx c mc) (hb : ISs X ex Wx body b) : IS X ex Wx (.While c body [] pos) (sWhile mc b) :=
  PS.of (ps_while hp hc hb) fun De σ H ⟨ρ, env, st, s, e, p⟩ => by
    unfold sWhile at p
    split at p
    · rename_i hn
      refine ⟨fun m σ H => ∃ ρ env st, StR X.K ρ H st ∧ EnvR X.K ex ρ H env σ ∧ PostS X.K ex X.mg Wx De ρ H (whileF mc b m env st), ⟨_, ρ, env, st, s, e, p⟩, ?_⟩
      rintro m σ' H' ⟨ρ', env', st', s', e', q⟩
      cases m with
      | zero => exact q.elim
      | succ m =>
        unfold whileF at q
        refine RS.step (rel := relE) s' e' q fun ρ1 H1 st1 k x g1 s1 e1 r p1 => ?_
        have r' : k = x := r
        subst r'
        by_cases h : k = true
        · rw [if_pos h] at p1 ⊢
          refine ⟨fun σ2 H2 => ∃ ρ env st, StR X.K ρ H2 st ∧ EnvR X.K ex ρ H2 env σ2 ∧ PostS X.K ex X.mg Wx De ρ H2 (whileF mc b m env st), fun σ2 H2 n => ⟨m, Nat.lt_succ_self m, n⟩, ρ1, env', st1, s1, e1, ?_⟩
          generalize hbr : b env' st1 = br at p1
          cases br with
          | stuck => exact p1
          | err c fs env4 st4 => exact p1
          | go f env4 st4 =>
            cases f with
            | nx => exact fun ρ4 H4 σ4 g4 s4 e4 => ⟨ρ4, env4, st4, s4, e4, PostS.mono p1 g4⟩
            | ct => exact fun ρ4 H4 σ4 g4 s4 e4 => ⟨ρ4, env4, st4, s4, e4, PostS.mono p1 g4⟩
            | bk => exact p1
            | rt v => exact p1
        · rw [if_neg h] at p1 ⊢
          exact PostS.go_ (f := .nx) p1 s1 e1
    · exact p.elim
end
theorem whileF_mono {c : D Bool} {b : DS} : ∀ {n m : Nat} {env : EnvW} {st : Store}, whileF c b n env st ≠ .stuck → n ≤ m → whileF c b m env st = whileF c b n env st
  | 0, _, _, _, h, _ => absurd rfl h
  | n + 1, 0, _, _, _, hl => by omega
  | n + 1, m + 1, env, st, h, hl => by
    unfold whileF at h ⊢
    cases hc : c env st with
    | stuck => rfl
    | err x fs st1 => rfl
    | ok k st1 =>
      rw [hc] at h
      simp only [Res.then_ok] at h ⊢
      by_cases hk : k = true
      · rw [if_pos hk] at h ⊢
        rw [if_pos hk]
        cases hb : b env st1 with
        | stuck => rfl
        | err x fs env2 st2 => rfl
        | go f env2 st2 =>
          rw [hb] at h
          cases f with
          | nx => exact whileF_mono (n := n) (m := m) h (by omega)
          | ct => exact whileF_mono (n := n) (m := m) h (by omega)
          | bk => rfl
          | rt v => rfl
      · rw [if_neg hk, if_neg hk]
theorem sWhile_eq {c : D Bool} {b : DS} {env : EnvW} {st : Store} {r : RsS} (n : Nat) (h : whileF c b n env st = r) (hr : r ≠ .stuck) : sWhile c b env st = r := by
  have h1 : whileF c b n env st ≠ .stuck := by rw [h]; exact hr
  unfold sWhile
  rw [dif_pos ⟨n, h1⟩]
  have h2 := (⟨n, h1⟩ : ∃ n, whileF c b n env st ≠ .stuck).choose_spec
  rcases Nat.le_total n (⟨n, h1⟩ : ∃ n, whileF c b n env st ≠ .stuck).choose with hl | hl
  · rw [whileF_mono h1 hl, h]
  · rw [← whileF_mono h2 hl, h]
end
end MP
namespace MP
open PySem PySem.Spec PyProof.Rows L2
open Classical
noncomputable section

/-! ### comprehensions -/
mutual
theorem VR.imm {K : PySem.W.Frag} {ρ : List Addr} {H H' : Hp} (h1 : ∀ a xs, H a = some (.tup xs) → H' a = some (.tup xs)) (h2 : ∀ a o u, H a = some (.frz o u) → H' a = some (.frz o u)) (h3 : ∀ a i j, H a = some (.rng i j) → H' a = some (.rng i j)) : ∀ (w : W) (v : V), VR K ρ H w v → VR K ρ H' w v
  | .non, _, h => by simpa only [VR] using h
  | .bl _, _, h => by simpa only [VR] using h
  | .int _, _, h => by simpa only [VR] using h
  | .str _, _, h => by simpa only [VR] using h
  | .gl _, _, h => by simpa only [VR] using h
  | .loc n, _, h => by simpa only [VR] using h
  | .rng i j, v, h => by
    simp only [VR] at h ⊢
    obtain ⟨a, e, r⟩ := h
    exact ⟨a, e, h3 a i j r⟩
  | .tup ws, v, h => by
    simp only [VR] at h ⊢
    obtain ⟨a, us, e, t, r⟩ := h
    exact ⟨a, us, e, t.imp (h1 a us) id, VRs.imm h1 h2 h3 ws us r⟩
  | .fro ws, v, h => by
    simp only [VR] at h ⊢
    obtain ⟨a, us, e, t, r⟩ := h
    exact ⟨a, us, e, t.imp (fun ⟨o, z⟩ => ⟨o, h2 a o _ z⟩) id, VRs.imm h1 h2 h3 ws us r⟩
theorem VRs.imm {K : PySem.W.Frag} {ρ : List Addr} {H H' : Hp} (h1 : ∀ a xs, H a = some (.tup xs) → H' a = some (.tup xs)) (h2 : ∀ a o u, H a = some (.frz o u) → H' a = some (.frz o u)) (h3 : ∀ a i j, H a = some (.rng i j) → H' a = some (.rng i j)) : ∀ (ws : List W) (vs : List V), VRs K ρ H ws vs → VRs K ρ H' ws vs
  | [], _, h => by simpa only [VRs] using h
  | w :: ws, vs, h => by
    simp only [VRs] at h ⊢
    obtain ⟨u, us, e, r, rs⟩ := h
    exact ⟨u, us, e, VR.imm h1 h2 h3 w u r, VRs.imm h1 h2 h3 ws us rs⟩
end
mutual
theorem VR.more {K : PySem.W.Frag} {ρ m : List Addr} {H : Hp} : ∀ (w : W) (v : V), VR K ρ H w v → VR K (ρ ++ m) H w v
  | .non, _, h => by simpa only [VR] using h
  | .bl _, _, h => by simpa only [VR] using h
  | .int _, _, h => by simpa only [VR] using h
  | .str _, _, h => by simpa only [VR] using h
  | .gl _, _, h => by simpa only [VR] using h
  | .rng i j, _, h => by simpa only [VR] using h
  | .loc n, _, h => by
    simp only [VR] at h ⊢
    obtain ⟨a, e, r⟩ := h
    exact ⟨a, by rw [List.getElem?_append_left (List.getElem?_eq_some_iff.mp e).1]; exact e, r⟩
  | .tup ws, v, h => by
    simp only [VR] at h ⊢
    obtain ⟨a, us, e, t, r⟩ := h
    exact ⟨a, us, e, t, VRs.more ws us r⟩
  | .fro ws, v, h => by
    simp only [VR] at h ⊢
    obtain ⟨a, us, e, t, r⟩ := h
    exact ⟨a, us, e, t, VRs.more ws us r⟩
theorem VRs.more {K : PySem.W.Frag} {ρ m : List Addr} {H : Hp} : ∀ (ws : List W) (vs : List V), VRs K ρ H ws vs → VRs K (ρ ++ m) H ws vs
  | [], _, h => by simpa only [VRs] using h
  | w :: ws, vs, h => by
    simp only [VRs] at h ⊢
    obtain ⟨u, us, e, r, rs⟩ := h
    exact ⟨u, us, e, VR.more w u r, VRs.more ws us rs⟩
end
section
variable {X : Cx} {Wx : WX} {pos : Pos}
/-- a list that the store doesn't have is changed -/
theorem side_imm {H : Hp} {D : Addr} {xs : List V} {o : HO} (hD : H D = some (.lst xs)) : (∀ a ys, H a = some (.tup ys) → upd H D o a = some (.tup ys)) ∧ (∀ a b u, H a = some (.frz b u) → upd H D o a = some (.frz b u)) ∧ (∀ a i j, H a = some (.rng i j) → upd H D o a = some (.rng i j)) := by
  refine ⟨fun a ys e => ?_, fun a b u e => ?_, fun a i j e => ?_⟩
  · rw [upd_ne (ne_of e hD (by intro z; cases z))]; exact e
  · rw [upd_ne (ne_of e hD (by intro z; cases z))]; exact e
  · rw [upd_ne (ne_of e hD (by intro z; cases z))]; exact e
theorem StR.side {K : PySem.W.Frag} {ρ : List Addr} {H : Hp} {st : Store} {D : Addr} {xs : List V} {o : HO} (s : StR K ρ H st) (hD : H D = some (.lst xs)) (hn : D ∉ ρ) : StR K ρ (upd H D o) st := by
  obtain ⟨i1, i2, i3⟩ := side_imm (o := o) hD
  refine ⟨s.len, s.nd, fun n ob e => ?_⟩
  obtain ⟨a, ha, hob⟩ := s.ob n ob e
  have hne : a ≠ D := fun z => hn (z ▸ List.mem_of_getElem? ha)
  refine ⟨a, ha, ?_⟩
  cases ob with
  | lst ws =>
    obtain ⟨us, hu, hr⟩ := hob
    exact ⟨us, by rw [upd_ne hne]; exact hu, VRs.imm i1 i2 i3 ws us hr⟩
theorem EnvR.side {K : PySem.W.Frag} {ρ : List Addr} {H : Hp} {env : EnvW} {σ : L2.St} {D : Addr} {xs : List V} {o : HO} (e : EnvR K none ρ H env σ) (hD : H D = some (.lst xs)) : EnvR K none ρ (upd H D o) env σ := by
  obtain ⟨i1, i2, i3⟩ := side_imm (o := o) hD
  exact ⟨e.len, fun i w h => let ⟨v, h1, h2⟩ := e.at_ i w h; ⟨v, h1, VR.imm i1 i2 i3 w v h2⟩, fun _ h => nomatch h⟩
theorem EnvR.wipe {K : PySem.W.Frag} {ρ : List Addr} {H : Hp} {env : EnvW} {σ : L2.St} (e : EnvR K none ρ H env σ) : ∀ vs : List Nat, EnvR K none ρ H (wipeW env vs) (wipe σ vs)
  | [] => e
  | v :: vs => (e.wipe vs).unset .none
abbrev W0 : WX := fun _ _ _ _ => False
/-- a comprehension with one for -/
theorem lc_read {env : EnvW} {st : Store} {ρ : List Addr} {H : Hp} {σ : L2.St} {Q : VK} {m : D ItW} {t : DT} {vs : List Nat} {c : D Bool} {el : D W} {tt : TT}
    (s : StR X.K ρ H st) (e : EnvR X.K none ρ H env σ) (p : Post X.K X.mg Wx (relV X.K) ρ H σ (dLc m vs t c el env st) Q)
    (htt : ∀ σ H Q, RG X none W0 relE c σ H Q → tt σ H Q) :
    tLc (RG X none Wx (relI X) m) (RT X none vs t) tt (RG X none W0 (relV X.K) el) vs σ H Q := by
  refine RG.bind s e p fun ρ1 H1 st1 it J g s1 e1 r q => fun D hD => ?_
  have nD : D ∉ ρ1 := s1.none_of hD
  generalize hl : lcW it.Chk (wipeW env vs) t c el it.items [] st1 = res at q
  cases res with
  | none => exact q.elim
  | some pr =>
    obtain ⟨fin, stf⟩ := pr
    simp only at q
    have ew : EnvR X.K none ρ1 H1 (wipeW env vs) (wipe σ vs) := e1.wipe vs
    refine ⟨fun i m H => m = it.items.length - i ∧ i ≤ it.items.length ∧ ∃ ρ st acc us, Grow ρ1 H1 ρ H ∧ StR X.K ρ H st ∧ H D = some (.lst us) ∧ D ∉ ρ ∧ VRs X.K ρ H acc us ∧ lcW it.Chk (wipeW env vs) t c el (it.items.drop i) acc st = some (fin, stf),
      ⟨_, rfl, Nat.zero_le _, ρ1, st1, [], [], grow_imm hD, s1.grow_imm hD, upd_same, nD, by simp [VRs], hl⟩, ?_⟩
    rintro i m H' ⟨rfl, hi, ρ', st', acc, us, g', s', hD', nD', ra, hq⟩
    have ew' : EnvR X.K none ρ' H' (wipeW env vs) (wipe σ vs) := ew.grow s1.apart g'
    by_cases hlt : i < it.items.length
    · rw [List.drop_eq_getElem_cons hlt] at hq
      unfold lcW at hq
      split at hq
      · rename_i ck
        obtain ⟨go, stop⟩ := r ρ' H' st' g' s' ck i
        obtain ⟨hgo, hy⟩ := go _ (List.getElem?_eq_getElem hlt)
        refine .inr ⟨hgo, fun H2 => ∃ ρ st acc us, Grow ρ1 H1 ρ H2 ∧ StR X.K ρ H2 st ∧ H2 D = some (.lst us) ∧ D ∉ ρ ∧ VRs X.K ρ H2 acc us ∧ lcW it.Chk (wipeW env vs) t c el (it.items.drop (i + 1)) acc st = some (fin, stf), fun H2 n => ⟨_, by omega, rfl, hlt, n⟩, fun x H2 y => ?_⟩
        obtain ⟨g2, s2, rv⟩ := hy x H2 y
        have hD2 : H2 D = some (.lst us) := g2.keep D _ hD' nD'
        have e2 := ew'.grow s'.apart g2
        cases htt' : t it.items[i] (wipeW env vs) st' with
        | none => rw [htt'] at hq; cases hq
        | some pr =>
          obtain ⟨env3, st3⟩ := pr
          rw [htt'] at hq
          simp only at hq
          refine ⟨ρ', wipeW env vs, st', _, s2, e2, rv, env3, st3, htt', fun ρ3 H3 σ3 g3 s3 e3 w3 => ⟨w3.trans wipe_wipe, ?_⟩⟩
          have hD3 : H3 D = some (.lst us) := g3.keep D _ hD2 nD'
          have nD3 : D ∉ ρ3 := fun z => by
            obtain ⟨mm, em, fm⟩ := g3.pre
            subst em
            rcases List.mem_append.mp z with z | z
            · exact nD' z
            · have := fm D z; rw [hD2] at this; cases this
          refine htt _ _ _ ⟨ρ3, env3, st3, s3, e3, ?_⟩
          generalize hc : c env3 st3 = rc at hq
          cases rc with
          | stuck => cases hq
          | err cc fs st4 => cases hq
          | ok b st4 =>
            intro ρ4 H4 b' g4 s4 rb
            have rb' : b = b' := rb
            subst rb'
            have hD4 : H4 D = some (.lst us) := g4.keep D _ hD3 nD3
            have nD4 : D ∉ ρ4 := fun z => by
              obtain ⟨mm, em, fm⟩ := g4.pre
              subst em
              rcases List.mem_append.mp z with z | z
              · exact nD3 z
              · have := fm D z; rw [hD3] at this; cases this
            have g24 : Grow ρ' H' ρ4 H4 := g2.trans (g3.trans g4)
            have ra4 : VRs X.K ρ4 H4 acc us := VRs.grow s'.apart g24 acc us ra
            have e4 := e3.grow s3.apart g4
            cases b with
            | false =>
              rw [if_neg (by decide)]
              exact ⟨ρ4, st4, acc, us, g'.trans g24, s4, hD4, nD4, ra4, hq⟩
            | true =>
              rw [if_pos rfl]
              simp only at hq
              refine ⟨ρ4, env3, st4, s4, e4, ?_⟩
              generalize hel : el env3 st4 = re at hq
              cases re with
              | stuck => cases hq
              | err cc fs st5 => cases hq
              | ok y st5 =>
                intro ρ5 H5 yv g5 s5 ry
                simp only at hq
                split at hq
                · rename_i hsz
                  have hD5 : H5 D = some (.lst us) := g5.keep D _ hD4 nD4
                  have nD5 : D ∉ ρ5 := fun z => by
                    obtain ⟨mm, em, fm⟩ := g5.pre
                    subst em
                    rcases List.mem_append.mp z with z | z
                    · exact nD4 z
                    · have := fm D z; rw [hD4] at this; cases this
                  have ra5 : VRs X.K ρ5 H5 acc us := VRs.grow s4.apart g5 acc us ra4
                  obtain ⟨i1, i2, i3⟩ := side_imm (o := .lst (us ++ [yv])) hD5
                  refine ⟨us, hD5, by rw [← VRs.length ra5]; exact hsz, ρ5, st5, acc ++ [y], us ++ [yv], ?_, s5.side hD5 nD5, upd_same, nD5, VRs.imm i1 i2 i3 _ _ (ra5.append (.one ry)), hq⟩
                  have g15 : Grow ρ1 H1 ρ5 H5 := g'.trans (g24.trans g5)
                  exact ⟨g15.pre, fun a o ha hn => by rw [upd_ne (ne_of_none ha hD)]; exact g15.keep a o ha hn, fun a ha hn => by
                    by_cases z : a = D
                    · subst z; rw [upd_same]; simp
                    · rw [upd_ne z]; exact g15.live a ha hn⟩
                · cases hq
      · cases hq
    · have : i = it.items.length := by omega
      subst this
      rw [List.drop_length] at hq
      unfold lcW at hq
      split at hq
      · rename_i ck
        cases hq
        refine .inl ⟨(r ρ' H' _ g' s' ck _).2 (Nat.le_refl _), ?_⟩
        have gD : Grow ρ1 H1 (ρ' ++ [D]) H' := by
          obtain ⟨mm, em, fm⟩ := g'.pre
          subst em
          exact ⟨⟨mm ++ [D], by simp, fun a ha => by
            rcases List.mem_append.mp ha with ha | ha
            · exact fm a ha
            · have : a = D := by simpa using ha
              subst this; exact hD⟩, g'.keep, g'.live⟩
        have sD : StR X.K (ρ' ++ [D]) H' (stf ++ [.lst fin]) := by
          have gg : Grow ρ' H' (ρ' ++ [D]) H' ∨ True := .inr trivial
          refine ⟨by simp [s'.len], ?_, fun n o en => ?_⟩
          · rw [List.nodup_append]
            exact ⟨s'.nd, List.nodup_cons.mpr ⟨by simp, List.nodup_nil⟩, fun a ha b hb ee => by
              have : b = D := by simpa using hb
              subst this; subst ee; exact nD' ha⟩
          · by_cases hn : n < stf.length
            · rw [List.getElem?_append_left hn] at en
              obtain ⟨a, ha, hob⟩ := s'.ob n o en
              have hl2 := (List.getElem?_eq_some_iff.mp ha).1
              refine ⟨a, by rw [List.getElem?_append_left hl2]; exact ha, ?_⟩
              cases o with
              | lst ws =>
                obtain ⟨us2, hu, hr⟩ := hob
                exact ⟨us2, hu, VRs.more ws us2 hr⟩
            · have hl2 : n < (stf ++ [Ob.lst fin]).length := (List.getElem?_eq_some_iff.mp en).1
              have : n = stf.length := by simp at hl2; omega
              subst this
              rw [List.getElem?_append_right (Nat.le_refl _)] at en
              simp at en; subst en
              exact ⟨D, by rw [← s'.len, List.getElem?_append_right (Nat.le_refl _)]; simp, us, hD', VRs.more _ _ ra⟩
        exact q (ρ' ++ [D]) H' (.ref D) gD sD (by
          simp only [relV, VR]
          exact ⟨D, by rw [← s'.len]; simp, rfl⟩)
      · cases hq
theorem ie_lc {elt tg iter : Expr} {scope : Scope} {own : List (Str × Nat)} {m : D ItW} {t : DT} {el : D W} (hc : X.calm = true) (hN : X.N.Nodup) (hi : II X none Wx tg iter m) (ok : BlkOk X.N X.env.scope scope own)
    (hg : ∀ (s : Shared) (H : Hp) (C : Addr) (cl : List (Str × Addr)) (fp : List Addr), IG (X.blk s H scope (compEnvC scope cl C X.env) fp) none (own.map (·.2)) tg t)
    (he : ∀ (s : Shared) (H : Hp) (C : Addr) (cl : List (Str × Addr)) (fp : List Addr), IE (X.blk s H scope (compEnvC scope cl C X.env) fp) none W0 elt el) (hs : ∀ x, foldedSetIterable iter X.env x = pure x := by intro _; rfl) :
    IE X none Wx (.ListComp elt [⟨tg, iter, [], 0⟩] scope pos) (dLc m (own.map (·.2)) t dYes el) :=
  PE.of (pe_lc hc hN hi ok hg (fun _ _ _ _ _ => pts_nil) he hs) fun σ H Q ⟨ρ, env, st, s, e, p⟩ => lc_read s e p fun σ H Q ⟨ρ, env, st, s, e, p⟩ => Post.ok_ p s rfl
theorem ie_lcIf {elt tg iter cnd : Expr} {scope : Scope} {own : List (Str × Nat)} {m : D ItW} {t : DT} {c : D Bool} {el : D W} (hc : X.calm = true) (hN : X.N.Nodup) (hi : II X none Wx tg iter m) (ok : BlkOk X.N X.env.scope scope own)
    (hg : ∀ (s : Shared) (H : Hp) (C : Addr) (cl : List (Str × Addr)) (fp : List Addr), IG (X.blk s H scope (compEnvC scope cl C X.env) fp) none (own.map (·.2)) tg t)
    (ht : ∀ (s : Shared) (H : Hp) (C : Addr) (cl : List (Str × Addr)) (fp : List Addr), IT (X.blk s H scope (compEnvC scope cl C X.env) fp) none W0 cnd c)
    (he : ∀ (s : Shared) (H : Hp) (C : Addr) (cl : List (Str × Addr)) (fp : List Addr), IE (X.blk s H scope (compEnvC scope cl C X.env) fp) none W0 elt el) (hs : ∀ x, foldedSetIterable iter X.env x = pure x := by intro _; rfl) :
    IE X none Wx (.ListComp elt [⟨tg, iter, [cnd], 0⟩] scope pos) (dLc m (own.map (·.2)) t c el) :=
  PE.of (pe_lc hc hN hi ok hg (fun s H C cl fp => pts_one (ht s H C cl fp)) he hs) fun σ H Q ⟨ρ, env, st, s, e, p⟩ => lc_read s e p fun σ H Q h => h
/-- y = [..] -/
theorem is_setLc {i : Nat} {y : Str} {py spos : Pos} {elt tg iter : Expr} {scope : Scope} {own : List (Str × Nat)} {m : D ItW} {t : DT} {el : D W} (hc : X.calm = true) (hN : X.N.Nodup) (hy : X.N[i]? = some y) (hyl : X.env.scope.names.lookup y = some .local)
    (hsw : swapsWith (.ListComp elt [⟨tg, iter, [], 0⟩] scope pos) (some (.Name y py)) spos.line X.env = pure true) (hi : II X none Wx tg iter m) (ok : BlkOk X.N X.env.scope scope own)
    (hg : ∀ (s : Shared) (H : Hp) (C : Addr) (cl : List (Str × Addr)) (fp : List Addr), IG (X.blk s H scope (compEnvC scope cl C X.env) fp) none (own.map (·.2)) tg t)
    (he : ∀ (s : Shared) (H : Hp) (C : Addr) (cl : List (Str × Addr)) (fp : List Addr), IE (X.blk s H scope (compEnvC scope cl C X.env) fp) none W0 elt el) (hs : ∀ x, foldedSetIterable iter X.env x = pure x := by intro _; rfl) :
    IS X none Wx (.Assign [.Name y py] (.ListComp elt [⟨tg, iter, [], 0⟩] scope pos) spos) (sAsg (dLc m (own.map (·.2)) t dYes el) (tName i)) :=
  PS.of (ps_setLc hc hN hy hyl hsw hi ok hg (fun _ _ _ _ _ => pts_nil) he hs) fun De σ H ⟨ρ, env, st, s, e, p⟩ => by
    have z : RG X none Wx (relV X.K) (dLc m (own.map (·.2)) t dYes el) σ H fun x H1 => gName i x σ H1 De.nx :=
      RS.step s e p fun ρ1 H1 st1 a x g s1 e1 r p1 => PostS.go_ (f := .nx) p1 s1 (e1.set .none r)
    obtain ⟨ρ', env', st', s', e', p'⟩ := z
    exact lc_read s' e' p' fun σ H Q ⟨ρ, env, st, s, e, p⟩ => Post.ok_ p s rfl
theorem is_setLcIf {i : Nat} {y : Str} {py spos : Pos} {elt tg iter cnd : Expr} {scope : Scope} {own : List (Str × Nat)} {m : D ItW} {t : DT} {c : D Bool} {el : D W} (hc : X.calm = true) (hN : X.N.Nodup) (hy : X.N[i]? = some y) (hyl : X.env.scope.names.lookup y = some .local)
    (hsw : swapsWith (.ListComp elt [⟨tg, iter, [cnd], 0⟩] scope pos) (some (.Name y py)) spos.line X.env = pure true) (hi : II X none Wx tg iter m) (ok : BlkOk X.N X.env.scope scope own)
    (hg : ∀ (s : Shared) (H : Hp) (C : Addr) (cl : List (Str × Addr)) (fp : List Addr), IG (X.blk s H scope (compEnvC scope cl C X.env) fp) none (own.map (·.2)) tg t)
    (ht : ∀ (s : Shared) (H : Hp) (C : Addr) (cl : List (Str × Addr)) (fp : List Addr), IT (X.blk s H scope (compEnvC scope cl C X.env) fp) none W0 cnd c)
    (he : ∀ (s : Shared) (H : Hp) (C : Addr) (cl : List (Str × Addr)) (fp : List Addr), IE (X.blk s H scope (compEnvC scope cl C X.env) fp) none W0 elt el) (hs : ∀ x, foldedSetIterable iter X.env x = pure x := by intro _; rfl) :
    IS X none Wx (.Assign [.Name y py] (.ListComp elt [⟨tg, iter, [cnd], 0⟩] scope pos) spos) (sAsg (dLc m (own.map (·.2)) t c el) (tName i)) :=
  PS.of (ps_setLc hc hN hy hyl hsw hi ok hg (fun s H C cl fp => pts_one (ht s H C cl fp)) he hs) fun De σ H ⟨ρ, env, st, s, e, p⟩ => by
    have z : RG X none Wx (relV X.K) (dLc m (own.map (·.2)) t c el) σ H fun x H1 => gName i x σ H1 De.nx :=
      RS.step s e p fun ρ1 H1 st1 a x g s1 e1 r p1 => PostS.go_ (f := .nx) p1 s1 (e1.set .none r)
    obtain ⟨ρ', env', st', s', e', p'⟩ := z
    exact lc_read s' e' p' fun σ H Q h => h
end
end
end MP
namespace MP
open PySem PySem.Spec PyProof.Rows L2
open Classical
noncomputable section

/-! ### what a def leaves behind is let go -/
mutual
def clB (n : Nat) : W → Bool
  | .loc k => decide (k < n)
  | .tup ws => clBs n ws
  | .fro ws => clBs n ws
  | .non => true
  | .bl _ => true
  | .int _ => true
  | .str _ => true
  | .gl _ => true
  | .rng _ _ => true
def clBs (n : Nat) : List W → Bool
  | [] => true
  | w :: ws => clB n w && clBs n ws
end
def clO (n : Nat) : Ob → Bool
  | .lst ws => clBs n ws
/-- what stood at the entry stands, or is closed -/
def GcOk (st0 st : Store) : Prop := ∀ i : Nat, i < st0.length → st[i]? = st0[i]? ∨ ∃ o, st[i]? = some o ∧ clO st0.length o = true
def gc (st0 : Store) (v : W) (st : Store) : Res W :=
  if GcOk st0 st then
    if clB st0.length v = true then .ok v (st.take st0.length)
    else match v with
      | .loc m => match st[m]? with
        | some (.lst ws) => if clBs st0.length ws = true then .ok (.loc st0.length) (st.take st0.length ++ [.lst ws]) else .ok v st
        | _ => .ok v st
      | _ => .ok v st
  else .ok v st
section
variable {K : PySem.W.Frag} {ρ m : List Addr} {H : Hp}
mutual
theorem VR.less : ∀ (w : W) (v : V), clB ρ.length w = true → VR K (ρ ++ m) H w v → VR K ρ H w v
  | .non, _, _, h => by simpa only [VR] using h
  | .bl _, _, _, h => by simpa only [VR] using h
  | .int _, _, _, h => by simpa only [VR] using h
  | .str _, _, _, h => by simpa only [VR] using h
  | .gl _, _, _, h => by simpa only [VR] using h
  | .rng _ _, _, _, h => by simpa only [VR] using h
  | .loc n, _, c, h => by
    simp only [VR] at h ⊢
    simp only [clB, decide_eq_true_eq] at c
    obtain ⟨a, e, r⟩ := h
    exact ⟨a, by rw [List.getElem?_append_left c] at e; exact e, r⟩
  | .tup ws, v, c, h => by
    simp only [VR] at h ⊢
    simp only [clB] at c
    obtain ⟨a, us, e, t, r⟩ := h
    exact ⟨a, us, e, t, VRs.less ws us c r⟩
  | .fro ws, v, c, h => by
    simp only [VR] at h ⊢
    simp only [clB] at c
    obtain ⟨a, us, e, t, r⟩ := h
    exact ⟨a, us, e, t, VRs.less ws us c r⟩
theorem VRs.less : ∀ (ws : List W) (vs : List V), clBs ρ.length ws = true → VRs K (ρ ++ m) H ws vs → VRs K ρ H ws vs
  | [], _, _, h => by simpa only [VRs] using h
  | w :: ws, vs, c, h => by
    simp only [VRs] at h ⊢
    simp only [clBs, Bool.and_eq_true] at c
    obtain ⟨u, us, e, r, rs⟩ := h
    exact ⟨u, us, e, VR.less w u c.1 r, VRs.less ws us c.2 rs⟩
end
mutual
theorem VR.cl : ∀ (w : W) (v : V), VR K ρ H w v → clB ρ.length w = true
  | .non, _, _ => rfl
  | .bl _, _, _ => rfl
  | .int _, _, _ => rfl
  | .str _, _, _ => rfl
  | .gl _, _, _ => rfl
  | .rng _ _, _, _ => rfl
  | .loc n, _, h => by
    simp only [VR] at h
    obtain ⟨a, e, _⟩ := h
    simp only [clB, decide_eq_true_eq]
    exact (List.getElem?_eq_some_iff.mp e).1
  | .tup ws, v, h => by
    simp only [VR] at h
    obtain ⟨a, us, e, t, r⟩ := h
    simp only [clB]
    exact VRs.cl ws us r
  | .fro ws, v, h => by
    simp only [VR] at h
    obtain ⟨a, us, e, t, r⟩ := h
    simp only [clB]
    exact VRs.cl ws us r
theorem VRs.cl : ∀ (ws : List W) (vs : List V), VRs K ρ H ws vs → clBs ρ.length ws = true
  | [], _, _ => rfl
  | w :: ws, vs, h => by
    simp only [VRs] at h
    obtain ⟨u, us, e, r, rs⟩ := h
    simp only [clBs, Bool.and_eq_true]
    exact ⟨VR.cl w u r, VRs.cl ws us rs⟩
end
theorem ObR.cl {a : Addr} {o : Ob} (h : ObR K ρ H a o) : clO ρ.length o = true := by
  cases o with
  | lst ws =>
    obtain ⟨us, _, r⟩ := h
    exact VRs.cl ws us r
theorem ObR.less {a : Addr} {o : Ob} (c : clO ρ.length o = true) (h : ObR K (ρ ++ m) H a o) : ObR K ρ H a o := by
  cases o with
  | lst ws =>
    obtain ⟨us, e, r⟩ := h
    exact ⟨us, e, VRs.less ws us c r⟩
theorem gc_ok {H0 : Hp} {st0 st : Store} {v : W} {x : V} (s0 : StR K ρ H0 st0) (g : Grow ρ H0 (ρ ++ m) H) (s : StR K (ρ ++ m) H st) (r : VR K (ρ ++ m) H v x) :
    ∃ v' st' ρ', gc st0 v st = .ok v' st' ∧ Grow ρ H0 ρ' H ∧ StR K ρ' H st' ∧ VR K ρ' H v' x := by
  unfold gc
  by_cases hg : GcOk st0 st
  · rw [if_pos hg]
    have hlen : st0.length = ρ.length := s0.len.symm
    have hle : ρ.length ≤ st.length := by rw [← s.len]; simp
    have g' : Grow ρ H0 ρ H := ⟨⟨[], by simp, fun _ h => nomatch h⟩, g.keep, g.live⟩
    have s' : StR K ρ H (st.take st0.length) := by
      refine ⟨by rw [List.length_take, hlen]; omega, s0.nd, fun n o e => ?_⟩
      have hn : n < st0.length := by
        have := (List.getElem?_eq_some_iff.mp e).1
        rw [List.length_take] at this; omega
      rw [List.getElem?_take_of_lt hn] at e
      obtain ⟨a, ha, hob⟩ := s.ob n o e
      rw [List.getElem?_append_left (by omega)] at ha
      refine ⟨a, ha, hob.less ?_⟩
      rcases hg n hn with h | ⟨o', h1, h2⟩
      · rw [e] at h
        obtain ⟨_, _, ho0⟩ := s0.ob n o h.symm
        exact ho0.cl
      · rw [e] at h1; cases h1
        rw [← hlen]; exact h2
    by_cases hc : clB st0.length v = true
    · rw [if_pos hc]
      exact ⟨_, _, ρ, rfl, g', s', VR.less v x (by rw [← hlen]; exact hc) r⟩
    · rw [if_neg hc]
      have dflt : ∃ v' st' ρ', (Res.ok v st : Res W) = .ok v' st' ∧ Grow ρ H0 ρ' H ∧ StR K ρ' H st' ∧ VR K ρ' H v' x := ⟨_, _, _, rfl, g, s, r⟩
      cases v with
      | loc k =>
        simp only
        cases hk : st[k]? with
        | none => exact dflt
        | some o =>
          cases o with
          | lst ws =>
            simp only
            by_cases hw : clBs st0.length ws = true
            · rw [if_pos hw]
              obtain ⟨a, ha, us, hu, ru⟩ := s.ob k (.lst ws) hk
              have hka : ρ.length ≤ k := by
                simp only [clB, decide_eq_true_eq] at hc; omega
              rw [List.getElem?_append_right hka] at ha
              have ham : a ∈ m := List.mem_of_getElem? ha
              have hna : a ∉ ρ := fun z => by
                have := s.nd
                rw [List.nodup_append] at this
                exact this.2.2 a z a ham rfl
              obtain ⟨m', em, fm⟩ := g.pre
              have em' : m = m' := List.append_cancel_left em
              subst em'
              have ru' : VRs K ρ H ws us := VRs.less ws us (by rw [← hlen]; exact hw) ru
              refine ⟨_, _, ρ ++ [a], rfl, ⟨⟨[a], rfl, fun b hb => by
                have : b = a := by simpa using hb
                subst this; exact fm _ ham⟩, g.keep, g.live⟩, ?_, ?_⟩
              · refine ⟨by simp [s'.len], ?_, fun n o en => ?_⟩
                · rw [List.nodup_append]
                  exact ⟨s0.nd, List.nodup_cons.mpr ⟨by simp, List.nodup_nil⟩, fun b hb c hcc e => by
                    have : c = a := by simpa using hcc
                    subst this; subst e; exact hna hb⟩
                · by_cases hn : n < (st.take st0.length).length
                  · rw [List.getElem?_append_left hn] at en
                    obtain ⟨b, hb, hob⟩ := s'.ob n o en
                    refine ⟨b, by rw [List.getElem?_append_left (List.getElem?_eq_some_iff.mp hb).1]; exact hb, ?_⟩
                    cases o with
                    | lst ws2 =>
                      obtain ⟨us2, e2, r2⟩ := hob
                      exact ⟨us2, e2, VRs.more ws2 us2 r2⟩
                  · have hl2 : n < (st.take st0.length ++ [Ob.lst ws]).length := (List.getElem?_eq_some_iff.mp en).1
                    have : n = (st.take st0.length).length := by rw [List.length_append] at hl2; simp at hl2 hn ⊢; omega
                    subst this
                    rw [List.getElem?_append_right (Nat.le_refl _)] at en
                    simp at en; subst en
                    exact ⟨a, by rw [← s'.len, List.getElem?_append_right (Nat.le_refl _)]; simp, us, hu, VRs.more ws us ru'⟩
              · simp only [VR] at r ⊢
                obtain ⟨b, hb, rfl⟩ := r
                rw [List.getElem?_append_right hka, ha] at hb
                cases hb
                exact ⟨a, by rw [hlen]; simp, rfl⟩
            · rw [if_neg hw]; exact dflt
      | _ => exact dflt
  · rw [if_neg hg]
    exact ⟨_, _, _, rfl, g, s, r⟩
end
/-- a def's denotation by its body's -/
def fnDen (slots : Nat) (body : DS) : List W → Store → Res W := fun ws st =>
  match body (ws.map some ++ List.replicate (slots - ws.length) none) st with
  | .go (.rt v) _ st' => gc st v st'
  | .go .nx _ st' => gc st .non st'
  | .err c w _ st' => .err c w st'
  | _ => .stuck
/-- a def's promise -/
def SpM (K : PySem.W.Frag) (mg : Str → Option Value) (n : Nat) (den : List W → Store → Res W) : Sp := fun vs H Q E =>
  ∃ ρ ws st, StR K ρ H st ∧ VRs K ρ H ws vs ∧ ws.length = n ∧ Post K mg (fun c d _ H => E c d H) (relV K) ρ H [] (den ws st) Q
abbrev WxOf (E : XK) : WX := fun c d _ H => E c d H
section
variable {P : Program} {w : World} {K : PySem.W.Frag} {mg : Str → Option Value} {base : Heap}
/-- a def of the text keeps its promise -/
theorem fn_ok {x qual : Str} {st : Stmt} {f : Addr} {fd : FuncData} {N ps : List Str} {k : Nat} {body : DS} (F : Fun K x qual st f fd) (S : FnScope N ps (defScope st)) 
    (hb : ∀ (cdv : Value) (A : Around) (outer : List Env) (s : Shared) (H : Hp) (E : XK), Room k (A.deeper (envOfC qual (defScope st) s.heap.objs.size f cdv)) →
      ISs (cxOf (L2.CX P w) P w K mg base N qual (defScope st) f cdv A outer s H E) none (WxOf E) (defBody st) body) :
    FnOk P w K mg base (L2.CX P w) (k + 1) f fd ps (SpM K mg ps.length (fnDen N.length body)) := by
  refine F.okX S (fun vs H Q E h => ?_) (fun cdv A outer s H vs Q E hr h => ?_)
  · obtain ⟨ρ, ws, st, _, r, e, _⟩ := h
    rw [← VRs.length r, e]
  · obtain ⟨ρ, ws, st0, s0, r, hl, p⟩ := h
    refine ⟨_, hb cdv A outer s H E hr, ρ, ws.map some ++ List.replicate (N.length - ws.length) none, st0, s0, ?_, ?_⟩
    · refine ⟨?_, fun i w' e => ?_, fun _ h => nomatch h⟩
      · simp [L2.start, VRs.length r]
      · by_cases hi : i < ws.length
        · rw [List.getElem?_append_left (by simpa using hi)] at e
          rw [List.getElem?_map] at e
          cases hw : ws[i]? with
          | none => rw [hw] at e; cases e
          | some w2 =>
            rw [hw] at e
            cases e
            obtain ⟨v, e1, rv⟩ := r.get hw
            refine ⟨v, ?_, rv⟩
            unfold L2.start
            rw [List.getElem?_append_left (by rw [List.length_map, ← VRs.length r]; exact hi), List.getElem?_map, e1]
            rfl
        · rw [List.getElem?_append_right (by simpa using hi)] at e
          rw [List.getElem?_replicate] at e
          split at e <;> cases e
    · unfold fnDen at p
      generalize body (ws.map some ++ List.replicate (N.length - ws.length) none) st0 = res at p
      cases res with
      | stuck => exact p.elim
      | err c v env' st' => exact fun ρ' H' σ' cls d g s' e' er => p ρ' H' cls d g s' er
      | go f env' st' =>
        cases f with
        | bk => exact p.elim
        | ct => exact p.elim
        | nx =>
          intro ρ' H' σ' g s' e'
          obtain ⟨mm, em, _⟩ := id g.pre
          subst em
          obtain ⟨v', st2, ρ2, e2, g2, s2, r2⟩ := gc_ok (v := .non) (x := .non) s0 g s' (by simp [VR])
          simp only [e2] at p
          exact p ρ2 H' _ g2 s2 r2
        | rt v =>
          intro ρ' H' σ' g s' e' x rx
          obtain ⟨mm, em, _⟩ := id g.pre
          subst em
          obtain ⟨v', st2, ρ2, e2, g2, s2, r2⟩ := gc_ok s0 g s' rx
          simp only [e2] at p
          exact p ρ2 H' _ g2 s2 r2
end

/-! ### calls -/
section
variable {X : Cx} {ex : Option Exn} {Wx : WX} {pos p : Pos} {k : Nat} {f : Addr} {fd : FuncData} {ps ks : List Str} {n : Nat} {den : List W → Store → Res W} {x : Str} {e : Expr} {es : List Expr}
theorem sp_of {ρ : List Addr} {H : Hp} {st : Store} {σ : L2.St} {l : List W} {vs : List V} {Q : VK} (s : StR X.K ρ H st) (r : VRs X.K ρ H l vs) (hl : l.length = n) (p : Post X.K X.mg Wx (relV X.K) ρ H σ (den l st) Q) : SpM X.K X.mg n den vs H Q (WE Wx σ) := by
  refine ⟨ρ, l, st, s, r, hl, ?_⟩
  generalize den l st = res at p
  cases res with
  | ok a st' => exact p
  | err c v st' => exact p
  | stuck => exact p
/-- a def applied: the number of arguments is looked after -/
def dCall (n : Nat) (den : List W → Store → Res W) (m : D (List W)) : D W := fun env st => (m env st).bind fun l st1 => if l.length = n then den l st1 else .stuck
theorem ie_call {m : D (List W)} (F : FnOk X.prog X.w X.K X.mg X.base (L2.CX X.prog X.w) k f fd ps (SpM X.K X.mg n den)) (hr : Room k X.A) (hg : Gl X x) (hm : X.mg x = some (.ref f)) (hk : PySem.W.keepIn X.K (.ref f) = true) (hb : Binds X.K fd ps []) (tk : Takes X Wx)
    (ha : IA X ex Wx (e :: es) m) (hdb : (x == ("__debug__" : Str)) = false := by decide) (he : starEach (e :: es) X.env = (false, eval e X.env) :: starEach es X.env := by rfl) (hpl : (backTo pos (starEach es X.env)).any (·.1) = false := by rfl) :
    IE X ex Wx (.Call (.Name x p) (e :: es) [] pos) (dCall n den m) :=
  PE.of (pe_callS F hr hg hm hk hb (fun σ => passAt tk σ) ha hdb he hpl) fun σ H Q ⟨ρ, env, st, s, e, p⟩ => RG.bind s e p fun ρ1 H1 st1 l vs g s1 e1 r p1 => by
    split at p1
    · rename_i hl; exact sp_of s1 r hl p1
    · exact p1.elim
theorem pe_call0S {sp : Sp} {E : L2.St → XK} {CX : CXT} (F : FnOk X.prog X.w X.K X.mg X.base CX k f fd ps sp) (hr : Room k X.A) (hg : Gl X x) (hm : X.mg x = some (.ref f)) (hk : PySem.W.keepIn X.K (.ref f) = true) (hb : Binds X.K fd ps []) (hx : ∀ σ, PassesAt CX X σ (E σ))
    (hdb : (x == ("__debug__" : Str)) = false := by decide) : PE X (.Call (.Name x p) [] [] pos) (tCallS sp E tNil) := by
  refine ⟨fun pins s σ H Q I h => ?_⟩
  refine wpAny_Call_Name_kw (ld_glob I hg hm ?_ hdb)
  exact PySem.W.callWith_K0 I.kIn hk (run_fnS F hr hb (hx σ) I .nil h)
theorem ie_call0 (F : FnOk X.prog X.w X.K X.mg X.base (L2.CX X.prog X.w) k f fd ps (SpM X.K X.mg n den)) (hr : Room k X.A) (hg : Gl X x) (hm : X.mg x = some (.ref f)) (hk : PySem.W.keepIn X.K (.ref f) = true) (hb : Binds X.K fd ps []) (tk : Takes X Wx)
    (hdb : (x == ("__debug__" : Str)) = false := by decide) : IE X ex Wx (.Call (.Name x p) [] [] pos) (dCall n den dNil) :=
  PE.of (pe_call0S F hr hg hm hk hb (fun σ => passAt tk σ) hdb) fun σ H Q ⟨ρ, env, st, s, e, p⟩ => by
    show SpM X.K X.mg n den [] H Q (WE Wx σ)
    unfold dCall dNil at p
    simp only [Res.bind_ok] at p
    split at p
    · rename_i hl; exact sp_of s (by simp [VRs]) hl p
    · exact p.elim
/-- built-in functions and types -/
theorem ie_callB {id : String} {r : List V → Hp → VK → Prop} {g : List W → Store → Res W} {m : D (List W)} (hc : CallR X (.builtin id) r) (hf : CallOk X r g) (hg : Gl X x) (hm : X.mg x = none) (hv : bootBuiltins x = some (.builtin id)) (ha : IA X ex Wx (e :: es) m) (hn : x ≠ "__name__" := by decide)
    (hdb : (x == ("__debug__" : Str)) = false := by decide) (he : starEach (e :: es) X.env = (false, eval e X.env) :: starEach es X.env := by rfl) (hpl : (backTo pos (starEach es X.env)).any (·.1) = false := by rfl) : IE X ex Wx (.Call (.Name x p) (e :: es) [] pos) (dApp g m) :=
  PE.of (pe_callB hc hg hm hv ha hn hdb he hpl) fun σ H Q ⟨ρ, env, st, s, e, p⟩ => RG.bind s e p fun ρ1 H1 st1 l vs g s1 e1 r p1 => hf Wx ρ1 H1 st1 σ l vs Q s1 r p1
theorem ie_callTy {T : String} {r : List V → Hp → VK → Prop} {g : List W → Store → Res W} {m : D (List W)} (hc : CallR X (.type T) r) (hf : CallOk X r g) (hg : Gl X x) (hm : X.mg x = none) (hv : bootBuiltins x = some (.type T)) (ha : IA X ex Wx (e :: es) m) (hn : x ≠ "__name__" := by decide)
    (hdb : (x == ("__debug__" : Str)) = false := by decide) (he : starEach (e :: es) X.env = (false, eval e X.env) :: starEach es X.env := by rfl) (hpl : (backTo pos (starEach es X.env)).any (·.1) = false := by rfl) : IE X ex Wx (.Call (.Name x p) (e :: es) [] pos) (dApp g m) :=
  PE.of (pe_callTy hc hg hm hv ha hn hdb he hpl) fun σ H Q ⟨ρ, env, st, s, e, p⟩ => RG.bind s e p fun ρ1 H1 st1 l vs g s1 e1 r p1 => hf Wx ρ1 H1 st1 σ l vs Q s1 r p1
/-- methods of built-in types; ty: the receiver is of the type -/
def dBm (ty : W → Store → Bool) (g : W → List W → Store → Res W) (mo : D W) (m : D (List W)) : D W := fun env st => (mo env st).bind fun a st1 => if ty a st1 = true then (m env st1).bind fun l st2 => g a l st2 else .stuck
def MtOk (X : Cx) (r : V → List V → Hp → VK → Prop) (g : W → List W → Store → Res W) : Prop :=
  ∀ (Wx : WX) (ρ : List Addr) (H : Hp) (st : Store) (σ : L2.St) (a : W) (l : List W) (x : V) (vs : List V) (Q : VK), StR X.K ρ H st → VR X.K ρ H a x → VRs X.K ρ H l vs → Post X.K X.mg Wx (relV X.K) ρ H σ (g a l st) Q → r x vs H Q
def TyOk (X : Cx) (T : String) (ty : W → Store → Bool) : Prop :=
  ∀ (ρ : List Addr) (H : Hp) (st : Store) (a : W) (x : V), StR X.K ρ H st → VR X.K ρ H a x → ty a st = true → tyV X.K T x H
theorem ie_bm {T name id : String} {o : Expr} {apos cpos : Pos} {r : V → List V → Hp → VK → Prop} {mo : D W} {m : D (List W)} {g : W → List W → Store → Res W} {ty : W → Store → Bool} (pa : PlainAttrs T) (slot : Slot T name id) (hty : typeOf (.builtin id) = pure (.type "method_descriptor")) (hm : MtR X id r) 
    (hf : MtOk X r g) (hv : TyOk X T ty) (ho : IE X ex Wx o mo) (ha : IA X ex Wx (e :: es) m)
    (hbase : attributeBase o name X.env (eval o X.env) = eval o X.env := by rfl)
    (hfew : ((backTo cpos (starEach (e :: es) X.env)).all (fun x => !x.1) && (backToKw cpos (keywordEach [] X.env)).all (fun x => x.1.isSome)
      && decide ((e :: es).length + ([] : List Keyword).length + (if ([] : List Keyword).isEmpty then 0 else 1) < 30)) = true := by rfl)
    (hline : (apos.endLine == cpos.line) = true := by rfl) (hs : starEach (e :: es) X.env = (false, eval e X.env) :: starEach es X.env := by rfl) (hplain : (backTo cpos (starEach es X.env)).any (·.1) = false := by rfl) :
    IE X ex Wx (.Call (.Attribute o name apos) (e :: es) [] cpos) (dBm ty g mo m) :=
  PE.of (pe_bm pa slot hty hm ho ha hbase hfew hline hs hplain) fun σ H Q ⟨ρ, env, st, s, e, p⟩ => RG.bind s e p fun ρ1 H1 st1 a x g1 s1 e1 ra p1 => by
    split at p1
    · rename_i ht
      exact ⟨hv ρ1 H1 st1 a x s1 ra ht, RG.bind s1 e1 p1 fun ρ2 H2 st2 l vs g2 s2 e2 rl p2 => hf Wx ρ2 H2 st2 σ a l x vs Q s2 (VR.grow s1.apart g2 a x ra) rl p2⟩
    · exact p1.elim
theorem ie_bm0 {T name id : String} {o : Expr} {apos cpos : Pos} {r : V → List V → Hp → VK → Prop} {mo : D W} {g : W → List W → Store → Res W} {ty : W → Store → Bool} (pa : PlainAttrs T) (slot : Slot T name id) (hty : typeOf (.builtin id) = pure (.type "method_descriptor")) (hm : MtR X id r) 
    (hf : MtOk X r g) (hv : TyOk X T ty) (ho : IE X ex Wx o mo)
    (hbase : attributeBase o name X.env (eval o X.env) = eval o X.env := by rfl) (hline : (apos.endLine == cpos.line) = true := by rfl) :
    IE X ex Wx (.Call (.Attribute o name apos) [] [] cpos) (dBm ty g mo dNil) :=
  PE.of (pe_bm0 pa slot hty hm ho hbase hline) fun σ H Q ⟨ρ, env, st, s, e, p⟩ => RG.bind s e p fun ρ1 H1 st1 a x g1 s1 e1 ra p1 => by
    split at p1
    · rename_i ht
      exact ⟨hv ρ1 H1 st1 a x s1 ra ht, hf Wx ρ1 H1 st1 σ a [] x [] Q s1 ra (by simp [VRs]) p1⟩
    · exact p1.elim
end
end
end MP
namespace MP
open PySem PySem.Spec PyProof.Rows L2
open Classical
noncomputable section

/-! ### errors -/
/-- the promise of an error's __init__: self.value = value -/
def spExc (K : PySem.W.Frag) : Sp := fun vs H Q _ => ∃ (a C : Addr) (y : V), vs = [.ref a, y] ∧ OexC K C ∧ PySem.W.findIn K (.ref C) ("value" : Str) = some none ∧ H a = some (exo a C none) ∧
  ∀ d, H d = none → d ≠ a → Q .non (upd (upd H d (exd d [(("value" : Str), y)])) a (exo a C (some d)))
section
variable {P : Program} {w : World} {K : PySem.W.Frag} {mg : Str → Option Value} {base : Heap}
theorem exc_init_ok {x qual : Str} {st : Stmt} {f : Addr} {fd : FuncData} {p1 p2 p3 p4 : Pos} (F : Fun K x qual st f fd) (S : FnScope ["self", "value"] ["self", "value"] (defScope st))
    (hst : defBody st = [.Assign [.Attribute (.Name "self" p1) "value" p2] (.Name "value" p3) p4]) (hv1 : (defScope st).names.lookup ("self" : Str) = some NameKind.local) (hv2 : (defScope st).names.lookup ("value" : Str) = some NameKind.local) :
    FnOk P w K mg base (L2.CX P w) 1 f fd ["self", "value"] (spExc K) := by
  refine F.okX S (fun vs H Q E h => ?_) (fun cdv A outer s H vs Q E hr h => ?_)
  · obtain ⟨a, C, y, rfl, _⟩ := h
    rfl
  · rw [hst]
    refine ⟨_, pss_one (ps_ost (pv 0 rfl (.inl hv1)) (pv 1 rfl (.inl hv2))), ?_⟩
    obtain ⟨a, C, y, rfl, T, hn, ha, q⟩ := h
    exact ⟨y, rfl, .ref a, rfl, a, C, rfl, T, hn, .inl ⟨ha, fun d hd ne => q d hd ne⟩⟩
end
/-- what the written part says of an error class with the __init__ at f -/
structure ErrC (K : PySem.W.Frag) (mg : Str → Option Value) (x : Str) (C f : Addr) : Prop where
  cls : OexC K C
  mgC : mg x = some (.ref C)
  ini : PySem.W.findIn K (.ref C) "__init__" = some (some (.ref f))
  ity : PySem.W.typeIn K (.ref f) = some (.type "function")
  noV : PySem.W.findIn K (.ref C) ("value" : Str) = some none
  xf : XfC K C
def sRaise (x : Str) (m : D (List W)) : DS := fun env st => (m env st).then env fun l st1 => match l with
  | [w] => .err x w env st1
  | _ => .stuck
section
variable {X : Cx} {ex : Option Exn} {Wx : WX} {pos pos2 p : Pos} {k : Nat} {f C : Addr} {fd : FuncData} {x : Str} {e : Expr}
theorem raise_heap {H : Hp} {a d : Addr} {C : Addr} {y : V} (ha : H a = none) (hd : upd H a (exo a C none) d = none) (hda : d ≠ a) :
    upd (del (upd (upd (upd H a (exo a C none)) d (exd d [(("value" : Str), y)])) a (exo a C (some d))) a) d (.xd [(("value" : Str), y)]) = upd H d (.xd [(("value" : Str), y)]) := by
  funext b
  by_cases h1 : b = d
  · rw [h1, upd_same, upd_same]
  · rw [upd_ne h1, upd_ne h1]
    by_cases h2 : b = a
    · rw [h2, del_same, ha]
    · rw [del_ne h2, upd_ne h2, upd_ne h1, upd_ne h2]
theorem is_raise {m : D (List W)} (hc : X.calm = true) (tk : Takes X Wx) (T : ErrC X.K X.mg x C f) (F : FnOk X.prog X.w X.K X.mg X.base (L2.CX X.prog X.w) k f fd ["self", "value"] (spExc X.K)) (hr : Room (k + 1) X.A) (hb : Binds X.K fd ["self", "value"] []) (hg : Gl X x)
    (ha : IA X ex Wx [e] m) (hdb : (x == ("__debug__" : Str)) = false := by decide) (he : starEach [e] X.env = (false, eval e X.env) :: starEach [] X.env := by rfl) (hpl : (backTo pos (starEach [] X.env)).any (·.1) = false := by rfl) :
    IS X ex Wx (.Raise (some (.Call (.Name x p) [e] [] pos)) none pos2) (sRaise x m) :=
  PS.of (ps_raise hc tk (pmk_oex T.cls T.ini T.ity F hr hb .nil passL hg T.mgC ha hdb he hpl)) fun De σ H ⟨ρ, env, st, s, e, q⟩ => RS.step (rel := relVs X.K) s e q fun ρ1 H1 st1 l vs g s1 e1 r q1 => by
    match l, r, q1 with
    | [w], r, q1 =>
      have r' := r
      simp only [relVs, VRs] at r'
      obtain ⟨y, _, rfl, ry, rfl⟩ := r'
      refine ⟨by show 1 ≤ 1000; decide, fun a na => ⟨a, C, y, rfl, T.cls, T.noV, upd_same, fun d nd dne => ⟨rfl, d, [(("value" : Str), y)], upd_same, ?_, ?_, ?_⟩⟩⟩
      · rw [upd_ne dne, upd_same]
      · rw [upd_ne dne] at nd; exact nd
      · rw [raise_heap na nd dne]
        have nd1 : H1 d = none := by rw [upd_ne dne] at nd; exact nd
        exact q1 ρ1 _ σ _ _ (grow_imm nd1) (s1.grow_imm nd1) (e1.grow s1.apart (grow_imm nd1)) ⟨C, d, y, T.mgC, rfl, rfl, upd_same, s1.none_of nd1, VR.grow s1.apart (grow_imm nd1) w y ry⟩
/-! ### try .. except X as n -/
def unAt (i : Nat) (r : RsS) : RsS := match r with
  | .go f env st => .go f (env.set i none) st
  | .err _ _ _ _ => .stuck
  | .stuck => .stuck
/-- sub: which error names the clause takes (none: not known) -/
def sTryAs (i : Nat) (b : DS) (sub : Str → Option Bool) (su : Str → W → DS) : DS := fun env st => match b env st with
  | .err c w env1 st1 => match sub c with
    | some true => if i < env1.length then unAt i (su c w (env1.set i none) st1) else .stuck
    | some false => .err c w env1 st1
    | none => .stuck
  | r => r
def SubOk (X : Cx) (cv : Value) (sub : Str → Option Bool) : Prop := ∀ c b, sub c = some b → ∀ C, X.mg c = some (.ref C) → PySem.W.exmOne X.K (.ref C) cv = some b ∧ (b = true → XfC X.K C ∧ PySem.W.findIn X.K (.ref C) ("value" : Str) = some none)
/-- the suite: over each error that comes -/
def SuOk (X : Cx) (i : Nat) (stmts : List Stmt) (sub : Str → Option Bool) (su : Str → W → DS) : Prop :=
  ∀ (c : Str) (C dd a : Addr) (y : V) (w : W) (oe : Obj) (pn : List (Addr × Obj)), sub c = some true → X.mg c = some (.ref C) → XfC X.K C → PySem.W.findIn X.K (.ref C) ("value" : Str) = some none → Zc (.ref C) (some dd) oe → (∃ vs, oe.data = .fields vs) → ISs (X.suite a ((a, oe) :: pn)) (some ⟨i, a, dd, y, w⟩) W0 stmts (su c w)
theorem pss_ex {X : Cx} {st : List Stmt} {α : Type} {t : α → TS} (h : ∀ a, PSs X st (t a)) : PSs X st (fun D σ H => ∃ a, t a D σ H) := ⟨fun pins s σ H D I ⟨a, q⟩ => (h a).run pins s σ H D I q⟩
theorem pss_and {X : Cx} {st : List Stmt} {φ : Prop} {t : TS} (h : φ → PSs X st t) : PSs X st (fun D σ H => φ ∧ t D σ H) := ⟨fun pins s σ H D I ⟨f, q⟩ => (h f).run pins s σ H D I q⟩
theorem is_try_as {x n : Str} {c : Value} {i : Nat} {body suite : List Stmt} {b₀ : Stmt} {np pos' : Pos} {b : DS} {sub : Str → Option Bool} {su : Str → W → DS} (hs : X.stack = X.env :: X.outer) (hf : X.env.frame = some X.env.locals) (hN : X.N.Nodup) (hi : X.N[i]? = some n) (hln : X.env.kindOf n = some .local) (hc : Names X x c) (tk : Takes X Wx)
    (hb : ∀ (W : WX) (pn : List (Addr × Obj)) (xe : Value → Shared → Prop), Takes (X.tr pn xe) W → PassesOwn (model X.prog X.w) X.A X.env xe → ISs (X.tr pn xe) none W body b) (hsub : SubOk X c sub) (hsu : SuOk X i (b₀ :: suite) sub su) :
    IS X none Wx (.Try body [.ExceptHandler (some (.Name x np)) (some n) (b₀ :: suite) pos'] [] [] pos) (sTryAs i b sub su) := by
  refine PS.of (ps_try_as (tb := fun W => RS X none W b)
    (ts := fun a cls d De σ H => ∃ (c1 : Str) (C dd : Addr) (y : V) (w : MP.W), (sub c1 = some true ∧ X.mg c1 = some (.ref C) ∧ cls = .ref C ∧ d = some dd ∧ XfC X.K C ∧ PySem.W.findIn X.K (.ref C) ("value" : Str) = some none) ∧ RS X (some ⟨i, a, dd, y, w⟩) W0 (su c1 w) De σ H) hs hf hN hi hln hc tk hb ?_) ?_
  · intro a oe cls d pn hz hfv
    refine pss_ex fun c1 => pss_ex fun C => pss_ex fun dd => pss_ex fun y => pss_ex fun w => pss_and fun h => ?_
    obtain ⟨hs1, hm1, rfl, rfl, xf, nv⟩ := h
    exact hsu c1 C dd a y w oe pn hs1 hm1 xf nv hz hfv
  · intro De σ H ⟨ρ, env, st, s, e, q⟩
    refine ⟨ρ, env, st, s, e, ?_⟩
    unfold sTryAs at q
    generalize b env st = res at q
    cases res with
    | stuck => exact q
    | go f env1 st1 => exact q
    | err c1 w env1 st1 =>
      intro ρ' H' σ' cls d g s' e' er
      simp only at q
      obtain ⟨C, dd, y, hm, rfl, rfl, hx, ndd, rw⟩ := id er
      cases hsb : sub c1 with
      | none => rw [hsb] at q; exact q.elim
      | some bb =>
        rw [hsb] at q
        obtain ⟨hb1, hb2⟩ := hsub c1 bb hsb C hm
        refine ⟨bb, hb1, fun hbt a na => ?_, fun hbf => ?_⟩
        · subst hbt
          simp only at q
          obtain ⟨xf, nv⟩ := hb2 rfl
          by_cases hil0 : i < env1.length
          case neg => rw [if_neg hil0] at q; exact q.elim
          rw [if_pos hil0] at q
          refine ⟨c1, C, dd, y, w, ⟨hsb, hm, rfl, rfl, xf, nv⟩, ρ', env1.set i none, st1, s', ⟨by simp [e'.len], fun j w' h => ?_, fun x h => ?_⟩, ?_⟩
          · by_cases hj : i = j
            · subst hj
              rw [List.getElem?_set] at h
              split at h
              · first | cases h | (split at h <;> cases h)
              · rename_i z; exact absurd rfl z
            · rw [List.getElem?_set_ne hj] at h
              obtain ⟨v, h1, h2⟩ := e'.at_ j w' h
              exact ⟨v, by rw [List.getElem?_set_ne hj]; exact h1, h2⟩
          · cases h
            refine ⟨?_, hx, ndd, rw⟩
            have hil : i < σ'.length := by rw [e'.len]; exact hil0
            show (σ'.set i (some (V.ref a)))[i]? = _
            rw [List.getElem?_set_self hil]
          · generalize su c1 w (env1.set i none) st1 = r2 at q
            have q := PostS.mono q g
            cases r2 with
            | stuck => exact q
            | err c2 w2 env2 st2 => exact q.elim
            | go f env2 st2 =>
              intro ρ2 H2 σ2 g2 s2 e2
              have e3 : EnvR X.K none ρ2 H2 (env2.set i none) (σ2.set i none) := ⟨by simp [e2.len], fun j w' h => by
                by_cases hj : i = j
                · subst hj
                  rw [List.getElem?_set] at h
                  split at h
                  · first | cases h | (split at h <;> cases h)
                  · rename_i z; exact absurd rfl z
                · rw [List.getElem?_set_ne hj] at h
                  obtain ⟨v, h1, h2⟩ := e2.at_ j w' h
                  exact ⟨v, by rw [List.getElem?_set_ne hj]; exact h1, h2⟩, fun _ h => nomatch h⟩
              have z := q ρ2 H2 (σ2.set i none) g2 s2 e3
              cases f with
              | nx => exact z
              | bk => exact z
              | ct => exact z
              | rt v => exact z
        · subst hbf
          simp only at q
          exact q ρ' H' σ' _ _ g s' e' er
/-- n.value in the suite -/
def dExc (w : W) : D W := fun _ st => .ok w st
theorem ie_exc {a C dd : Addr} {y : V} {w : W} {i : Nat} {oe : Obj} {pn : List (Addr × Obj)} {n : Str} {q1 : Pos} (T : XfC X.K C) (hno : PySem.W.findIn X.K (.ref C) ("value" : Str) = some none) (hz : Zc (.ref C) (some dd) oe) (hf : ∃ vs, oe.data = .fields vs)
    (hN : X.N[i]? = some n) (hv : Vis X.env.scope n) (hd : (n == ("__debug__" : Str)) = false := by decide) (hcd : (n == ("__classdict__" : Str)) = false := by decide) :
    IE (X.suite a ((a, oe) :: pn)) (some ⟨i, a, dd, y, w⟩) Wx (.Attribute (.Name n q1) "value" pos) (dExc w) := by
  refine PE.of (pe_xf T hno hz hf (pe_var (i := i) hN hv hd hcd)) fun σ H Q ⟨ρ, env, st, s, e, p⟩ => ?_
  obtain ⟨h1, h2, h3, h4⟩ := e.exc _ rfl
  exact ⟨.ref a, h1, rfl, rfl, dd, _, y, rfl, h2, by simp [List.lookup], p.ok_ s h4⟩
end
end
end MP
namespace MP
open PySem PySem.Spec PyProof.Rows L2
open Classical
noncomputable section

section
variable {X : Cx} {ex : Option Exn} {Wx : WX} {pos : Pos}
theorem loc_lst {ρ : List Addr} {H : Hp} {st : Store} {n : Nat} {x : V} {xs : List W} (s : StR X.K ρ H st) (r : VR X.K ρ H (.loc n) x) (h : st[n]? = some (.lst xs)) : ∃ a us, ρ[n]? = some a ∧ x = .ref a ∧ H a = some (.lst us) ∧ VRs X.K ρ H xs us := by
  simp only [VR] at r
  obtain ⟨a, ha, rfl⟩ := r
  obtain ⟨b, hb, us, hu, rs⟩ := s.ob n _ h
  rw [ha] at hb; cases hb
  exact ⟨a, us, ha, rfl, hu, rs⟩
theorem tup_of {ρ : List Addr} {H : Hp} {x : V} {xs : List W} (r : VR X.K ρ H (.tup xs) x) : ∃ a us, x = .ref a ∧ TpF X.K H a us ∧ VRs X.K ρ H xs us := by
  simpa only [VR] using r
theorem fro_of {ρ : List Addr} {H : Hp} {x : V} {xs : List W} (r : VR X.K ρ H (.fro xs) x) : ∃ a us, x = .ref a ∧ SqF X.K H a us ∧ VRs X.K ρ H xs us := by
  simpa only [VR] using r
theorem int_of {ρ : List Addr} {H : Hp} {x : V} {i : Int} (r : VR X.K ρ H (.int i) x) : x = .int i := by simpa only [VR] using r
theorem str_of {ρ : List Addr} {H : Hp} {x : V} {i : Str} (r : VR X.K ρ H (.str i) x) : x = .str i := by simpa only [VR] using r
theorem bl_of {ρ : List Addr} {H : Hp} {x : V} {i : Bool} (r : VR X.K ρ H (.bl i) x) : x = .bl i := by simpa only [VR] using r
theorem non_of {ρ : List Addr} {H : Hp} {x : V} (r : VR X.K ρ H .non x) : x = .non := by simpa only [VR] using r
/-- an answer that is a new list -/
theorem post_lst {ρ : List Addr} {H : Hp} {st : Store} {σ : L2.St} {l : List W} {us : List V} {Q : VK} (s : StR X.K ρ H st) (r : VRs X.K ρ H l us) (p : Post X.K X.mg Wx (relV X.K) ρ H σ (.ok (.loc st.length) (st ++ [.lst l])) Q) : ∀ q, H q = none → Q (.ref q) (upd H q (.lst us)) := fun q hq => by
  obtain ⟨a, b⟩ := lst_new s r hq
  exact p (ρ ++ [q]) _ _ (grow_new hq) a b
theorem post_tup {ρ : List Addr} {H : Hp} {st : Store} {σ : L2.St} {l : List W} {us : List V} {Q : VK} (s : StR X.K ρ H st) (r : VRs X.K ρ H l us) (p : Post X.K X.mg Wx (relV X.K) ρ H σ (.ok (.tup l) st) Q) : ∀ q, H q = none → Q (.ref q) (upd H q (.tup us)) := fun q hq =>
  p ρ _ _ (grow_imm hq) (s.grow_imm hq) (tup_new s r hq)
theorem post_int {ρ : List Addr} {H : Hp} {st : Store} {σ : L2.St} {i : Int} {Q : VK} (s : StR X.K ρ H st) (p : Post X.K X.mg Wx (relV X.K) ρ H σ (.ok (.int i) st) Q) : Q (.int i) H := p.ok_ s (by simp [VR])
theorem post_str {ρ : List Addr} {H : Hp} {st : Store} {σ : L2.St} {i : Str} {Q : VK} (s : StR X.K ρ H st) (p : Post X.K X.mg Wx (relV X.K) ρ H σ (.ok (.str i) st) Q) : Q (.str i) H := p.ok_ s (by simp [VR])
theorem post_bl {ρ : List Addr} {H : Hp} {st : Store} {σ : L2.St} {i : Bool} {Q : VK} (s : StR X.K ρ H st) (p : Post X.K X.mg Wx (relV X.K) ρ H σ (.ok (.bl i) st) Q) : Q (.bl i) H := p.ok_ s (by simp [VR])
/-! ### + - * // % ** -/
def lst2 (st : Store) (m n : Nat) : Option (List W × List W) := match st[m]?, st[n]? with
  | some (.lst xs), some (.lst ys) => some (xs, ys)
  | _, _ => none
def addW (a b : W) (st : Store) : Res W := match a, b with
  | .int i, .int j => .ok (.int (i + j)) st
  | .str x, .str y => if x.length + y.length ≤ sizeLine then .ok (.str (x ++ y)) st else .stuck
  | .tup xs, .tup ys => if xs.length + ys.length ≤ sizeLine then .ok (.tup (xs ++ ys)) st else .stuck
  | .loc m, .loc n => match lst2 st m n with
    | some (xs, ys) => if xs.length + ys.length ≤ sizeLine then .ok (.loc st.length) (st ++ [.lst (xs ++ ys)]) else .stuck
    | none => .stuck
  | _, _ => .stuck
theorem lst2_of {st : Store} {m n : Nat} {xs ys : List W} (h : lst2 st m n = some (xs, ys)) : st[m]? = some (.lst xs) ∧ st[n]? = some (.lst ys) := by
  unfold lst2 at h
  split at h
  · rename_i h1 h2; cases h; exact ⟨h1, h2⟩
  · cases h
def rAdd (K : PySem.W.Frag) : R2 := fun x y H Q => (rI0 (fun i j => .int (i + j)) x y H Q) ∨ ((∃ i j, x = .str i ∧ y = .str j ∧ i.length + j.length ≤ sizeLine ∧ Q (.str (i ++ j)) H) ∨ (rCatA K x y H Q ∨ rCat x y H Q))
theorem opr_add : OpR X (binaryOp .Add) (rAdd X.K) := OpR.or op_add (OpR.or op_add_str (OpR.or op_catA op_cat))
theorem add_ok : OpOk X (rAdd X.K) addW := fun Wx ρ H st σ a b x y Q s ra rb p => by
  unfold addW at p
  split at p
  · rw [int_of ra, int_of rb]
    exact .inl ⟨_, _, rfl, rfl, post_int s p⟩
  · rw [str_of ra, str_of rb]
    split at p
    · rename_i hz
      exact .inr (.inl ⟨_, _, rfl, rfl, hz, post_str s p⟩)
    · exact p.elim
  · split at p
    · rename_i xs ys hz
      obtain ⟨a1, us, rfl, ht, r1⟩ := tup_of ra
      obtain ⟨b1, vs, rfl, hu, r2⟩ := tup_of rb
      refine .inr (.inr (.inl ⟨a1, b1, us, vs, rfl, rfl, ht.sq, hu.sq, by rw [← VRs.length r1, ← VRs.length r2]; exact hz, fun e => ?_, fun _ e => ?_, fun _ _ => post_tup s (r1.append r2) p⟩))
      · refine p.ok_ s ?_
        have e1 : xs = [] := by cases xs with
          | nil => rfl
          | cons _ _ => have := VRs.length r1; rw [e] at this; simp at this
        subst e1
        simp only [List.nil_append, relV, VR]
        exact ⟨b1, vs, rfl, hu, r2⟩
      · refine p.ok_ s ?_
        have e1 : ys = [] := by cases ys with
          | nil => rfl
          | cons _ _ => have := VRs.length r2; rw [e] at this; simp at this
        subst e1
        simp only [List.append_nil, relV, VR]
        exact ⟨a1, us, rfl, ht, r1⟩
    · exact p.elim
  · split at p
    · rename_i xs ys hl
      obtain ⟨h1, h2⟩ := lst2_of hl
      split at p
      · rename_i hz
        obtain ⟨a1, us, _, rfl, hu, r1⟩ := loc_lst s ra h1
        obtain ⟨b1, vs, _, rfl, hv, r2⟩ := loc_lst s rb h2
        exact .inr (.inr (.inr ⟨a1, b1, us, vs, rfl, rfl, hu, hv, by rw [← VRs.length r1, ← VRs.length r2]; exact hz, post_lst s (r1.append r2) p⟩))
      · exact p.elim
    · exact p.elim
  · exact p.elim
theorem ie_add {a b : Expr} {ma mb : D W} (ha : IE X ex Wx a ma) (hb : IE X ex Wx b mb) : IE X ex Wx (.BinOp a .Add b pos) (dOp addW ma mb) := ie_op opr_add add_ok ha hb
def subW (a b : W) (st : Store) : Res W := match a, b with
  | .int i, .int j => .ok (.int (i - j)) st
  | _, _ => .stuck
theorem sub_ok : OpOk X (rI0 fun i j => .int (i - j)) subW := fun Wx ρ H st σ a b x y Q s ra rb p => by
  unfold subW at p
  split at p
  · rw [int_of ra, int_of rb]; exact ⟨_, _, rfl, rfl, post_int s p⟩
  · exact p.elim
theorem ie_sub {a b : Expr} {ma mb : D W} (ha : IE X ex Wx a ma) (hb : IE X ex Wx b mb) : IE X ex Wx (.BinOp a .Sub b pos) (dOp subW ma mb) := ie_op op_sub sub_ok ha hb
theorem op_mulI : OpR X (binaryOp .Mult) (rI IntMulOk fun i j => .int (i * j)) := opI fun _ _ _ _ _ _ _ hc q => mul_int q hc
/-- z, k times -/
def repS (z : Str) (k : Nat) : Str := ⟨(List.replicate k z.cps).foldl (· ++ ·) #[]⟩
def CRepS (z : Str) (k : Int) : Prop := 2 ≤ k ∧ k ≤ 1000 ∧ 1 ≤ z.length ∧ z.length ≤ 1000 ∧ (repS z k.toNat).length ≤ sizeLine
theorem op_mulS : OpR X (binaryOp .Mult) (fun x y H Q => ∃ z k, x = .str z ∧ y = .int k ∧ CRepS z k ∧ Q (.str (repS z k.toNat)) H) := by
  intro pins s σ H x y v u Q I rx ry h
  obtain ⟨z, k, rfl, rfl, ⟨h1, h2, h3, h4, h5⟩, q⟩ := h
  obtain ⟨t, rfl⟩ := rx
  obtain ⟨t', rfl⟩ := ry
  have hk1 : (k == 1) = false := by simp; omega
  have hz0 : (z.length == 0) = false := by simp; omega
  refine PySem.P.mul_str ?_ (fun _ _ => ?_) (fun _ _ => ?_) ?_
  · have a1 : ¬ k < -(2 ^ 63 : Int) := by omega
    have a2 : ¬ k ≥ 2 ^ 63 := by omega
    rw [decide_eq_false a1, decide_eq_false a2]; rfl
  · have : (2 : Int) ^ 63 - 1 = 9223372036854775807 := by decide
    rw [this]
    intro hgt
    have h6 : (1000 : Int) ≤ 9223372036854775807 / k := by
      rw [Int.le_ediv_iff_mul_le (by omega)]; omega
    omega
  · have hle : z.length * k.toNat ≤ 1000 * 1000 := Nat.mul_le_mul h4 (by omega)
    exact decide_eq_false (by rw [sizeLine_eq]; omega)
  · rw [if_neg (by omega), hk1, hz0]
    exact ⟨h5, .str _, H, I.tok _, ⟨_, rfl⟩, q⟩
def mulW (a b : W) (st : Store) : Res W := match a, b with
  | .int i, .int j => if IntMulOk i j then .ok (.int (i * j)) st else .stuck
  | .str z, .int k => if CRepS z k then .ok (.str (repS z k.toNat)) st else .stuck
  | .loc m, .int k => match st[m]? with
    | some (.lst xs) => if -(2 ^ 63) ≤ k ∧ k < 2 ^ 63 ∧ xs.length * k.toNat ≤ sizeLine then .ok (.loc st.length) (st ++ [.lst (List.replicate k.toNat xs).flatten]) else .stuck
    | _ => .stuck
  | _, _ => .stuck
theorem VRs.rep {K : PySem.W.Frag} {ρ : List Addr} {H : Hp} {ws : List W} {us : List V} (r : VRs K ρ H ws us) : ∀ n : Nat, VRs K ρ H (List.replicate n ws).flatten (List.replicate n us).flatten
  | 0 => by simp [VRs]
  | n + 1 => by
    simp only [List.replicate_succ, List.flatten_cons]
    exact r.append (r.rep n)
theorem mul_ok : OpOk X (fun x y H Q => rI IntMulOk (fun i j => .int (i * j)) x y H Q ∨ ((∃ z k, x = .str z ∧ y = .int k ∧ CRepS z k ∧ Q (.str (repS z k.toNat)) H) ∨ rRep x y H Q)) mulW := fun Wx ρ H st σ a b x y Q s ra rb p => by
  unfold mulW at p
  split at p
  · split at p
    · rename_i hz
      rw [int_of ra, int_of rb]; exact .inl ⟨_, _, rfl, rfl, hz, post_int s p⟩
    · exact p.elim
  · split at p
    · rename_i hz
      rw [str_of ra, int_of rb]; exact .inr (.inl ⟨_, _, rfl, rfl, hz, post_str s p⟩)
    · exact p.elim
  · split at p
    · rename_i xs hl
      split at p
      · rename_i hz
        obtain ⟨a1, us, _, rfl, hu, r1⟩ := loc_lst s ra hl
        rw [int_of rb]
        exact .inr (.inr ⟨a1, _, us, rfl, rfl, hu, hz.1, hz.2.1, by rw [← VRs.length r1]; exact hz.2.2, post_lst s (r1.rep _) p⟩)
      · exact p.elim
    · exact p.elim
  · exact p.elim
theorem ie_mul {a b : Expr} {ma mb : D W} (ha : IE X ex Wx a ma) (hb : IE X ex Wx b mb) : IE X ex Wx (.BinOp a .Mult b pos) (dOp mulW ma mb) := ie_op (OpR.or op_mulI (OpR.or op_mulS op_rep)) mul_ok ha hb
def fdivW (a b : W) (st : Store) : Res W := match a, b with
  | .int i, .int j => if CDivW i j then .ok (.int (i / j)) st else .stuck
  | _, _ => .stuck
theorem fdiv_ok : OpOk X (rI CDivW fun i j => .int (i / j)) fdivW := fun Wx ρ H st σ a b x y Q s ra rb p => by
  unfold fdivW at p
  split at p
  · split at p
    · rename_i hz
      rw [int_of ra, int_of rb]; exact ⟨_, _, rfl, rfl, hz, post_int s p⟩
    · exact p.elim
  · exact p.elim
theorem ie_fdiv {a b : Expr} {ma mb : D W} (ha : IE X ex Wx a ma) (hb : IE X ex Wx b mb) : IE X ex Wx (.BinOp a .FloorDiv b pos) (dOp fdivW ma mb) := ie_op op_fdivW fdiv_ok ha hb
theorem op_modP : OpR X (binaryOp .Mod) (rI (fun _ j => 0 < j) fun i j => .int (i % j)) := opI fun i j _ _ _ _ _ hc q => mod_int' (by omega) (by rw [Int.fmod_eq_emod_of_nonneg i (by omega)]; exact q)
def modW (a b : W) (st : Store) : Res W := match a, b with
  | .int i, .int j => if 0 < j then .ok (.int (i % j)) st else .stuck
  | _, _ => .stuck
theorem mod_ok : OpOk X (rI (fun _ j => 0 < j) fun i j => .int (i % j)) modW := fun Wx ρ H st σ a b x y Q s ra rb p => by
  unfold modW at p
  split at p
  · split at p
    · rename_i hz
      rw [int_of ra, int_of rb]; exact ⟨_, _, rfl, rfl, hz, post_int s p⟩
    · exact p.elim
  · exact p.elim
theorem ie_mod {a b : Expr} {ma mb : D W} (ha : IE X ex Wx a ma) (hb : IE X ex Wx b mb) : IE X ex Wx (.BinOp a .Mod b pos) (dOp modW ma mb) := ie_op op_modP mod_ok ha hb
def CPowW (i j : Int) : Prop := 0 ≤ j ∧ (Builtin.Int.intBits i : Int) * j ≤ 2 ^ 27
theorem op_powI : OpR X (binaryOp .Pow) (rI CPowW fun i j => .int (i ^ j.toNat)) := opI fun _ _ _ _ _ _ _ hc q => pow_int hc.1 hc.2 q
def powW (a b : W) (st : Store) : Res W := match a, b with
  | .int i, .int j => if CPowW i j then .ok (.int (i ^ j.toNat)) st else .stuck
  | _, _ => .stuck
theorem pow_ok : OpOk X (rI CPowW fun i j => .int (i ^ j.toNat)) powW := fun Wx ρ H st σ a b x y Q s ra rb p => by
  unfold powW at p
  split at p
  · split at p
    · rename_i hz
      rw [int_of ra, int_of rb]; exact ⟨_, _, rfl, rfl, hz, post_int s p⟩
    · exact p.elim
  · exact p.elim
theorem ie_pow {a b : Expr} {ma mb : D W} (ha : IE X ex Wx a ma) (hb : IE X ex Wx b mb) : IE X ex Wx (.BinOp a .Pow b pos) (dOp powW ma mb) := ie_op op_powI pow_ok ha hb
def negW (a : W) (st : Store) : Res W := match a with
  | .int i => .ok (.int (-i)) st
  | _ => .stuck
theorem neg_ok : UnOk X (rU fun i => .int (-i)) negW := fun Wx ρ H st σ a x Q s ra p => by
  unfold negW at p
  split at p
  · rw [int_of ra]; exact ⟨_, rfl, post_int s p⟩
  · exact p.elim
theorem ie_neg {a : Expr} {ma : D W} (ha : IE X ex Wx a ma) : IE X ex Wx (.UnaryOp .USub a pos) (dUn negW ma) := ie_un un_neg neg_ok ha
/-! ### == != by data -/
def allO {α : Type} : List (Option α) → Option (List α)
  | [] => some []
  | some a :: r => (allO r).map (a :: ·)
  | none :: _ => none
def datF (st : Store) : Nat → W → Option PyData
  | 0, _ => none
  | n + 1, w => match w with
    | .non => some .none
    | .bl b => some (.bool b)
    | .int i => some (.int i)
    | .str x => some (.str x)
    | .tup ws => (allO (ws.map (datF st n))).map .tuple
    | .fro ws => (allO (ws.map (datF st n))).map .list
    | .loc k => match st[k]? with
      | some (.lst ws) => (allO (ws.map (datF st n))).map .list
      | none => none
    | .gl _ => none
    | .rng _ _ => none
theorem allO_dp {ρ : List Addr} {H : Hp} {f : W → Option PyData} (h : ∀ w v d, VR X.K ρ H w v → f w = some d → Dp X.K H v d) : ∀ {ws : List W} {us : List V} {ds : List PyData}, VRs X.K ρ H ws us → allO (ws.map f) = some ds → DpAll X.K H us ds
  | [], us, ds, r, e => by
    simp only [VRs] at r
    simp only [List.map_nil, allO, Option.some.injEq] at e
    subst r; subst e
    exact .nil
  | w :: ws, us, ds, r, e => by
    simp only [VRs] at r
    obtain ⟨u, vs, rfl, rw, rs⟩ := r
    simp only [List.map_cons] at e
    cases hf : f w with
    | none => rw [hf] at e; simp [allO] at e
    | some d =>
      rw [hf] at e
      simp only [allO] at e
      cases ha : allO (ws.map f) with
      | none => rw [ha] at e; cases e
      | some dr =>
        rw [ha] at e
        cases e
        exact .cons (h w u d rw hf) (allO_dp h rs ha)
theorem datF_dp {ρ : List Addr} {H : Hp} {st : Store} (s : StR X.K ρ H st) : ∀ (n : Nat) (w : W) (v : V) (d : PyData), VR X.K ρ H w v → datF st n w = some d → Dp X.K H v d
  | 0, _, _, _, _, e => by simp [datF] at e
  | n + 1, w, v, d, r, e => by
    unfold datF at e
    cases w with
    | non => simp only at e; cases e; rw [non_of r]; constructor
    | bl b => simp only at e; cases e; rw [bl_of r]; constructor
    | int i => simp only at e; cases e; rw [int_of r]; constructor
    | str x => simp only at e; cases e; rw [str_of r]; constructor
    | gl u => simp only at e; cases e
    | rng i j => simp only at e; cases e
    | tup ws =>
      simp only at e
      cases ha : allO (ws.map (datF st n)) with
      | none => rw [ha] at e; cases e
      | some ds =>
        rw [ha] at e; cases e
        obtain ⟨a, us, rfl, ht, rs⟩ := tup_of r
        exact .tup ht.sq (allO_dp (datF_dp s n) rs ha)
    | fro ws =>
      simp only at e
      cases ha : allO (ws.map (datF st n)) with
      | none => rw [ha] at e; cases e
      | some ds =>
        rw [ha] at e; cases e
        obtain ⟨a, us, rfl, ht, rs⟩ := fro_of r
        exact .lst ht.sq (allO_dp (datF_dp s n) rs ha)
    | loc k =>
      simp only at e
      cases hk : st[k]? with
      | none => rw [hk] at e; cases e
      | some o =>
        cases o with
        | lst ws =>
          rw [hk] at e
          simp only at e
          cases ha : allO (ws.map (datF st n)) with
          | none => rw [ha] at e; cases e
          | some ds =>
            rw [ha] at e; cases e
            obtain ⟨a, us, _, rfl, hu, rs⟩ := loc_lst s r hk
            exact .lst (.of hu) (allO_dp (datF_dp s n) rs ha)
end
end
end MP
namespace MP
open PySem PySem.Spec PyProof.Rows L2
open Classical
noncomputable section

section
variable {X : Cx} {ex : Option Exn} {Wx : WX} {pos p : Pos}
def eqW (a b : W) (st : Store) : Res W := match datF st 66 a, datF st 66 b with
  | some d, some e => if SeqAt.shaped d = true ∧ SeqAt.shaped e = true then .ok (.bl (PyData.eqv d e)) st else .stuck
  | _, _ => .stuck
def neW (a b : W) (st : Store) : Res W := match datF st 66 a, datF st 66 b with
  | some d, some e => if SeqAt.shaped d = true ∧ SeqAt.shaped e = true then .ok (.bl (!PyData.eqv d e)) st else .stuck
  | _, _ => .stuck
theorem eq_ok : OpOk X (rEqD X.K) eqW := fun Wx ρ H st σ a b x y Q s ra rb p => by
  unfold eqW at p
  split at p
  · rename_i d e hd he
    split at p
    · rename_i hz
      exact ⟨d, e, datF_dp s 66 a x d ra hd, datF_dp s 66 b y e rb he, hz.1, hz.2, post_bl s p⟩
    · exact p.elim
  · exact p.elim
theorem ne_ok : OpOk X (rNeD X.K) neW := fun Wx ρ H st σ a b x y Q s ra rb p => by
  unfold neW at p
  split at p
  · rename_i d e hd he
    split at p
    · rename_i hz
      exact ⟨d, e, datF_dp s 66 a x d ra hd, datF_dp s 66 b y e rb he, hz.1, hz.2, post_bl s p⟩
    · exact p.elim
  · exact p.elim
section
variable {a b : Expr} {ma mb : D W} {k : Nat}
theorem ie_eq (hr : Room k X.A) (ha : IE X ex Wx a ma) (hb : IE X ex Wx b mb) : IE X ex Wx (.Compare a [.Eq] [b] pos) (dOp eqW ma mb) := ie_cmp (op_eqD hr.units) eq_ok ha hb (nomark _)
theorem ie_ne (hr : Room k X.A) (ha : IE X ex Wx a ma) (hb : IE X ex Wx b mb) : IE X ex Wx (.Compare a [.NotEq] [b] pos) (dOp neW ma mb) := ie_cmp (op_neD hr.units) ne_ok ha hb (nomark _)
theorem it_eq (hr : Room k X.A) (ha : IE X ex Wx a ma) (hb : IE X ex Wx b mb) : IT X ex Wx (.Compare a [.Eq] [b] pos) (dBool (dOp eqW ma mb)) := it_cmp (op_eqD hr.units) eq_ok ha hb (nomark _)
theorem it_ne (hr : Room k X.A) (ha : IE X ex Wx a ma) (hb : IE X ex Wx b mb) : IT X ex Wx (.Compare a [.NotEq] [b] pos) (dBool (dOp neW ma mb)) := it_cmp (op_neD hr.units) ne_ok ha hb (nomark _)
end
/-! ### < <= > >= -/
def ltW (a b : W) (st : Store) : Res W := match a, b with
  | .int i, .int j => .ok (.bl (decide (i < j))) st
  | .str x, .str y => .ok (.bl (decide (x.cps.toList < y.cps.toList))) st
  | _, _ => .stuck
def leW (a b : W) (st : Store) : Res W := match a, b with
  | .int i, .int j => .ok (.bl (decide (i ≤ j))) st
  | .str x, .str y => .ok (.bl (!decide (y.cps.toList < x.cps.toList))) st
  | _, _ => .stuck
def gtW (a b : W) (st : Store) : Res W := match a, b with
  | .int i, .int j => .ok (.bl (decide (j < i))) st
  | .str x, .str y => .ok (.bl (decide (y.cps.toList < x.cps.toList))) st
  | _, _ => .stuck
def geW (a b : W) (st : Store) : Res W := match a, b with
  | .int i, .int j => .ok (.bl (decide (j ≤ i))) st
  | .str x, .str y => .ok (.bl (!decide (x.cps.toList < y.cps.toList))) st
  | _, _ => .stuck
theorem ord_ok {f : W → W → Store → Res W} {g : Int → Int → Bool} {h : Str → Str → Bool} (hf : ∀ a b st, f a b st = match a, b with
    | .int i, .int j => .ok (.bl (g i j)) st
    | .str x, .str y => .ok (.bl (h x y)) st
    | _, _ => .stuck) : OpOk X (fun x y H Q => rI0 (fun i j => .bl (g i j)) x y H Q ∨ ∃ i j, x = .str i ∧ y = .str j ∧ Q (.bl (h i j)) H) f := fun Wx ρ H st σ a b x y Q s ra rb p => by
  rw [hf] at p
  split at p
  · rw [int_of ra, int_of rb]; exact .inl ⟨_, _, rfl, rfl, post_bl s p⟩
  · rw [str_of ra, str_of rb]; exact .inr ⟨_, _, rfl, rfl, post_bl s p⟩
  · exact p.elim
section
variable {a b : Expr} {ma mb : D W}
theorem ie_lt (ha : IE X ex Wx a ma) (hb : IE X ex Wx b mb) : IE X ex Wx (.Compare a [.Lt] [b] pos) (dOp ltW ma mb) := ie_cmp (OpR.or op_lt op_lt_str) (ord_ok fun _ _ _ => rfl) ha hb (nomark _)
theorem ie_le (ha : IE X ex Wx a ma) (hb : IE X ex Wx b mb) : IE X ex Wx (.Compare a [.LtE] [b] pos) (dOp leW ma mb) := ie_cmp (OpR.or op_le op_le_str) (ord_ok fun _ _ _ => rfl) ha hb (nomark _)
theorem ie_gt (ha : IE X ex Wx a ma) (hb : IE X ex Wx b mb) : IE X ex Wx (.Compare a [.Gt] [b] pos) (dOp gtW ma mb) := ie_cmp (OpR.or op_gt op_gt_str) (ord_ok fun _ _ _ => rfl) ha hb (nomark _)
theorem ie_ge (ha : IE X ex Wx a ma) (hb : IE X ex Wx b mb) : IE X ex Wx (.Compare a [.GtE] [b] pos) (dOp geW ma mb) := ie_cmp (OpR.or op_ge op_ge_str) (ord_ok fun _ _ _ => rfl) ha hb (nomark _)
theorem it_lt (ha : IE X ex Wx a ma) (hb : IE X ex Wx b mb) : IT X ex Wx (.Compare a [.Lt] [b] pos) (dBool (dOp ltW ma mb)) := it_cmp (OpR.or op_lt op_lt_str) (ord_ok fun _ _ _ => rfl) ha hb (nomark _)
theorem it_le (ha : IE X ex Wx a ma) (hb : IE X ex Wx b mb) : IT X ex Wx (.Compare a [.LtE] [b] pos) (dBool (dOp leW ma mb)) := it_cmp (OpR.or op_le op_le_str) (ord_ok fun _ _ _ => rfl) ha hb (nomark _)
theorem it_gt (ha : IE X ex Wx a ma) (hb : IE X ex Wx b mb) : IT X ex Wx (.Compare a [.Gt] [b] pos) (dBool (dOp gtW ma mb)) := it_cmp (OpR.or op_gt op_gt_str) (ord_ok fun _ _ _ => rfl) ha hb (nomark _)
theorem it_ge (ha : IE X ex Wx a ma) (hb : IE X ex Wx b mb) : IT X ex Wx (.Compare a [.GtE] [b] pos) (dBool (dOp geW ma mb)) := it_cmp (OpR.or op_ge op_ge_str) (ord_ok fun _ _ _ => rfl) ha hb (nomark _)
/-- a <= b <= c -/
theorem ie_lele {c : Expr} {mc : D W} (ha : IE X ex Wx a ma) (hb : IE X ex Wx b mb) (hc : IE X ex Wx c mc) (hm : lastMarks [.LtE, .LtE] [b, c] = false := by with_unfolding_all rfl) : IE X ex Wx (.Compare a [.LtE, .LtE] [b, c] pos) (dChain leW leW ma mb mc) :=
  ie_chain (OpR.or op_le op_le_str) (ord_ok fun _ _ _ => rfl) (OpR.or op_le op_le_str) (ord_ok fun _ _ _ => rfl) ha hb hc hm
/-- a <= b < c -/
theorem ie_lelt {c : Expr} {mc : D W} (ha : IE X ex Wx a ma) (hb : IE X ex Wx b mb) (hc : IE X ex Wx c mc) (hm : lastMarks [.LtE, .Lt] [b, c] = false := by with_unfolding_all rfl) : IE X ex Wx (.Compare a [.LtE, .Lt] [b, c] pos) (dChain leW ltW ma mb mc) :=
  ie_chain (OpR.or op_le op_le_str) (ord_ok fun _ _ _ => rfl) (OpR.or op_lt op_lt_str) (ord_ok fun _ _ _ => rfl) ha hb hc hm
end
theorem tru_step {m : D W} (σ : L2.St) (H : Hp) (Q : Bool → Hp → Prop) (h : RG X ex Wx relE (dBool m) σ H Q) : RG X ex Wx (relV X.K) m σ H fun x H' => ∃ k, TruV X.K x H' k ∧ Q k H' := by
  obtain ⟨ρ, env, st, s, e, q⟩ := dBool_step h
  refine ⟨ρ, env, st, s, e, ?_⟩
  generalize m env st = r at q
  cases r with
  | stuck => exact q
  | err c w st1 => exact q
  | ok a st1 =>
    intro ρ' H' x g s' r
    obtain ⟨k, ek, q'⟩ := q ρ' H' x g s' r
    subst ek
    exact ⟨k, rfl, q'⟩
/-- a bool's expression as a test -/
theorem it_val {e : Expr} {m : D W} (he : IE X ex Wx e m) (hw : ∀ whole, isTrue e X.env whole = (do let v ← whole; standAt e.pos; holding [v] (truthy v)) := by intro _; rfl) : IT X ex Wx e (dBool m) :=
  PT.of (pt_truth he hw) (tru_step)
theorem chain_step {op op' : CmpOp} {r r' : R2} {f g : W → W → Store → Res W} {ma mb mc : D W} (hf : OpOk X r f) (hg : OpOk X r' g) (σ : L2.St) (H : Hp) (Q : VK) (h : RG X ex Wx (relV X.K) (dChain f g ma mb mc) σ H Q) :
    tChain r r' (RG X ex Wx (relV X.K) ma) (RG X ex Wx (relV X.K) mb) (RG X ex Wx (relV X.K) mc) σ H Q := by
  obtain ⟨ρ, env, st, s, e, q⟩ := h
  refine RG.bind s e q fun ρ1 H1 st1 a x g1 s1 e1 ra p1 => RG.bind s1 e1 p1 fun ρ2 H2 st2 b y g2 s2 e2 rb p2 => ?_
  refine hf Wx ρ2 H2 st2 σ a b x y _ s2 (VR.grow s1.apart g2 a x ra) rb ?_
  generalize f a b st2 = q2 at p2
  cases q2 with
  | stuck => exact p2
  | err c fs st' => exact p2
  | ok z st3 =>
    intro ρ3 H3 zv g3 s3 rz
    simp only [Res.bind_ok] at p2
    cases z with
    | bl k =>
      refine ⟨k, bl_of rz, ?_⟩
      cases k with
      | true =>
        rw [if_pos rfl]
        exact RG.bind s3 (e2.grow s2.apart g3) (Post.mono p2 g3) fun ρ4 H4 st4 c z g4 s4 e4 rc p4 => hg Wx ρ4 H4 st4 σ b c y z Q s4 (VR.grow s3.apart g4 b y (VR.grow s2.apart g3 b y rb)) rc p4
      | false =>
        rw [if_neg (by decide)]
        exact post_bl s3 (Post.mono p2 g3)
    | _ => exact p2.elim
theorem it_lele {a b c : Expr} {ma mb mc : D W} (ha : IE X ex Wx a ma) (hb : IE X ex Wx b mb) (hc : IE X ex Wx c mc) (hm : lastMarks [.LtE, .LtE] [b, c] = false := by with_unfolding_all rfl) : IT X ex Wx (.Compare a [.LtE, .LtE] [b, c] pos) (dBool (dChain leW leW ma mb mc)) :=
  PT.of (pt_chain (OpR.or op_le op_le_str) (OpR.or op_le op_le_str) ha hb hc hm) fun σ H Q h => chain_step (op := .LtE) (op' := .LtE) (ord_ok fun _ _ _ => rfl) (ord_ok fun _ _ _ => rfl) σ H _ (dBool_step h)
theorem it_lelt {a b c : Expr} {ma mb mc : D W} (ha : IE X ex Wx a ma) (hb : IE X ex Wx b mb) (hc : IE X ex Wx c mc) (hm : lastMarks [.LtE, .Lt] [b, c] = false := by with_unfolding_all rfl) : IT X ex Wx (.Compare a [.LtE, .Lt] [b, c] pos) (dBool (dChain leW ltW ma mb mc)) :=
  PT.of (pt_chain (OpR.or op_le op_le_str) (OpR.or op_lt op_lt_str) ha hb hc hm) fun σ H Q h => chain_step (op := .LtE) (op' := .Lt) (ord_ok fun _ _ _ => rfl) (ord_ok fun _ _ _ => rfl) σ H _ (dBool_step h)
/-- any value's truth: a list, a text, a number -/
def truW (a : W) (st : Store) : Res Bool := match a with
  | .non => .ok false st
  | .bl b => .ok b st
  | .int i => .ok (i != 0) st
  | .str y => if y.length ≤ sizeLine then .ok ((y.length : Int) != 0) st else .stuck
  | _ => .stuck
def dTru (m : D W) : D Bool := fun env st => (m env st).bind fun a st1 => truW a st1
theorem it_tru {e : Expr} {m : D W} (he : IE X ex Wx e m) (hw : ∀ whole, isTrue e X.env whole = (do let v ← whole; standAt e.pos; holding [v] (truthy v)) := by intro _; rfl) : IT X ex Wx e (dTru m) :=
  PT.of (pt_truth he hw) fun σ H Q ⟨ρ, env, st, s, e, p⟩ => RG.bind s e p fun ρ1 H1 st1 a x g1 s1 e1 ra p1 => by
    unfold truW at p1
    split at p1
    · rw [non_of ra]; exact ⟨false, rfl, p1.ok_ s1 rfl⟩
    · rw [bl_of ra]; exact ⟨_, rfl, p1.ok_ s1 rfl⟩
    · rw [int_of ra]; exact ⟨_, rfl, p1.ok_ s1 rfl⟩
    · split at p1
      · rename_i hz
        rw [str_of ra]; exact ⟨_, ⟨hz, rfl⟩, p1.ok_ s1 rfl⟩
      · exact p1.elim
    · exact p1.elim
/-! ### is None -/
def isNW (a b : W) (st : Store) : Res W := match b with
  | .non => match a with
    | .non => .ok (.bl true) st
    | .gl _ => .stuck
    | _ => .ok (.bl false) st
  | _ => .stuck
def isNotNW (a b : W) (st : Store) : Res W := match b with
  | .non => match a with
    | .non => .ok (.bl false) st
    | .gl _ => .stuck
    | _ => .ok (.bl true) st
  | _ => .stuck
theorem notNon {ρ : List Addr} {H : Hp} {a : W} {x : V} (r : VR X.K ρ H a x) (h : a ≠ .non) (h2 : ∀ u, a ≠ .gl u) : x ≠ .non := by
  cases a with
  | non => exact absurd rfl h
  | gl u => exact absurd rfl (h2 u)
  | bl b => rw [bl_of r]; intro z; cases z
  | int b => rw [int_of r]; intro z; cases z
  | str b => rw [str_of r]; intro z; cases z
  | tup b => obtain ⟨_, _, rfl, _⟩ := tup_of r; intro z; cases z
  | fro b => obtain ⟨_, _, rfl, _⟩ := fro_of r; intro z; cases z
  | loc n => simp only [VR] at r; obtain ⟨_, _, rfl⟩ := r; intro z; cases z
  | rng i j => simp only [VR] at r; obtain ⟨_, rfl, _⟩ := r; intro z; cases z
theorem isN_ok : OpOk X (fun x y H Q => y = .non ∧ Q (.bl (decide (x = .non))) H) isNW := fun Wx ρ H st σ a b x y Q s ra rb p => by
  cases b with
  | non =>
    refine ⟨non_of rb, ?_⟩
    by_cases h : a = .non
    · subst h
      rw [non_of ra]
      exact post_bl s p
    · by_cases h2 : ∃ u, a = .gl u
      · obtain ⟨u, rfl⟩ := h2; exact p.elim
      · rw [decide_eq_false (notNon ra h fun u e => h2 ⟨u, e⟩)]
        cases a with
        | non => exact absurd rfl h
        | gl u => exact p.elim
        | _ => exact post_bl s p
  | _ => exact p.elim
theorem isNotN_ok : OpOk X (fun x y H Q => y = .non ∧ Q (.bl (!decide (x = .non))) H) isNotNW := fun Wx ρ H st σ a b x y Q s ra rb p => by
  cases b with
  | non =>
    refine ⟨non_of rb, ?_⟩
    by_cases h : a = .non
    · subst h
      rw [non_of ra]
      exact post_bl s p
    · by_cases h2 : ∃ u, a = .gl u
      · obtain ⟨u, rfl⟩ := h2; exact p.elim
      · rw [decide_eq_false (notNon ra h fun u e => h2 ⟨u, e⟩)]
        cases a with
        | non => exact absurd rfl h
        | gl u => exact p.elim
        | _ => exact post_bl s p
  | _ => exact p.elim
theorem ie_isN {a : Expr} {b : Expr} {ma mb : D W} (ha : IE X ex Wx a ma) (hb : IE X ex Wx b mb) : IE X ex Wx (.Compare a [.Is] [b] pos) (dOp isNW ma mb) := ie_cmp op_isN isN_ok ha hb (nomark _)
theorem ie_isNotN {a : Expr} {b : Expr} {ma mb : D W} (ha : IE X ex Wx a ma) (hb : IE X ex Wx b mb) : IE X ex Wx (.Compare a [.IsNot] [b] pos) (dOp isNotNW ma mb) := ie_cmp op_notN isNotN_ok ha hb (nomark _)
theorem it_isN {a : Expr} {b : Expr} {ma mb : D W} (ha : IE X ex Wx a ma) (hb : IE X ex Wx b mb) : IT X ex Wx (.Compare a [.Is] [b] pos) (dBool (dOp isNW ma mb)) := it_cmp op_isN isN_ok ha hb (nomark _)
theorem it_isNotN {a : Expr} {b : Expr} {ma mb : D W} (ha : IE X ex Wx a ma) (hb : IE X ex Wx b mb) : IT X ex Wx (.Compare a [.IsNot] [b] pos) (dBool (dOp isNotNW ma mb)) := it_cmp op_notN isNotN_ok ha hb (nomark _)
/-! ### sequences -/
def seqW (st : Store) : W → Option (List W)
  | .tup ws => some ws
  | .fro ws => some ws
  | .loc n => match st[n]? with
    | some (.lst ws) => some ws
    | none => none
  | _ => none
def lstW (st : Store) : W → Option (List W)
  | .fro ws => some ws
  | .loc n => match st[n]? with
    | some (.lst ws) => some ws
    | none => none
  | _ => none
theorem lstW_of {ρ : List Addr} {H : Hp} {st : Store} {a : W} {x : V} {ws : List W} (s : StR X.K ρ H st) (r : VR X.K ρ H a x) (h : lstW st a = some ws) : ∃ q us, x = .ref q ∧ SqL X.K H q us ∧ VRs X.K ρ H ws us := by
  unfold lstW at h
  split at h
  · cases h
    obtain ⟨q, us, rfl, hq, rs⟩ := fro_of r
    exact ⟨q, us, rfl, hq.sq, rs⟩
  · split at h
    · rename_i hk
      cases h
      obtain ⟨q, us, _, rfl, hu, rs⟩ := loc_lst s r hk
      exact ⟨q, us, rfl, .of hu, rs⟩
    · cases h
  · cases h
theorem seqW_of {ρ : List Addr} {H : Hp} {st : Store} {a : W} {x : V} {ws : List W} (s : StR X.K ρ H st) (r : VR X.K ρ H a x) (h : seqW st a = some ws) : ∃ q us, x = .ref q ∧ (SqL X.K H q us ∨ SqT X.K H q us) ∧ VRs X.K ρ H ws us := by
  cases a with
  | tup l =>
    cases h
    obtain ⟨q, us, rfl, hq, rs⟩ := tup_of r
    exact ⟨q, us, rfl, .inr hq.sq, rs⟩
  | fro l =>
    obtain ⟨q, us, e, hq, rs⟩ := lstW_of s r (ws := ws) h
    exact ⟨q, us, e, .inl hq, rs⟩
  | loc n =>
    obtain ⟨q, us, e, hq, rs⟩ := lstW_of s r (ws := ws) h
    exact ⟨q, us, e, .inl hq, rs⟩
  | _ => cases h
/-! ### in, not in -/
def flV : W → Option V
  | .non => some .non
  | .bl b => some (.bl b)
  | .int i => some (.int i)
  | .str x => some (.str x)
  | _ => none
theorem flV_of {ρ : List Addr} {H : Hp} {a : W} {x v : V} (r : VR X.K ρ H a x) (h : flV a = some v) : x = v ∧ flatV x = true := by
  cases a with
  | non => cases h; rw [non_of r]; exact ⟨rfl, rfl⟩
  | bl b => cases h; rw [bl_of r]; exact ⟨rfl, rfl⟩
  | int b => cases h; rw [int_of r]; exact ⟨rfl, rfl⟩
  | str b => cases h; rw [str_of r]; exact ⟨rfl, rfl⟩
  | _ => cases h
theorem allO_map {α β : Type} {f : α → Option β} : ∀ {l : List α} {r : List β}, allO (l.map f) = some r → ∀ {P : β → Prop}, (∀ a b, a ∈ l → f a = some b → P b) → ∀ b ∈ r, P b
  | [], r, h, P, _, b, hb => by simp only [List.map_nil, allO, Option.some.injEq] at h; subst h; cases hb
  | a :: l, r, h, P, hp, b, hb => by
    simp only [List.map_cons] at h
    cases hf : f a with
    | none => rw [hf] at h; simp [allO] at h
    | some c =>
      rw [hf] at h
      simp only [allO] at h
      cases ha : allO (l.map f) with
      | none => rw [ha] at h; cases h
      | some r' =>
        rw [ha] at h; cases h
        rcases List.mem_cons.mp hb with e | hb
        · rw [e]; exact hp a c List.mem_cons_self hf
        · exact allO_map ha (fun a b m => hp a b (List.mem_cons_of_mem _ m)) b hb
theorem flVs_of {ρ : List Addr} {H : Hp} : ∀ {ws : List W} {us vs : List V}, VRs X.K ρ H ws us → allO (ws.map flV) = some vs → us = vs ∧ us.all flatV = true
  | [], us, vs, r, h => by
    simp only [VRs] at r
    simp only [List.map_nil, allO, Option.some.injEq] at h
    subst r; subst h; exact ⟨rfl, rfl⟩
  | w :: ws, us, vs, r, h => by
    simp only [VRs] at r
    obtain ⟨u, us', rfl, rw, rs⟩ := r
    simp only [List.map_cons] at h
    cases hf : flV w with
    | none => rw [hf] at h; simp [allO] at h
    | some v =>
      rw [hf] at h
      simp only [allO] at h
      cases ha : allO (ws.map flV) with
      | none => rw [ha] at h; cases h
      | some r' =>
        rw [ha] at h; cases h
        obtain ⟨e1, f1⟩ := flV_of rw hf
        obtain ⟨e2, f2⟩ := flVs_of rs ha
        exact ⟨by rw [e1, e2], by simp [f1, f2]⟩
def oneSign (x : Str) : Option Nat := if x.cps.size = 1 then x.cps[0]? else none
theorem oneSign_of {x : Str} {c : Nat} (h : oneSign x = some c) : x = ⟨#[c]⟩ := by
  unfold oneSign at h
  split at h
  · rename_i hs
    obtain ⟨cps⟩ := x
    obtain ⟨l⟩ := cps
    match l, hs, h with
    | [d], _, h => simp at h; subst h; rfl
  · cases h
def inB (a b : W) (st : Store) : Option Bool := match b with
  | .str z => match a with
    | .str x => (oneSign x).map fun c => decide (c ∈ z.cps.toList)
    | _ => none
  | b => match seqW st b with
    | some ws => match flV a, allO (ws.map flV) with
      | some v, some vs => some (inV v vs)
      | _, _ => none
    | none => none
def inW (neg : Bool) (a b : W) (st : Store) : Res W := match inB a b st with
  | some k => .ok (.bl (if neg then !k else k)) st
  | none => .stuck
def rInS (neg : Bool) : R2 := fun x y H Q => ∃ (c : Nat) (z : Str), x = .str ⟨#[c]⟩ ∧ y = .str z ∧ Q (.bl (if neg then !decide (c ∈ z.cps.toList) else decide (c ∈ z.cps.toList))) H
theorem in_ok (neg : Bool) : OpOk X (fun x y H Q => rInS neg x y H Q ∨ rIn X.K neg x y H Q) (inW neg) := fun Wx ρ H st σ a b x y Q s ra rb p => by
  unfold inW at p
  cases hk : inB a b st with
  | none => rw [hk] at p; exact p.elim
  | some k =>
    rw [hk] at p
    have q := post_bl s p
    have seqc : (∃ ws v vs, seqW st b = some ws ∧ flV a = some v ∧ allO (ws.map flV) = some vs ∧ k = inV v vs) → rIn X.K neg x y H Q := fun ⟨ws, v, vs, hs, hv, hvs, e⟩ => by
      subst e
      obtain ⟨q1, us, rfl, hq, rs⟩ := seqW_of s rb hs
      obtain ⟨e1, f1⟩ := flV_of ra hv
      obtain ⟨e2, f2⟩ := flVs_of rs hvs
      refine ⟨q1, us, rfl, hq, f1, f2, ?_⟩
      rw [e1, e2]; exact q
    unfold inB at hk
    split at hk
    · rename_i z
      split at hk
      · rename_i x1
        cases ho : oneSign x1 with
        | none => rw [ho] at hk; cases hk
        | some c =>
          rw [ho] at hk
          cases hk
          exact .inl ⟨c, z, by rw [str_of ra, oneSign_of ho], str_of rb, q⟩
      · cases hk
    · split at hk
      · rename_i ws hs
        split at hk
        · rename_i v vs hv hvs
          cases hk
          exact .inr (seqc ⟨ws, v, vs, hs, hv, hvs, rfl⟩)
        · cases hk
      · cases hk
theorem opr_in : OpR X (compareOp .In) (fun x y H Q => rInS false x y H Q ∨ rIn X.K false x y H Q) := OpR.or op_in_sign op_in_seq
theorem opr_notIn : OpR X (compareOp .NotIn) (fun x y H Q => rInS true x y H Q ∨ rIn X.K true x y H Q) := OpR.or op_notIn_sign op_notIn_seq
theorem ie_in {a b : Expr} {ma mb : D W} (ha : IE X ex Wx a ma) (hb : IE X ex Wx b mb) (hm : behindInMarks .In b = false := by with_unfolding_all rfl) : IE X ex Wx (.Compare a [.In] [b] pos) (dOp (inW false) ma mb) := ie_cmp opr_in (in_ok false) ha hb hm
theorem ie_notIn {a b : Expr} {ma mb : D W} (ha : IE X ex Wx a ma) (hb : IE X ex Wx b mb) (hm : behindInMarks .NotIn b = false := by with_unfolding_all rfl) : IE X ex Wx (.Compare a [.NotIn] [b] pos) (dOp (inW true) ma mb) := ie_cmp opr_notIn (in_ok true) ha hb hm
theorem it_in {a b : Expr} {ma mb : D W} (ha : IE X ex Wx a ma) (hb : IE X ex Wx b mb) (hm : behindInMarks .In b = false := by with_unfolding_all rfl) : IT X ex Wx (.Compare a [.In] [b] pos) (dBool (dOp (inW false) ma mb)) := it_cmp opr_in (in_ok false) ha hb hm
theorem it_notIn {a b : Expr} {ma mb : D W} (ha : IE X ex Wx a ma) (hb : IE X ex Wx b mb) (hm : behindInMarks .NotIn b = false := by with_unfolding_all rfl) : IT X ex Wx (.Compare a [.NotIn] [b] pos) (dBool (dOp (inW true) ma mb)) := it_cmp opr_notIn (in_ok true) ha hb hm
/-! ### a[i], a[i:j] -/
def ixW (a b : W) (st : Store) : Res W := match b with
  | .int i => match a with
    | .str z => if z.length ≤ sizeLine then match atI z.cps.toList i with
        | some c => .ok (.str ⟨#[c]⟩) st
        | none => .stuck
      else .stuck
    | a => match seqW st a with
      | some ws => match atI ws i with
        | some w => .ok w st
        | none => .stuck
      | none => .stuck
  | _ => .stuck
theorem VRs.at {K : PySem.W.Frag} {ρ : List Addr} {H : Hp} {ws : List W} {us : List V} {i : Int} {w : W} (r : VRs K ρ H ws us) (h : atI ws i = some w) : ∃ v, atI us i = some v ∧ VR K ρ H w v := by
  unfold atI at h ⊢
  rw [← VRs.length r]
  cases hj : ixN ws.length i with
  | none => rw [hj] at h; cases h
  | some j =>
    rw [hj] at h
    obtain ⟨v, h1, h2⟩ := r.get (i := j) h
    exact ⟨v, h1, h2⟩
theorem ix_ok : OpOk X (rIx X.K) ixW := fun Wx ρ H st σ a b x y Q s ra rb p => by
  unfold ixW at p
  split at p
  · rw [int_of rb]
    split at p
    · rename_i z
      split at p
      · rename_i hz
        split at p
        · rename_i c hc
          exact .inr (.inr ⟨z, _, c, str_of ra, rfl, hz, hc, post_str s p⟩)
        · exact p.elim
      · exact p.elim
    · split at p
      · rename_i ws hs
        split at p
        · rename_i w hw
          obtain ⟨q, us, rfl, hq, rs⟩ := seqW_of s ra hs
          obtain ⟨v, h1, h2⟩ := rs.at hw
          have := p.ok_ s h2
          rcases hq with hq | hq
          · exact .inl ⟨q, us, _, v, rfl, rfl, hq, h1, this⟩
          · exact .inr (.inl ⟨q, us, _, v, rfl, rfl, hq, h1, this⟩)
        · exact p.elim
      · exact p.elim
  · exact p.elim
theorem ie_ix {a b : Expr} {ma mb : D W} (ha : IE X ex Wx a ma) (hb : IE X ex Wx b mb) (hs : PlainIx b := by intro _ _; rfl) : IE X ex Wx (.Subscript a b pos) (dOp ixW ma mb) :=
  PE.of (pe_ix ix_seq ha hb hs) fun σ H Q ⟨ρ, env, st, s, e, p⟩ => RG.bind s e p fun ρ1 H1 st1 a x g1 s1 e1 ra p1 => RG.bind s1 e1 p1 fun ρ2 H2 st2 b y g2 s2 e2 rb p2 =>
    ix_ok Wx ρ2 H2 st2 σ a b x y Q s2 (VR.grow s1.apart g2 a x ra) rb p2
def cutW (ws : List W) (lo hi : Option Int) : List W := (ws.drop (HT.sIx ws.length 0 lo)).take (HT.sIx ws.length ws.length hi - HT.sIx ws.length 0 lo)
def slW (a : W) (lo hi : Option Int) (st : Store) : Res W := match a with
  | .str z => if z.length ≤ sizeLine then .ok (.str (cutS z lo hi)) st else .stuck
  | .tup ws => .ok (.tup (cutW ws lo hi)) st
  | a => match lstW st a with
    | some ws => .ok (.loc st.length) (st ++ [.lst (cutW ws lo hi)])
    | none => .stuck
def dNoPart : D (Option Int) := fun _ st => .ok none st
def dPart (m : D W) : D (Option Int) := fun env st => (m env st).bind fun a st1 => match a with
  | .int i => .ok (some i) st1
  | _ => .stuck
def dSl (m : D W) (lo hi : D (Option Int)) : D W := fun env st => (m env st).bind fun a st1 => (lo env st1).bind fun l st2 => (hi env st2).bind fun h st3 => slW a l h st3
abbrev IO (X : Cx) (ex : Option Exn) (Wx : WX) (e : Option Expr) (m : D (Option Int)) : Prop := PO X e (RG X ex Wx relE m)
theorem PO.of {e : Option Expr} {t t' : TO} (h : PO X e t) (w : ∀ σ H Q, t' σ H Q → t σ H Q) : PO X e t' := ⟨fun pins s σ H Q I q => h.run pins s σ H Q I (w _ _ _ q)⟩
theorem io_none : IO X ex Wx none dNoPart := PO.of po_none fun σ H Q ⟨ρ, env, st, s, e, p⟩ => Post.ok_ p s rfl
theorem io_some {e : Expr} {m : D W} (he : IE X ex Wx e m) : IO X ex Wx (some e) (dPart m) := PO.of (po_some he) fun σ H Q ⟨ρ, env, st, s, e, p⟩ => RG.bind s e p fun ρ1 H1 st1 a x g1 s1 e1 ra p1 => by
  split at p1
  · exact ⟨_, int_of ra, p1.ok_ s1 rfl⟩
  · exact p1.elim
theorem cutV_whole {us : List V} {lo hi : Option Int} (h : HT.sIx us.length 0 lo = 0 ∧ HT.sIx us.length us.length hi = us.length) : cutV us lo hi = us := by
  unfold cutV
  rw [h.1, h.2]; simp
theorem VRs.cut {K : PySem.W.Frag} {ρ : List Addr} {H : Hp} {ws : List W} {us : List V} (r : VRs K ρ H ws us) (lo hi : Option Int) : VRs K ρ H (cutW ws lo hi) (cutV us lo hi) := by
  unfold cutW cutV
  rw [← VRs.length r]
  exact (r.drop _).take _
theorem sl_ok {Wx : WX} {ρ : List Addr} {H : Hp} {st : Store} {σ : L2.St} {a : W} {x : V} {lo hi : Option Int} {Q : VK} (s : StR X.K ρ H st) (ra : VR X.K ρ H a x) (p : Post X.K X.mg Wx (relV X.K) ρ H σ (slW a lo hi st) Q) :
    rSlA X.K x lo hi H Q ∨ (rSlL X.K x lo hi H Q ∨ rSlS x lo hi H Q) := by
  unfold slW at p
  split at p
  · split at p
    · rename_i hz
      exact .inr (.inr ⟨_, str_of ra, hz, post_str s p⟩)
    · exact p.elim
  · obtain ⟨q, us, rfl, hq, rs⟩ := tup_of ra
    refine .inl ⟨q, us, rfl, hq.sq, fun hw => ?_, fun _ => post_tup s (rs.cut lo hi) p⟩
    refine p.ok_ s ?_
    have rc := rs.cut lo hi
    rw [cutV_whole hw] at rc
    simp only [relV, VR]
    exact ⟨q, us, rfl, hq, rc⟩
  · split at p
    · rename_i ws hs
      obtain ⟨q, us, rfl, hq, rs⟩ := lstW_of s ra hs
      exact .inr (.inl ⟨q, us, rfl, hq, post_lst s (rs.cut lo hi) p⟩)
    · exact p.elim
theorem ie_slice {e : Expr} {lo hi : Option Expr} {m : D W} {ml mh : D (Option Int)} {p2 : Pos} (he : IE X ex Wx e m) (hl : IO X ex Wx lo ml) (hh : IO X ex Wx hi mh) : IE X ex Wx (.Subscript e (.Slice lo hi none p2) pos) (dSl m ml mh) :=
  PE.of (pe_slice (SlR.or sl_tupA (SlR.or sl_list sl_str)) he hl hh) fun σ H Q ⟨ρ, env, st, s, e, p⟩ => RG.bind s e p fun ρ1 H1 st1 a x g1 s1 e1 ra p1 => RG.bind (relA := relE) s1 e1 p1 fun ρ2 H2 st2 l l' g2 s2 e2 rl p2 =>
    RG.bind (relA := relE) s2 e2 p2 fun ρ3 H3 st3 h h' g3 s3 e3 rh p3 => by
      have rl' : l = l' := rl
      have rh' : h = h' := rh
      subst rl'; subst rh'
      exact sl_ok s3 (VR.grow s2.apart g3 a x (VR.grow s1.apart g2 a x ra)) p3
end
end
end MP
namespace MP
open PySem PySem.Spec PyProof.Rows L2
open Classical
noncomputable section
section
variable {X : Cx} {ex : Option Exn} {Wx : WX} {pos p : Pos} {k : Nat} {f : Addr} {fd : FuncData} {ps : List Str} {n : Nat} {den : List W → Store → Res W} {x : Str} {e : Expr} {es : List Expr}
theorem vrs1 {K : PySem.W.Frag} {ρ : List Addr} {H : Hp} {a : W} {vs : List V} (r : VRs K ρ H [a] vs) : ∃ x, vs = [x] ∧ VR K ρ H a x := by
  simp only [VRs] at r
  obtain ⟨u, _, rfl, r, rfl⟩ := r
  exact ⟨u, rfl, r⟩
theorem vrs2 {K : PySem.W.Frag} {ρ : List Addr} {H : Hp} {a b : W} {vs : List V} (r : VRs K ρ H [a, b] vs) : ∃ x y, vs = [x, y] ∧ VR K ρ H a x ∧ VR K ρ H b y := by
  simp only [VRs] at r
  obtain ⟨u, _, rfl, r, v, _, rfl, r2, rfl⟩ := r
  exact ⟨u, v, rfl, r, r2⟩
/-! ### len, int, abs, max, min, all, any, sum, list, tuple, divmod -/
def lenW (l : List W) (st : Store) : Res W := match l with
  | [.str z] => if z.length ≤ sizeLine then .ok (.int z.length) st else .stuck
  | [a] => match seqW st a with
    | some ws => .ok (.int ws.length) st
    | none => .stuck
  | _ => .stuck
theorem len_ok : CallOk X (fun xs H Q => ∃ x n, xs = [x] ∧ LenV X.K x H n ∧ Q (.int n) H) lenW := fun Wx ρ H st σ l vs Q s r p => by
  unfold lenW at p
  split at p
  · rename_i z
    obtain ⟨x, rfl, ra⟩ := vrs1 r
    split at p
    · rename_i hz
      rw [str_of ra]
      exact ⟨_, _, rfl, ⟨hz, rfl⟩, post_int s p⟩
    · exact p.elim
  · rename_i a _
    obtain ⟨x, rfl, ra⟩ := vrs1 r
    split at p
    · rename_i ws hs
      obtain ⟨q, us, rfl, hq, rs⟩ := seqW_of s ra hs
      refine ⟨_, ws.length, rfl, ?_, post_int s p⟩
      rcases hq with hq | hq
      · exact .inl ⟨us, hq, VRs.length rs⟩
      · exact .inr ⟨us, hq, VRs.length rs⟩
    · exact p.elim
  · exact p.elim
theorem ie_len {m : D (List W)} (hg : Gl X "len") (hm : X.mg "len" = none) (ha : IA X ex Wx (e :: es) m) (he : starEach (e :: es) X.env = (false, eval e X.env) :: starEach es X.env := by rfl) (hpl : (backTo pos (starEach es X.env)).any (·.1) = false := by rfl) :
    IE X ex Wx (.Call (.Name "len" p) (e :: es) [] pos) (dApp lenW m) := ie_callB call_len len_ok hg hm PySem.boot_len ha (by decide) (by decide) he hpl
def intOfW (l : List W) (st : Store) : Res W := match l with
  | [.int i] => .ok (.int i) st
  | [.bl b] => .ok (.int (if b then 1 else 0)) st
  | _ => .stuck
theorem intOf_ok : CallOk X (fun xs H Q => (∃ i, xs = [.int i] ∧ Q (.int i) H) ∨ ∃ k, xs = [.bl k] ∧ Q (.int (if k then 1 else 0)) H) intOfW := fun Wx ρ H st σ l vs Q s r p => by
  unfold intOfW at p
  split at p
  · obtain ⟨x, rfl, ra⟩ := vrs1 r; rw [int_of ra]; exact .inl ⟨_, rfl, post_int s p⟩
  · obtain ⟨x, rfl, ra⟩ := vrs1 r; rw [bl_of ra]; exact .inr ⟨_, rfl, post_int s p⟩
  · exact p.elim
theorem ie_intOf {m : D (List W)} (hg : Gl X "int") (hm : X.mg "int" = none) (ha : IA X ex Wx (e :: es) m) (he : starEach (e :: es) X.env = (false, eval e X.env) :: starEach es X.env := by rfl) (hpl : (backTo pos (starEach es X.env)).any (·.1) = false := by rfl) :
    IE X ex Wx (.Call (.Name "int" p) (e :: es) [] pos) (dApp intOfW m) := ie_callTy call_int1 intOf_ok hg hm (by decide +kernel) ha (by decide) (by decide) he hpl
def absW (l : List W) (st : Store) : Res W := match l with
  | [.int i] => .ok (.int (if i < 0 then -i else i)) st
  | _ => .stuck
theorem abs_ok : CallOk X (fun xs H Q => ∃ i, xs = [.int i] ∧ Q (.int (if i < 0 then -i else i)) H) absW := fun Wx ρ H st σ l vs Q s r p => by
  unfold absW at p
  split at p
  · obtain ⟨x, rfl, ra⟩ := vrs1 r; rw [int_of ra]; exact ⟨_, rfl, post_int s p⟩
  · exact p.elim
theorem ie_abs {m : D (List W)} (hg : Gl X "abs") (hm : X.mg "abs" = none) (ha : IA X ex Wx (e :: es) m) (he : starEach (e :: es) X.env = (false, eval e X.env) :: starEach es X.env := by rfl) (hpl : (backTo pos (starEach es X.env)).any (·.1) = false := by rfl) :
    IE X ex Wx (.Call (.Name "abs" p) (e :: es) [] pos) (dApp absW m) := ie_callB call_abs abs_ok hg hm (by decide +kernel) ha (by decide) (by decide) he hpl
def maxW (l : List W) (st : Store) : Res W := match l with
  | [.int i, .int j] => .ok (.int (if j > i then j else i)) st
  | _ => .stuck
def minW (l : List W) (st : Store) : Res W := match l with
  | [.int i, .int j] => .ok (.int (if j < i then j else i)) st
  | _ => .stuck
theorem max_ok : CallOk X (fun xs H Q => ∃ i j, xs = [.int i, .int j] ∧ Q (.int (if j > i then j else i)) H) maxW := fun Wx ρ H st σ l vs Q s r p => by
  unfold maxW at p
  split at p
  · obtain ⟨x, y, rfl, ra, rb⟩ := vrs2 r; rw [int_of ra, int_of rb]; exact ⟨_, _, rfl, post_int s p⟩
  · exact p.elim
theorem min_ok : CallOk X (fun xs H Q => ∃ i j, xs = [.int i, .int j] ∧ Q (.int (if j < i then j else i)) H) minW := fun Wx ρ H st σ l vs Q s r p => by
  unfold minW at p
  split at p
  · obtain ⟨x, y, rfl, ra, rb⟩ := vrs2 r; rw [int_of ra, int_of rb]; exact ⟨_, _, rfl, post_int s p⟩
  · exact p.elim
theorem ie_max {m : D (List W)} (hc : X.calm = true) (hg : Gl X "max") (hm : X.mg "max" = none) (ha : IA X ex Wx (e :: es) m) (he : starEach (e :: es) X.env = (false, eval e X.env) :: starEach es X.env := by rfl) (hpl : (backTo pos (starEach es X.env)).any (·.1) = false := by rfl) :
    IE X ex Wx (.Call (.Name "max" p) (e :: es) [] pos) (dApp maxW m) := ie_callB (call_max2 hc) max_ok hg hm (by decide +kernel) ha (by decide) (by decide) he hpl
theorem ie_min {m : D (List W)} (hc : X.calm = true) (hg : Gl X "min") (hm : X.mg "min" = none) (ha : IA X ex Wx (e :: es) m) (he : starEach (e :: es) X.env = (false, eval e X.env) :: starEach es X.env := by rfl) (hpl : (backTo pos (starEach es X.env)).any (·.1) = false := by rfl) :
    IE X ex Wx (.Call (.Name "min" p) (e :: es) [] pos) (dApp minW m) := ie_callB (call_min2 hc) min_ok hg hm (by decide +kernel) ha (by decide) (by decide) he hpl
def blOf : W → Option Bool
  | .bl b => some b
  | _ => none
def inOf : W → Option Int
  | .int i => some i
  | _ => none
def stOf : W → Option Str
  | .str i => some i
  | _ => none
theorem VRs.maps {K : PySem.W.Frag} {ρ : List Addr} {H : Hp} {α : Type} {g : W → Option α} {c : α → V} (hg : ∀ w v a, VR K ρ H w v → g w = some a → v = c a) : ∀ {ws : List W} {us : List V} {l : List α}, VRs K ρ H ws us → allO (ws.map g) = some l → us = l.map c
  | [], us, l, r, h => by
    simp only [VRs] at r
    simp only [List.map_nil, allO, Option.some.injEq] at h
    subst r; subst h; rfl
  | w :: ws, us, l, r, h => by
    simp only [VRs] at r
    obtain ⟨u, us', rfl, rw, rs⟩ := r
    simp only [List.map_cons] at h
    cases hf : g w with
    | none => rw [hf] at h; simp [allO] at h
    | some a =>
      rw [hf] at h
      simp only [allO] at h
      cases ha : allO (ws.map g) with
      | none => rw [ha] at h; cases h
      | some r' =>
        rw [ha] at h; cases h
        rw [hg w u a rw hf, VRs.maps hg rs ha]; rfl
theorem blOf_of {ρ : List Addr} {H : Hp} (w : W) (v : V) (b : Bool) (r : VR X.K ρ H w v) (h : blOf w = some b) : v = .bl b := by
  cases w with
  | bl c => cases h; exact bl_of r
  | _ => cases h
theorem inOf_of {ρ : List Addr} {H : Hp} (w : W) (v : V) (b : Int) (r : VR X.K ρ H w v) (h : inOf w = some b) : v = .int b := by
  cases w with
  | int c => cases h; exact int_of r
  | _ => cases h
theorem stOf_of {ρ : List Addr} {H : Hp} (w : W) (v : V) (b : Str) (r : VR X.K ρ H w v) (h : stOf w = some b) : v = .str b := by
  cases w with
  | str c => cases h; exact str_of r
  | _ => cases h
def bls (st : Store) (a : W) : Option (List Bool) := (lstW st a).bind fun ws => allO (ws.map blOf)
def nums (st : Store) (a : W) : Option (List Int) := (lstW st a).bind fun ws => allO (ws.map inOf)
def allW (l : List W) (st : Store) : Res W := match l with
  | [a] => match bls st a with
    | some bs => .ok (.bl (bs.all id)) st
    | none => .stuck
  | _ => .stuck
def anyW (l : List W) (st : Store) : Res W := match l with
  | [a] => match bls st a with
    | some bs => .ok (.bl (bs.any id)) st
    | none => .stuck
  | _ => .stuck
def sumW (l : List W) (st : Store) : Res W := match l with
  | [a] => match nums st a with
    | some bs => .ok (.int bs.sum) st
    | none => .stuck
  | _ => .stuck
theorem bls_of {ρ : List Addr} {H : Hp} {st : Store} {a : W} {x : V} {bs : List Bool} (s : StR X.K ρ H st) (r : VR X.K ρ H a x) (h : bls st a = some bs) : ∃ q, x = .ref q ∧ SqL X.K H q (bs.map V.bl) := by
  unfold bls at h
  cases hl : lstW st a with
  | none => rw [hl] at h; cases h
  | some ws =>
    rw [hl] at h
    obtain ⟨q, us, rfl, hq, rs⟩ := lstW_of s r hl
    exact ⟨q, rfl, by rw [← VRs.maps blOf_of rs (show allO (ws.map blOf) = some bs from h)]; exact hq⟩
theorem nums_of {ρ : List Addr} {H : Hp} {st : Store} {a : W} {x : V} {bs : List Int} (s : StR X.K ρ H st) (r : VR X.K ρ H a x) (h : nums st a = some bs) : ∃ q, x = .ref q ∧ SqL X.K H q (bs.map V.int) := by
  unfold nums at h
  cases hl : lstW st a with
  | none => rw [hl] at h; cases h
  | some ws =>
    rw [hl] at h
    obtain ⟨q, us, rfl, hq, rs⟩ := lstW_of s r hl
    exact ⟨q, rfl, by rw [← VRs.maps inOf_of rs (show allO (ws.map inOf) = some bs from h)]; exact hq⟩
theorem all_ok : CallOk X (rAll X.K) allW := fun Wx ρ H st σ l vs Q s r q => by
  unfold allW at q
  split at q
  · obtain ⟨x, rfl, ra⟩ := vrs1 r
    split at q
    · rename_i bs hb
      obtain ⟨a, rfl, h⟩ := bls_of s ra hb
      exact ⟨a, bs, rfl, h, post_bl s q⟩
    · exact q.elim
  · exact q.elim
theorem any_ok : CallOk X (rAny X.K) anyW := fun Wx ρ H st σ l vs Q s r q => by
  unfold anyW at q
  split at q
  · obtain ⟨x, rfl, ra⟩ := vrs1 r
    split at q
    · rename_i bs hb
      obtain ⟨a, rfl, h⟩ := bls_of s ra hb
      exact ⟨a, bs, rfl, h, post_bl s q⟩
    · exact q.elim
  · exact q.elim
theorem sum_ok : CallOk X (rSum X.K) sumW := fun Wx ρ H st σ l vs Q s r q => by
  unfold sumW at q
  split at q
  · obtain ⟨x, rfl, ra⟩ := vrs1 r
    split at q
    · rename_i bs hb
      obtain ⟨a, rfl, h⟩ := nums_of s ra hb
      exact ⟨a, bs, rfl, h, post_int s q⟩
    · exact q.elim
  · exact q.elim
theorem ie_all {m : D (List W)} (hc : X.calm = true) (hg : Gl X "all") (hm : X.mg "all" = none) (ha : IA X ex Wx (e :: es) m) (he : starEach (e :: es) X.env = (false, eval e X.env) :: starEach es X.env := by rfl) (hpl : (backTo pos (starEach es X.env)).any (·.1) = false := by rfl) :
    IE X ex Wx (.Call (.Name "all" p) (e :: es) [] pos) (dApp allW m) := ie_callB (cr_all hc) all_ok hg hm (by decide +kernel) ha (by decide) (by decide) he hpl
theorem ie_any {m : D (List W)} (hc : X.calm = true) (hg : Gl X "any") (hm : X.mg "any" = none) (ha : IA X ex Wx (e :: es) m) (he : starEach (e :: es) X.env = (false, eval e X.env) :: starEach es X.env := by rfl) (hpl : (backTo pos (starEach es X.env)).any (·.1) = false := by rfl) :
    IE X ex Wx (.Call (.Name "any" p) (e :: es) [] pos) (dApp anyW m) := ie_callB (cr_any hc) any_ok hg hm (by decide +kernel) ha (by decide) (by decide) he hpl
theorem ie_sum {m : D (List W)} (hc : X.calm = true) (hg : Gl X "sum") (hm : X.mg "sum" = none) (ha : IA X ex Wx (e :: es) m) (he : starEach (e :: es) X.env = (false, eval e X.env) :: starEach es X.env := by rfl) (hpl : (backTo pos (starEach es X.env)).any (·.1) = false := by rfl) :
    IE X ex Wx (.Call (.Name "sum" p) (e :: es) [] pos) (dApp sumW m) := ie_callB (cr_sum hc) sum_ok hg hm (by decide +kernel) ha (by decide) (by decide) he hpl
def listW (l : List W) (st : Store) : Res W := match l with
  | [a] => match seqW st a with
    | some ws => .ok (.loc st.length) (st ++ [.lst ws])
    | none => .stuck
  | _ => .stuck
theorem list_ok : CallOk X (fun xs H Q => ∃ p ys, xs = [.ref p] ∧ (SqL X.K H p ys ∨ SqT X.K H p ys) ∧ ∀ l, H l = none → Q (.ref l) (upd H l (.lst ys))) listW := fun Wx ρ H st σ l vs Q s r q => by
  unfold listW at q
  split at q
  · obtain ⟨x, rfl, ra⟩ := vrs1 r
    split at q
    · rename_i ws hs
      obtain ⟨a, us, rfl, hq, rs⟩ := seqW_of s ra hs
      exact ⟨a, us, rfl, hq, post_lst s rs q⟩
    · exact q.elim
  · exact q.elim
theorem ie_list {m : D (List W)} (hg : Gl X "list") (hm : X.mg "list" = none) (ha : IA X ex Wx (e :: es) m) (he : starEach (e :: es) X.env = (false, eval e X.env) :: starEach es X.env := by rfl) (hpl : (backTo pos (starEach es X.env)).any (·.1) = false := by rfl) :
    IE X ex Wx (.Call (.Name "list" p) (e :: es) [] pos) (dApp listW m) := ie_callTy call_list_of list_ok hg hm (by decide +kernel) ha (by decide) (by decide) he hpl
def tupleW (l : List W) (st : Store) : Res W := match l with
  | [.tup ws] => .ok (.tup ws) st
  | [a] => match lstW st a with
    | some ws => .ok (.tup ws) st
    | none => .stuck
  | _ => .stuck
theorem tuple_ok : CallOk X (fun xs H Q => ∃ p ys, xs = [.ref p] ∧ ((SqL X.K H p ys ∧ ∀ l, H l = none → Q (.ref l) (upd H l (.tup ys))) ∨ (SqT X.K H p ys ∧ Q (.ref p) H))) tupleW := fun Wx ρ H st σ l vs Q s r q => by
  unfold tupleW at q
  split at q
  · obtain ⟨x, rfl, ra⟩ := vrs1 r
    obtain ⟨a, us, rfl, hq, rs⟩ := tup_of ra
    exact ⟨a, us, rfl, .inr ⟨hq.sq, q.ok_ s ra⟩⟩
  · obtain ⟨x, rfl, ra⟩ := vrs1 r
    split at q
    · rename_i ws hs
      obtain ⟨a, us, rfl, hq, rs⟩ := lstW_of s ra hs
      exact ⟨a, us, rfl, .inl ⟨hq, post_tup s rs q⟩⟩
    · exact q.elim
  · exact q.elim
theorem ie_tuple {m : D (List W)} (hg : Gl X "tuple") (hm : X.mg "tuple" = none) (ha : IA X ex Wx (e :: es) m) (he : starEach (e :: es) X.env = (false, eval e X.env) :: starEach es X.env := by rfl) (hpl : (backTo pos (starEach es X.env)).any (·.1) = false := by rfl) :
    IE X ex Wx (.Call (.Name "tuple" p) (e :: es) [] pos) (dApp tupleW m) := ie_callTy call_tuple_of tuple_ok hg hm (by decide +kernel) ha (by decide) (by decide) he hpl
def divmodW (l : List W) (st : Store) : Res W := match l with
  | [.int i, .int j] => if CDiv i j then .ok (.tup [.int (i / j), .int (i % j)]) st else .stuck
  | _ => .stuck
theorem divmod_ok : CallOk X (fun xs H Q => ∃ i j, xs = [.int i, .int j] ∧ CDiv i j ∧ ∀ p, H p = none → Q (.ref p) (upd H p (.tup [.int (i / j), .int (i % j)]))) divmodW := fun Wx ρ H st σ l vs Q s r q => by
  unfold divmodW at q
  split at q
  · obtain ⟨x, y, rfl, ra, rb⟩ := vrs2 r
    rw [int_of ra, int_of rb]
    split at q
    · rename_i hc
      exact ⟨_, _, rfl, hc, post_tup s (.cons' (by simp [VR]) (.one (by simp [VR]))) q⟩
    · exact q.elim
  · exact q.elim
theorem ie_divmod {m : D (List W)} (hg : Gl X "divmod") (hm : X.mg "divmod" = none) (ha : IA X ex Wx (e :: es) m) (he : starEach (e :: es) X.env = (false, eval e X.env) :: starEach es X.env := by rfl) (hpl : (backTo pos (starEach es X.env)).any (·.1) = false := by rfl) :
    IE X ex Wx (.Call (.Name "divmod" p) (e :: es) [] pos) (dApp divmodW m) := ie_callB call_divmod divmod_ok hg hm (by decide +kernel) ha (by decide) (by decide) he hpl
/-! ### isinstance -/
def tyN (st : Store) : W → Option String
  | .non => some "NoneType"
  | .bl _ => some "bool"
  | .int _ => some "int"
  | .str _ => some "str"
  | .tup _ => some "tuple"
  | .fro _ => some "list"
  | .loc n => match st[n]? with
    | some (.lst _) => some "list"
    | none => none
  | .gl _ => none
  | .rng _ _ => none
theorem tyN_of {ρ : List Addr} {H : Hp} {st : Store} {a : W} {x : V} {t : String} (s : StR X.K ρ H st) (r : VR X.K ρ H a x) (h : tyN st a = some t) : TyX X.K H x (.type t) := by
  cases a with
  | non => cases h; rw [non_of r]; exact .base .non
  | bl b => cases h; rw [bl_of r]; exact .base (.bl b)
  | int b => cases h; rw [int_of r]; exact .base (.int b)
  | str b => cases h; rw [str_of r]; exact .base (.str b)
  | gl u => cases h
  | rng i j => cases h
  | tup ws =>
    cases h
    obtain ⟨q, us, rfl, hq, rs⟩ := tup_of r
    rcases hq with hq | ⟨o, its, n, hk, hc, _⟩
    · exact .base (.tup hq)
    · exact .kTuple hk hc
  | fro ws =>
    cases h
    obtain ⟨q, us, rfl, hq, rs⟩ := fro_of r
    rcases hq with ⟨o, hq⟩ | ⟨o, its, n, hk, hc, _⟩
    · exact .base (.frz hq)
    · exact .kList hk hc
  | loc n =>
    unfold tyN at h
    simp only at h
    split at h
    · rename_i ws hk
      cases h
      obtain ⟨q, us, _, rfl, hu, rs⟩ := loc_lst s r hk
      exact .base (.lst hu)
    · cases h
def isiW (l : List W) (st : Store) : Res W := match l with
  | [a, .gl (.ty n)] => match tyN st a with
    | some t => match kitB t n with
      | some b => .ok (.bl b) st
      | none => .stuck
    | none => .stuck
  | _ => .stuck
theorem isi_ok : CallOk X (rIsi X.K) isiW := fun Wx ρ H st σ l vs Q s r q => by
  unfold isiW at q
  split at q
  · rename_i a0 n0
    obtain ⟨x, y, rfl, ra, rb⟩ := vrs2 r
    have rb' : y = .ty n0 := by simpa only [VR] using rb
    subst rb'
    split at q
    · rename_i t ht
      split at q
      · rename_i b hb
        exact ⟨x, _, .type t, .type _, b, rfl, .ty _, tyN_of s ra ht, kit_ty hb, post_bl s q⟩
      · exact q.elim
    · exact q.elim
  · exact q.elim
theorem ie_ty {T : String} {nm : Str} (hg : Gl X nm) (hm : X.mg nm = none) (hv : bootBuiltins nm = some (.type T)) (hn : nm ≠ "__name__" := by decide) (hd : (nm == ("__debug__" : Str)) = false := by decide) : IE X ex Wx (.Name nm pos) (dC (.gl (.ty T))) :=
  ie_c (pe_bltn (v := .ty T) hg hm hv rfl hn hd) fun _ _ => by simp [VR]
theorem ie_isi {m : D (List W)} (hg : Gl X "isinstance") (hm : X.mg "isinstance" = none) (ha : IA X ex Wx (e :: es) m) (he : starEach (e :: es) X.env = (false, eval e X.env) :: starEach es X.env := by rfl) (hpl : (backTo pos (starEach es X.env)).any (·.1) = false := by rfl) :
    IE X ex Wx (.Call (.Name "isinstance" p) (e :: es) [] pos) (dApp isiW m) := ie_callB call_isi isi_ok hg hm (by decide +kernel) ha (by decide) (by decide) he hpl
/-- isinstance(e, (A, B)), two built-in types -/
def isi2W (A B : String) (a : W) (st : Store) : Res W := match tyN st a with
  | some t => match kitB t A, kitB t B with
    | some x, some y => .ok (.bl (x || y)) st
    | _, _ => .stuck
  | none => .stuck
theorem ie_isi2 {m : D W} {A B : String} {na nb : Str} {q1 q2 q3 : Pos} {j : Nat} (hg : Gl X "isinstance") (hm : X.mg "isinstance" = none) (ha : IE X ex Wx e m) (hga : Gl X na) (hma : X.mg na = none) (hva : bootBuiltins na = some (.type A)) (hgb : Gl X nb) (hmb : X.mg nb = none) (hvb : bootBuiltins nb = some (.type B))
    (hna : na ≠ "__name__" := by decide) (hda : (na == ("__debug__" : Str)) = false := by decide) (hnb : nb ≠ "__name__" := by decide) (hdb : (nb == ("__debug__" : Str)) = false := by decide)
    (he : starEach [e, .Tuple [.Name na q1, .Name nb q2] j q3] X.env = (false, eval e X.env) :: starEach [.Tuple [.Name na q1, .Name nb q2] j q3] X.env := by rfl) (hpl : (backTo pos (starEach [.Tuple [.Name na q1, .Name nb q2] j q3] X.env)).any (·.1) = false := by rfl) :
    IE X ex Wx (.Call (.Name "isinstance" p) [e, .Tuple [.Name na q1, .Name nb q2] j q3] [] pos) (dUn (isi2W A B) m) := by
  refine PE.of (pe_callB call_isiT hg hm (by decide +kernel) (pa_cons (es := [.Tuple [.Name na q1, .Name nb q2] j q3]) ha (pa_cons (pe_tup (pa_cons (pe_bltn (v := .ty A) hga hma hva rfl hna hda) (pa_cons (pe_bltn (v := .ty B) hgb hmb hvb rfl hnb hdb) pa_nil))) pa_nil) he) (by decide) (by decide) he hpl) fun σ H Q ⟨ρ, env, st, s, e, q⟩ => RG.bind s e q fun ρ1 H1 st1 a x g1 s1 e1 ra q1 => ?_
  refine ⟨by show 2 ≤ sizeLine; decide, fun t nt => ?_⟩
  have q2 := Post.mono q1 (grow_imm (u := .tup [.ty A, .ty B]) nt)
  have s2 := s1.grow_imm (u := .tup [.ty A, .ty B]) nt
  have r2 := VR.grow s1.apart (grow_imm (u := .tup [.ty A, .ty B]) nt) a x ra
  unfold isi2W at q2
  split at q2
  · rename_i ty hty
    split at q2
    · rename_i x1 y1 hx hy
      refine ⟨x, t, [.ty A, .ty B], .type ty, [.type A, .type B], (x1 || y1), rfl, upd_same, .cons (.ty A) (.cons (.ty B) .nil), tyN_of s2 r2 hty, ?_, post_bl s2 q2⟩
      refine kitAny_cons (kit_ty hx) (fun h => ?_) (fun h => by rw [h]; rfl)
      refine kitAny_cons (kit_ty hy) (fun h2 => ?_) (fun h2 => by rw [h2]; simp)
      rw [h, h2]; exact kitAny_nil
    · exact q2.elim
  · exact q2.elim
/-! ### methods of texts, append -/
def tyS (a : W) (_ : Store) : Bool := match a with
  | .str _ => true
  | _ => false
theorem tyS_ok : TyOk X "str" tyS := fun ρ H st a x s r h => by
  cases a with
  | str z => rw [str_of r]; exact rfl
  | _ => cases h
def tyL (a : W) (st : Store) : Bool := match a with
  | .loc n => (st[n]?).isSome
  | _ => false
theorem tyL_ok : TyOk X "list" tyL := fun ρ H st a x s r h => by
  cases a with
  | loc n =>
    unfold tyL at h
    simp only at h
    cases hk : st[n]? with
    | none => rw [hk] at h; cases h
    | some o =>
      cases o with
      | lst ws =>
        obtain ⟨q, us, _, rfl, hu, rs⟩ := loc_lst s r hk
        exact .inl ⟨rfl, us, .of hu⟩
  | _ => cases h
def strsW (st : Store) (a : W) : Option (List Str) := (seqW st a).bind fun ws => allO (ws.map stOf)
def joinW (a : W) (l : List W) (st : Store) : Res W := match a, l with
  | .str z, [b] => match strsW st b with
    | some ys => if (ys.map (·.length)).sum + ys.length * z.length ≤ 16777216 then .ok (.str (Txt.join z ys)) st else .stuck
    | none => .stuck
  | _, _ => .stuck
theorem join_ok : MtOk X (fun x xs H Q => ∃ a p, ∃ ys : List Str, x = .str a ∧ xs = [.ref p] ∧ (SqL X.K H p (ys.map V.str) ∨ SqT X.K H p (ys.map V.str)) ∧ (ys.map (·.length)).sum + ys.length * a.length ≤ 16777216 ∧ Q (.str (Txt.join a ys)) H) joinW := fun Wx ρ H st σ a l x vs Q s ra rl q => by
  unfold joinW at q
  split at q
  · obtain ⟨y, rfl, rb⟩ := vrs1 rl
    split at q
    · rename_i ys hy
      split at q
      · rename_i hz
        unfold strsW at hy
        cases hs : seqW st _ with
        | none => rw [hs] at hy; cases hy
        | some ws =>
          rw [hs] at hy
          obtain ⟨a1, us, rfl, hq, rs⟩ := seqW_of s rb hs
          have e1 := VRs.maps stOf_of rs (show allO (ws.map stOf) = some ys from hy)
          subst e1
          exact ⟨_, a1, ys, str_of ra, rfl, hq, hz, post_str s q⟩
      · exact q.elim
    · exact q.elim
  · exact q.elim
def stripW (a : W) (l : List W) (st : Store) : Res W := match a, l with
  | .str z, [.str b] => if z.length ≤ sizeLine then .ok (.str (Txt.stripChars z b)) st else .stuck
  | _, _ => .stuck
theorem strip_ok : MtOk X (fun x xs H Q => ∃ a b, x = .str a ∧ xs = [.str b] ∧ a.length ≤ sizeLine ∧ Q (.str (Txt.stripChars a b)) H) stripW := fun Wx ρ H st σ a l x vs Q s ra rl q => by
  unfold stripW at q
  split at q
  · obtain ⟨y, rfl, rb⟩ := vrs1 rl
    rw [str_of ra, str_of rb]
    split at q
    · rename_i hz; exact ⟨_, _, rfl, rfl, hz, post_str s q⟩
    · exact q.elim
  · exact q.elim
def endswithW (a : W) (l : List W) (st : Store) : Res W := match a, l with
  | .str z, [.str b] => .ok (.bl (Txt.endswith z b)) st
  | _, _ => .stuck
theorem endswith_ok : MtOk X (fun x xs H Q => ∃ a b, x = .str a ∧ xs = [.str b] ∧ Q (.bl (Txt.endswith a b)) H) endswithW := fun Wx ρ H st σ a l x vs Q s ra rl q => by
  unfold endswithW at q
  split at q
  · obtain ⟨y, rfl, rb⟩ := vrs1 rl
    rw [str_of ra, str_of rb]
    exact ⟨_, _, rfl, rfl, post_bl s q⟩
  · exact q.elim
def splitW (a : W) (l : List W) (st : Store) : Res W := match a, l with
  | .str z, [.str b] => if (b.length == 0) = false ∧ z.length + 2 ≤ sizeLine then .ok (.loc st.length) (st ++ [.lst ((Txt.split z b).map W.str)]) else .stuck
  | _, _ => .stuck
theorem VRs.ofStrs {K : PySem.W.Frag} {ρ : List Addr} {H : Hp} : ∀ (l : List Str), VRs K ρ H (l.map W.str) (l.map V.str)
  | [] => by simp [VRs]
  | x :: l => .cons' (by simp [VR]) (VRs.ofStrs l)
theorem split_ok : MtOk X (fun x xs H Q => ∃ a b, x = .str a ∧ xs = [.str b] ∧ (b.length == 0) = false ∧ a.length + 2 ≤ sizeLine ∧ rNewStrs (Txt.split a b) H Q) splitW := fun Wx ρ H st σ a l x vs Q s ra rl q => by
  unfold splitW at q
  split at q
  · obtain ⟨y, rfl, rb⟩ := vrs1 rl
    rw [str_of ra, str_of rb]
    split at q
    · rename_i hz
      exact ⟨_, _, rfl, rfl, hz.1, hz.2, post_lst s (VRs.ofStrs _) q⟩
    · exact q.elim
  · exact q.elim
def appendW (a : W) (l : List W) (st : Store) : Res W := match a, l with
  | .loc n, [w] => match st[n]? with
    | some (.lst ws) => if ws.length < sizeLine then .ok .non (st.set n (.lst (ws ++ [w]))) else .stuck
    | none => .stuck
  | _, _ => .stuck
theorem append_ok : MtOk X rAppend appendW := fun Wx ρ H st σ a l x vs Q s ra rl q => by
  unfold appendW at q
  split at q
  · rename_i n w
    obtain ⟨y, rfl, rb⟩ := vrs1 rl
    split at q
    · rename_i ws hk
      split at q
      · rename_i hz
        obtain ⟨a1, us, hn, rfl, hu, rs⟩ := loc_lst s ra hk
        have hm : a1 ∈ ρ := List.mem_of_getElem? hn
        have g : Grow ρ H ρ (upd H a1 (.lst (us ++ [y]))) := grow_write hm
        refine ⟨a1, us, y, rfl, rfl, hu, by rw [← VRs.length rs]; exact hz, ?_⟩
        exact q ρ _ _ g (s.write hn ⟨_, upd_same, (VRs.grow s.apart g ws us rs).append (.one (VR.grow s.apart g w y rb))⟩) (by simp [VR])
      · exact q.elim
    · exact q.elim
  · exact q.elim
/-! ### o[i] = v -/
def setW (o i v : W) (st : Store) : Option Store := match o, i with
  | .loc n, .int k => match st[n]? with
    | some (.lst ws) => match ixN ws.length k with
      | some j => some (st.set n (.lst (ws.set j v)))
      | none => none
    | none => none
  | _, _ => none
def tSub (mo mi : D W) : DT := fun v env st => match mo env st with
  | .ok o st1 => match mi env st1 with
    | .ok i st2 => (setW o i v st2).map fun st3 => (env, st3)
    | _ => none
  | _ => none
theorem ig_sub {vl : List Nat} {o i : Expr} {mo mi : D W} (ho : IE X ex W0 o mo) (hi : IE X ex W0 i mi)
    (ha : ∀ v, assign (.Subscript o i pos) X.env v = (do
      let ov ← holding [v] (eval o X.env)
      let iv ← holding [v, ov] (eval i X.env)
      standAt pos
      holding [v, ov, iv] (setItem ov iv v)
      release [v, ov, iv] []) := by intro _; rfl) : IG X ex vl (.Subscript o i pos) (tSub mo mi) :=
  PG.of (pg_sub ho hi set_list ha) fun v σ H Q ⟨ρ, env, st, w, s, e, rw, env', st', q, pp⟩ => by
    unfold tSub at q
    refine ⟨ρ, env, st, s, e, ?_⟩
    generalize hmo : mo env st = ro at q
    cases ro with
    | stuck => cases q
    | err c w1 st1 => cases q
    | ok ov st1 =>
      intro ρ1 H1 x g1 s1 r1
      refine ⟨ρ1, env, st1, s1, e.grow s.apart g1, ?_⟩
      simp only at q
      generalize hmi : mi env st1 = ri at q
      cases ri with
      | stuck => cases q
      | err c w1 st1 => cases q
      | ok iv st2 =>
        intro ρ2 H2 y g2 s2 r2
        simp only at q
        have r1' := VR.grow s1.apart g2 ov x r1
        have rw' := VR.grow s1.apart g2 w v (VR.grow s.apart g1 w v rw)
        unfold setW at q
        split at q
        · rename_i n k
          split at q
          · rename_i ws hk
            split at q
            · rename_i j hj
              simp only [Option.map_some, Option.some.injEq, Prod.mk.injEq] at q
              obtain ⟨rfl, rfl⟩ := q
              obtain ⟨a1, us, hn, rfl, hu, rs⟩ := loc_lst s2 r1' hk
              rw [int_of r2]
              have hm : a1 ∈ ρ2 := List.mem_of_getElem? hn
              have g3 : Grow ρ2 H2 ρ2 (upd H2 a1 (.lst (us.set j v))) := grow_write hm
              refine ⟨a1, us, k, j, rfl, rfl, hu, by rw [← VRs.length rs]; exact hj, ?_⟩
              exact pp ρ2 _ σ (g1.trans (g2.trans g3)) (s2.write hn ⟨_, upd_same, (VRs.grow s2.apart g3 ws us rs).set (VR.grow s2.apart g3 w v rw') j⟩) (((e.grow s.apart g1).grow s1.apart g2).grow s2.apart g3) rfl
            · cases q
          · cases q
        · cases q
/-! ### calls with keywords alone -/
theorem pe_callKS {sp : Sp} {E : L2.St → XK} {CX : CXT} {kws : List Keyword} {tk : TA} {ks : List Str} (F : FnOk X.prog X.w X.K X.mg X.base CX k f fd ps sp) (hr : Room k X.A) (hg : Gl X x) (hm : X.mg x = some (.ref f)) (hk : PySem.W.keepIn X.K (.ref f) = true)
    (hb : ∀ (s : Shared) (ws : List Value), X.K.In s.heap → ws.length = ps.length → BindsTo s fd ⟨[], ks.zip ws⟩ (ps.zip ws)) (hx : ∀ σ, PassesAt CX X σ (E σ)) (hkw : PK X kws tk)
    (hall : (backToKw pos (keywordEach kws X.env)).all (·.1.isSome) = true := by rfl) (hks : (backToKw pos (keywordEach kws X.env)).filterMap (·.1) = ks := by rfl) (hdb : (x == ("__debug__" : Str)) = false := by decide)
    (hpl : ((backTo pos (starEach [] X.env)).any (·.1) || (backToKw pos (keywordEach kws X.env)).any (·.1.isNone)) = false := by rfl) :
    PE X (.Call (.Name x p) [] kws pos) (tCallS sp E tk) := by
  refine ⟨fun pins s σ H Q I h => ?_⟩
  refine wpAny_Call_Name_kw (ld_glob I hg hm ?_ hdb)
  refine PySem.W.callWith_KW0 (h₀ := X.base) I.ok.mod.kin hk hall (thn (hkw.run pos pins s σ H _ I h) fun ws s1 ⟨zs, H1, I1, rz, q⟩ => ⟨I1.kIn, ?_⟩) hpl
  rw [hks]
  have hl : ws.length = ps.length := by rw [← rz.length]; exact F.len _ _ _ _ q
  refine wpAny_call (codeAny_mono (F.run X.A X.stack s1 H1 ⟨[], ks.zip ws⟩ ws zs Q (E σ) hr I1.env0 (hb s1 ws I1.kIn hl) rz q) fun r s' hq => ?_)
  cases r with
  | error e => exact hx σ pins H1 s1 e s' I1 hq
  | ok fl =>
    cases fl with
    | ret u => exact I1.after hq
    | next => exact False.elim hq
    | brk => exact False.elim hq
    | cont => exact False.elim hq
abbrev IK (X : Cx) (ex : Option Exn) (Wx : WX) (kws : List Keyword) (m : D (List W)) : Prop := PK X kws (RG X ex Wx (relVs X.K) m)
theorem PK.of {kws : List Keyword} {t t' : TA} (h : PK X kws t) (w : ∀ σ H Q, t' σ H Q → t σ H Q) : PK X kws t' := ⟨fun pos pins s σ H Q I q => h.run pos pins s σ H Q I (w _ _ _ q)⟩
theorem ik_nil : IK X ex Wx [] dNil := PK.of pk_nil fun σ H Q ⟨ρ, env, st, s, e, p⟩ => p.ok_ s (by simp [VRs])
theorem ik_cons {nm : Option Str} {kpos : Pos} {kws : List Keyword} {m : D W} {r : D (List W)} (he : IE X ex Wx e m) (hr : IK X ex Wx kws r) : IK X ex Wx (⟨nm, e, kpos⟩ :: kws) (dCons m r) :=
  PK.of (pk_cons he hr) fun σ H Q ⟨ρ, env, st, s, e, p⟩ => RG.bind s e p fun ρ1 H1 st1 a x g1 s1 e1 ra p1 => RG.bind s1 e1 p1 fun ρ2 H2 st2 l xs g2 s2 e2 rb p2 =>
    p2.ok_ s2 (VRs.cons' (VR.grow s1.apart g2 a x ra) rb)
theorem ie_callK {m : D (List W)} {kws : List Keyword} {ks : List Str} (F : FnOk X.prog X.w X.K X.mg X.base (L2.CX X.prog X.w) k f fd ps (SpM X.K X.mg n den)) (hr : Room k X.A) (hg : Gl X x) (hm : X.mg x = some (.ref f)) (hk : PySem.W.keepIn X.K (.ref f) = true)
    (hb : ∀ (s : Shared) (ws : List Value), X.K.In s.heap → ws.length = ps.length → BindsTo s fd ⟨[], ks.zip ws⟩ (ps.zip ws)) (tk : Takes X Wx) (hkw : IK X ex Wx kws m)
    (hall : (backToKw pos (keywordEach kws X.env)).all (·.1.isSome) = true := by rfl) (hks : (backToKw pos (keywordEach kws X.env)).filterMap (·.1) = ks := by rfl) (hdb : (x == ("__debug__" : Str)) = false := by decide)
    (hpl : ((backTo pos (starEach [] X.env)).any (·.1) || (backToKw pos (keywordEach kws X.env)).any (·.1.isNone)) = false := by rfl) :
    IE X ex Wx (.Call (.Name x p) [] kws pos) (dCall n den m) :=
  PE.of (pe_callKS F hr hg hm hk hb (fun σ => passAt tk σ) hkw hall hks hdb hpl) fun σ H Q ⟨ρ, env, st, s, e, p⟩ => RG.bind s e p fun ρ1 H1 st1 l vs g s1 e1 r p1 => by
    split at p1
    · rename_i hl; exact sp_of s1 r hl p1
    · exact p1.elim
end
end
end MP
namespace MP
open PySem PySem.Spec PyProof.Rows L2
open Classical
noncomputable section
/-! ### the text's defs, as a generated text names them -/
structure DefF (K : PySem.W.Frag) (mg : Str → Option Value) (x qual : Str) (st : Stmt) (ps : List Str) where
  f : Addr
  fd : FuncData
  F : Fun K x qual st f fd
  m : mg x = some (.ref f)
  b : Binds K fd ps []
structure FnF (P : Program) (w : World) (K : PySem.W.Frag) (mg : Str → Option Value) (base : Heap) (x : Str) (ps : List Str) (k n : Nat) (den : List W → Store → Res W) where
  f : Addr
  fd : FuncData
  ok : FnOk P w K mg base (L2.CX P w) k f fd ps (SpM K mg n den)
  m : mg x = some (.ref f)
  kp : PySem.W.keepIn K (.ref f) = true
  b : Binds K fd ps []
/-- an error class of the text -/
structure ErF (P : Program) (w : World) (K : PySem.W.Frag) (mg : Str → Option Value) (base : Heap) (x : Str) where
  C : Addr
  f : Addr
  fd : FuncData
  T : ErrC K mg x C f
  ok : FnOk P w K mg base (L2.CX P w) 1 f fd ["self", "value"] (spExc K)
  b : Binds K fd ["self", "value"] []
theorem fn_stuck {P : Program} {w : World} {K : PySem.W.Frag} {mg : Str → Option Value} {base : Heap} {k n : Nat} {f : Addr} {fd : FuncData} {ps : List Str} : FnOk P w K mg base (L2.CX P w) k f fd ps (SpM K mg n fun _ _ => .stuck) :=
  ⟨fun vs H Q E ⟨_, _, _, _, _, _, z⟩ => z.elim, fun A outer s H args us vs Q E hr he hb hv ⟨_, _, _, _, _, _, z⟩ => z.elim⟩
section
variable {X : Cx} {ex : Option Exn} {Wx : WX} {pos p p' pos2 : Pos} {x : Str} {e : Expr} {es : List Expr} {ps : List Str} {k j n : Nat} {den : List W → Store → Res W}
theorem ie_int {i : Int} {q : Nat} : IE X ex Wx (.Constant (.int i) q pos) (dC (.int i)) := ie_c pe_int fun _ _ => by simp [VR]
theorem ie_str {i : Str} {q : Nat} : IE X ex Wx (.Constant (.str i) q pos) (dC (.str i)) := ie_c pe_str fun _ _ => by simp [VR]
theorem ie_bl {i : Bool} {q : Nat} : IE X ex Wx (.Constant (.bool i) q pos) (dC (.bl i)) := ie_c pe_bl fun _ _ => by simp [VR]
theorem ie_non {q : Nat} : IE X ex Wx (.Constant .none q pos) (dC .non) := ie_c pe_non fun _ _ => by simp [VR]
theorem ie_gint {i : Int} {t : Tok} (hm : X.mg x = some (.int i t)) (hg : Gl X x := by rfl) (hd : (x == ("__debug__" : Str)) = false := by decide) : IE X ex Wx (.Name x pos) (dC (.int i)) := ie_c (pe_glob (v := .int i) hg hm ⟨t, rfl⟩ hd) fun _ _ => by simp [VR]
theorem ie_gstr {i : Str} {t : Tok} (hm : X.mg x = some (.str i t)) (hg : Gl X x := by rfl) (hd : (x == ("__debug__" : Str)) = false := by decide) : IE X ex Wx (.Name x pos) (dC (.str i)) := ie_c (pe_glob (v := .str i) hg hm ⟨t, rfl⟩ hd) fun _ _ => by simp [VR]
theorem ie_callF {m : D (List W)} (G : FnF X.prog X.w X.K X.mg X.base x ps j n den) (hr : Room j X.A) (tk : Takes X Wx) (ha : IA X ex Wx (e :: es) m) (hg : Gl X x := by rfl) (hdb : (x == ("__debug__" : Str)) = false := by decide)
    (he : starEach (e :: es) X.env = (false, eval e X.env) :: starEach es X.env := by rfl) (hpl : (backTo pos (starEach es X.env)).any (·.1) = false := by rfl) : IE X ex Wx (.Call (.Name x p) (e :: es) [] pos) (dCall n den m) :=
  ie_call G.ok hr hg G.m G.kp G.b tk ha hdb he hpl
theorem ie_callF0 (G : FnF X.prog X.w X.K X.mg X.base x ps j n den) (hr : Room j X.A) (tk : Takes X Wx) (hg : Gl X x := by rfl) (hdb : (x == ("__debug__" : Str)) = false := by decide) : IE X ex Wx (.Call (.Name x p) [] [] pos) (dCall n den dNil) :=
  ie_call0 G.ok hr hg G.m G.kp G.b tk hdb
theorem ie_callFK {m : D (List W)} {kws : List Keyword} {ks : List Str} (G : FnF X.prog X.w X.K X.mg X.base x ps j n den) (hr : Room j X.A) (tk : Takes X Wx)
    (hb : ∀ (s : Shared) (ws : List Value), X.K.In s.heap → ws.length = ps.length → BindsTo s G.fd ⟨[], ks.zip ws⟩ (ps.zip ws)) (hkw : IK X ex Wx kws m) (hg : Gl X x := by rfl)
    (hall : (backToKw pos (keywordEach kws X.env)).all (·.1.isSome) = true := by rfl) (hks : (backToKw pos (keywordEach kws X.env)).filterMap (·.1) = ks := by rfl) (hdb : (x == ("__debug__" : Str)) = false := by decide)
    (hpl : ((backTo pos (starEach [] X.env)).any (·.1) || (backToKw pos (keywordEach kws X.env)).any (·.1.isNone)) = false := by rfl) : IE X ex Wx (.Call (.Name x p) [] kws pos) (dCall n den m) :=
  ie_callK G.ok hr hg G.m G.kp hb tk hkw hall hks hdb hpl
theorem is_raiseF {m : D (List W)} (G : ErF X.prog X.w X.K X.mg X.base x) (hr : Room 2 X.A) (tk : Takes X Wx) (ha : IA X ex Wx [e] m) (hc : X.calm = true := by rfl) (hg : Gl X x := by rfl) (hdb : (x == ("__debug__" : Str)) = false := by decide)
    (he : starEach [e] X.env = (false, eval e X.env) :: starEach [] X.env := by rfl) (hpl : (backTo pos (starEach [] X.env)).any (·.1) = false := by rfl) : IS X ex Wx (.Raise (some (.Call (.Name x p) [e] [] pos)) none pos2) (sRaise x m) :=
  is_raise hc tk G.T G.ok hr G.b hg ha hdb he hpl
/-! methods, by their names -/
theorem ie_join {o : Expr} {apos cpos : Pos} {mo : D W} {m : D (List W)} (ho : IE X ex Wx o mo) (ha : IA X ex Wx [e] m) (hbase : attributeBase o "join" X.env (eval o X.env) = eval o X.env := by rfl)
    (hfew : ((backTo cpos (starEach [e] X.env)).all (fun x => !x.1) && (backToKw cpos (keywordEach [] X.env)).all (fun x => x.1.isSome) && decide ([e].length + ([] : List Keyword).length + (if ([] : List Keyword).isEmpty then 0 else 1) < 30)) = true := by rfl)
    (hline : (apos.endLine == cpos.line) = true := by rfl) (hs : starEach [e] X.env = (false, eval e X.env) :: starEach [] X.env := by rfl) (hp : (backTo cpos (starEach [] X.env)).any (·.1) = false := by rfl) :
    IE X ex Wx (.Call (.Attribute o "join" apos) [e] [] cpos) (dBm tyS joinW mo m) := ie_bm PySem.F.plainAttrs_str PySem.F.slot_str_join PySem.F.type_str_join mt_join join_ok tyS_ok ho ha hbase hfew hline hs hp
theorem ie_strip {o : Expr} {apos cpos : Pos} {mo : D W} {m : D (List W)} (ho : IE X ex Wx o mo) (ha : IA X ex Wx [e] m) (hbase : attributeBase o "strip" X.env (eval o X.env) = eval o X.env := by rfl)
    (hfew : ((backTo cpos (starEach [e] X.env)).all (fun x => !x.1) && (backToKw cpos (keywordEach [] X.env)).all (fun x => x.1.isSome) && decide ([e].length + ([] : List Keyword).length + (if ([] : List Keyword).isEmpty then 0 else 1) < 30)) = true := by rfl)
    (hline : (apos.endLine == cpos.line) = true := by rfl) (hs : starEach [e] X.env = (false, eval e X.env) :: starEach [] X.env := by rfl) (hp : (backTo cpos (starEach [] X.env)).any (·.1) = false := by rfl) :
    IE X ex Wx (.Call (.Attribute o "strip" apos) [e] [] cpos) (dBm tyS stripW mo m) := ie_bm PySem.F.plainAttrs_str PySem.F.slot_str_strip PySem.F.type_str_strip mt_stripChars strip_ok tyS_ok ho ha hbase hfew hline hs hp
theorem ie_endswith {o : Expr} {apos cpos : Pos} {mo : D W} {m : D (List W)} (ho : IE X ex Wx o mo) (ha : IA X ex Wx [e] m) (hbase : attributeBase o "endswith" X.env (eval o X.env) = eval o X.env := by rfl)
    (hfew : ((backTo cpos (starEach [e] X.env)).all (fun x => !x.1) && (backToKw cpos (keywordEach [] X.env)).all (fun x => x.1.isSome) && decide ([e].length + ([] : List Keyword).length + (if ([] : List Keyword).isEmpty then 0 else 1) < 30)) = true := by rfl)
    (hline : (apos.endLine == cpos.line) = true := by rfl) (hs : starEach [e] X.env = (false, eval e X.env) :: starEach [] X.env := by rfl) (hp : (backTo cpos (starEach [] X.env)).any (·.1) = false := by rfl) :
    IE X ex Wx (.Call (.Attribute o "endswith" apos) [e] [] cpos) (dBm tyS endswithW mo m) := ie_bm PySem.F.plainAttrs_str PySem.F.slot_str_endswith PySem.F.type_str_endswith mt_endswith endswith_ok tyS_ok ho ha hbase hfew hline hs hp
theorem ie_split {o : Expr} {apos cpos : Pos} {mo : D W} {m : D (List W)} (ho : IE X ex Wx o mo) (ha : IA X ex Wx [e] m) (hbase : attributeBase o "split" X.env (eval o X.env) = eval o X.env := by rfl)
    (hfew : ((backTo cpos (starEach [e] X.env)).all (fun x => !x.1) && (backToKw cpos (keywordEach [] X.env)).all (fun x => x.1.isSome) && decide ([e].length + ([] : List Keyword).length + (if ([] : List Keyword).isEmpty then 0 else 1) < 30)) = true := by rfl)
    (hline : (apos.endLine == cpos.line) = true := by rfl) (hs : starEach [e] X.env = (false, eval e X.env) :: starEach [] X.env := by rfl) (hp : (backTo cpos (starEach [] X.env)).any (·.1) = false := by rfl) :
    IE X ex Wx (.Call (.Attribute o "split" apos) [e] [] cpos) (dBm tyS splitW mo m) := ie_bm PySem.F.plainAttrs_str PySem.F.slot_str_split PySem.F.type_str_split mt_split split_ok tyS_ok ho ha hbase hfew hline hs hp
theorem ie_append {o : Expr} {apos cpos : Pos} {mo : D W} {m : D (List W)} (ho : IE X ex Wx o mo) (ha : IA X ex Wx [e] m) (hbase : attributeBase o "append" X.env (eval o X.env) = eval o X.env := by rfl)
    (hfew : ((backTo cpos (starEach [e] X.env)).all (fun x => !x.1) && (backToKw cpos (keywordEach [] X.env)).all (fun x => x.1.isSome) && decide ([e].length + ([] : List Keyword).length + (if ([] : List Keyword).isEmpty then 0 else 1) < 30)) = true := by rfl)
    (hline : (apos.endLine == cpos.line) = true := by rfl) (hs : starEach [e] X.env = (false, eval e X.env) :: starEach [] X.env := by rfl) (hp : (backTo cpos (starEach [] X.env)).any (·.1) = false := by rfl) :
    IE X ex Wx (.Call (.Attribute o "append" apos) [e] [] cpos) (dBm tyL appendW mo m) := ie_bm PySem.F.plainAttrs_list PySem.F.slot_list_append PySem.F.type_list_append mt_append append_ok tyL_ok ho ha hbase hfew hline hs hp
/-! xs[::-1] of a list -/
def revW (a : W) (st : Store) : Res W := match lstW st a with
  | some ws => .ok (.loc st.length) (st ++ [.lst ws.reverse])
  | none => .stuck
theorem ie_rev {m : D W} {kk : Nat} {p1 p2 p3 : Pos} (he : IE X ex Wx e m) : IE X ex Wx (.Subscript e (.Slice none none (some (.UnaryOp .USub (.Constant (.int 1) kk p1) p2)) p3) pos) (dUn revW m) :=
  PE.of (pe_revL he) fun σ H Q ⟨ρ, env, st, s, e, q⟩ => RG.bind s e q fun ρ1 H1 st1 a x g1 s1 e1 ra q1 => by
    unfold revW at q1
    split at q1
    · rename_i ws hs
      obtain ⟨q2, us, rfl, hq, rs⟩ := lstW_of s1 ra hs
      exact ⟨q2, us, rfl, hq, post_lst s1 rs.reverse q1⟩
    · exact q1.elim
/-! isinstance of the error that a suite holds -/
/-- what is asked of an error's class for that -/
structure ExcI (K : PySem.W.Frag) (C : Addr) : Prop where
  hc : (PySem.W.clsIn K C).isSome = true
  ha : PySem.W.findIn K (.ref C) "__class__" = some (some (.builtin "object.__class__"))
  hn : PySem.W.specialIn K (.builtin "object.__class__") "__get__" = some (some (.builtin "getset_descriptor.__get__"))
  ht : PySem.W.takesIn K (.builtin "object.__class__") = some true
  hm : PySem.W.mroIn K C (.type "object") = some true
theorem call_isExc {X : Cx} {a C dd : Addr} {oe : Obj} {pn : List (Addr × Obj)} {cv : Value} {b : Bool} (T : ExcI X.K C) (xf : XfC X.K C) (hz : Zc (.ref C) (some dd) oe) (hf : ∃ vs, oe.data = .fields vs) (hk : PySem.W.kitOne X.K (.ref C) cv = some b) :
    CallR (X.suite a ((a, oe) :: pn)) (.builtin "isinstance") (fun xs H Q => ∃ (c : V) (o : List (Str × V)), xs = [.ref a, c] ∧ (∀ u, RelV c u → u = cv) ∧ H dd = some (.xd o) ∧ Q (.bl b) H) := by
  intro pins s σ H xs us Q I r h
  obtain ⟨c, o, rfl, hcv, hdd, q⟩ := h
  obtain ⟨u1, u2, rfl, rx, rt⟩ := vals2 r
  cases rx
  have ec := hcv _ rt
  subst ec
  obtain ⟨hget, _⟩ := I.pin (a, oe) (List.mem_append.mpr (.inl List.mem_cons_self))
  obtain ⟨vs, hv⟩ := hf
  obtain ⟨mA, ⟨od, es, ep, hod, _⟩, _⟩ := I.hok dd _ hdd
  have J : PySem.W.InstAt s.heap a oe C (some od) := by
    obtain ⟨oc, odd, oda, osl⟩ := oe
    obtain ⟨h1, h2⟩ := hz
    dsimp only at h1 h2 hv
    subst h1 h2 hv
    exact ⟨hget, rfl, rfl, hod⟩
  exact PySem.W.kia_one (PySem.W.kitx_exc T.hc xf.ga xf.gg xf.exC T.ha T.hn T.ht T.hm) I.kIn J hk (fun z => nomatch z) fun tk => ⟨.bl b, H, I.kept (t' := tk) fun _ _ z => z, rfl, q⟩
def dIsExc (l : List (Str × Bool)) (c : Str) : D W := fun _ st => match l.lookup c with
  | some b => .ok (.bl b) st
  | none => .stuck
theorem lookup_ok {cv : Value} : ∀ {l : List (Str × Bool)}, (∀ q ∈ l, ∃ C, X.mg q.1 = some (.ref C) ∧ ExcI X.K C ∧ PySem.W.kitOne X.K (.ref C) cv = some q.2) → ∀ {c : Str} {b : Bool} {C : Addr}, l.lookup c = some b → X.mg c = some (.ref C) → ExcI X.K C ∧ PySem.W.kitOne X.K (.ref C) cv = some b
  | [], _, c, b, C, h, _ => by simp at h
  | (x, v) :: l, hl, c, b, C, h, hC => by
    rw [List.lookup_cons] at h
    split at h
    · rename_i hc
      cases h
      have : c = x := by simpa using hc
      subst this
      obtain ⟨C', m, e⟩ := hl _ List.mem_cons_self
      have m' : X.mg c = some (.ref C') := m
      rw [hC] at m'; cases m'
      exact e
    · exact lookup_ok (fun q m => hl q (List.mem_cons_of_mem _ m)) h hC
theorem ie_isExc {l : List (Str × Bool)} {a C dd : Addr} {y : V} {w : W} {i : Nat} {oe : Obj} {pn : List (Addr × Obj)} {n cn cN : Str} {q1 q2 : Pos} {cv : Value} {v : V} {sub : Str → Option Bool} (hg : Gl X "isinstance") (hm : X.mg "isinstance" = none) (xf : XfC X.K C)
    (hl : ∀ q ∈ l, ∃ C, X.mg q.1 = some (.ref C) ∧ ExcI X.K C ∧ PySem.W.kitOne X.K (.ref C) cv = some q.2) (hmN : X.mg cN = some (.ref C)) (hsN : sub cN = some true) (hz : Zc (.ref C) (some dd) oe) (hf : ∃ vs, oe.data = .fields vs)
    (hN : X.N[i]? = some n) (hv : Vis X.env.scope n) (ht : PE (X.suite a ((a, oe) :: pn)) (.Name cn q2) (tC v)) (hcv : ∀ u, RelV v u → u = cv) (hd : (n == ("__debug__" : Str)) = false := by decide) (hcd : (n == ("__classdict__" : Str)) = false := by decide)
    (he : starEach [.Name n q1, .Name cn q2] X.env = (false, eval (.Name n q1) X.env) :: starEach [.Name cn q2] X.env := by rfl) (he2 : starEach [.Name cn q2] X.env = (false, eval (.Name cn q2) X.env) :: starEach [] X.env := by rfl) (hpl : (backTo pos (starEach [.Name cn q2] X.env)).any (·.1) = false := by rfl) :
    IE (X.suite a ((a, oe) :: pn)) (some ⟨i, a, dd, y, w⟩) Wx (.Call (.Name "isinstance" p) [.Name n q1, .Name cn q2] [] pos) (dIsExc l cN) := by
  cases hlk : l.lookup cN with
  | none =>
    refine ⟨fun pins s σ H Q I h => ?_⟩
    obtain ⟨ρ, env, st, s1, e, q⟩ := h
    unfold dIsExc at q
    rw [hlk] at q
    exact q.elim
  | some b =>
    obtain ⟨T, hk⟩ := lookup_ok hl hlk hmN
    refine PE.of (pe_callB (call_isExc T xf hz hf hk) hg hm (by decide +kernel) (pa_cons (es := [.Name cn q2]) (pe_var (i := i) hN hv hd hcd) (pa_cons ht pa_nil he2) he) (by decide) (by decide) he hpl) fun σ H Q ⟨ρ, env, st, s, e, q⟩ => ?_
    obtain ⟨h1, h2, h3, h4⟩ := e.exc _ rfl
    unfold dIsExc at q
    rw [hlk] at q
    exact ⟨.ref a, h1, v, _, rfl, hcv, h2, post_bl (X := X) s q⟩
/-! which errors a clause takes, by a list -/
def subL (l : List (Str × Bool)) : Str → Option Bool := fun c => l.lookup c
theorem subL_ok {cv : Value} : ∀ {l : List (Str × Bool)}, (∀ q ∈ l, ∃ C, X.mg q.1 = some (.ref C) ∧ PySem.W.exmOne X.K (.ref C) cv = some q.2 ∧ XfC X.K C ∧ PySem.W.findIn X.K (.ref C) ("value" : Str) = some none) → SubOk X cv (subL l)
  | [], _, c, b, h => by simp [subL] at h
  | (x, v) :: l, hl, c, b, h => by
    unfold subL at h
    rw [List.lookup_cons] at h
    split at h
    · rename_i hc
      cases h
      intro C hC
      have : c = x := by simpa using hc
      subst this
      obtain ⟨C', m, e, xf, nv⟩ := hl _ List.mem_cons_self
      have m' : X.mg c = some (.ref C') := m
      rw [hC] at m'; cases m'
      exact ⟨e, fun _ => ⟨xf, nv⟩⟩
    · exact subL_ok (fun q m => hl q (List.mem_cons_of_mem _ m)) c b h
/-! name op= e -/
def sAug (i : Nat) (f : W → W → Store → Res W) (m : D W) : DS := fun env st => match env[i]? with
  | some (some a) => (m env st).then env fun b st1 => (f a b st1).then env fun c st2 => .go .nx (env.set i (some c)) st2
  | _ => .stuck
def addI (a b : W) (st : Store) : Res W := match a, b with
  | .int i, .int j => .ok (.int (i + j)) st
  | _, _ => .stuck
theorem is_augAdd {i : Nat} {e : Expr} {m : D W} (hN : X.N.Nodup) (hi : X.N[i]? = some x) (hx : Loc X.env.scope x) (he : IE X none Wx e m) (hf : X.fn x = true ∨ X.env.scope.names.lookup x = some .local := by first | exact .inl rfl | exact .inr rfl | assumption) :
    IS X none Wx (.AugAssign (.Name x p') .Add e pos) (sAug i addI m) :=
  PS.of (ps_aug hN hi hx he ip_add hf) fun De σ H ⟨ρ, env, st, s, en, q⟩ => by
    unfold sAug at q
    split at q
    · rename_i a ha
      obtain ⟨v, h1, h2⟩ := en.at_ i a ha
      refine ⟨v, h1, RS.step (rel := relV X.K) s en q fun ρ1 H1 st1 b y g s1 e1 r q1 => ?_⟩
      have h3 := VR.grow s.apart g a v h2
      unfold addI at q1
      split at q1
      · rw [int_of h3, int_of r]
        exact ⟨_, _, rfl, rfl, PostS.go_ (f := .nx) q1 s1 (e1.set .none (by simp [VR]))⟩
      · exact q1.elim
    · exact q.elim
end
/-! ### classes, from what the head finds -/
theorem cls_some {K : PySem.W.Frag} {C : Addr} (h : PySem.W.hasDictIn K C = true) : (PySem.W.clsIn K C).isSome = true := by
  obtain ⟨cd, hc, _⟩ := PySem.W.any_some h
  rw [hc]; rfl
theorem kit_ref {K : PySem.W.Frag} {C D : Addr} {b : Bool} (hd : PySem.W.hasDictIn K C = true) (ht : PySem.W.typeIn K (.ref C) = some (.type "type")) (hs : PySem.W.subIn K (.ref C) (.ref C) = some true) (h : PySem.W.subIn K (.ref D) (.ref C) = some b) : PySem.W.kitOne K (.ref D) (.ref C) = some b := by
  have e2 : ((PySem.W.clsIn K C).isSome && PySem.W.typeIn K (.ref C) == some (.type "type")) = true := by rw [cls_some hd, ht]; rfl
  show (if (Value.ref D == Value.ref C) = true then some true else if ((PySem.W.clsIn K C).isSome && PySem.W.typeIn K (.ref C) == some (.type "type")) = true then PySem.W.subIn K (.ref D) (.ref C) else none) = some b
  rw [if_pos e2]
  by_cases e : (Value.ref D == Value.ref C) = true
  · rw [if_pos e]
    have e' : D = C := Value.ref.inj (beq_iff_eq.mp e)
    subst e'
    rw [hs] at h
    exact h
  · rw [if_neg e]; exact h
theorem kit_type {K : PySem.W.Frag} {D : Addr} {T : String} {b : Bool} (hm : PySem.W.kitMeta T = true) (h : PySem.W.subIn K (.ref D) (.type T) = some b) : PySem.W.kitOne K (.ref D) (.type T) = some b := by
  show (if (Value.ref D == Value.type T) = true then some true else if PySem.W.kitMeta T = true then PySem.W.subIn K (.ref D) (.type T) else none) = some b
  rw [if_neg (by intro z; cases z), if_pos hm]
  exact h
/-! ### what holds of each entry of a written list -/
def allP {α : Type} (p : α → Prop) : List α → Prop
  | [] => True
  | a :: l => p a ∧ allP p l
theorem mem_all {α : Type} {p : α → Prop} : ∀ {l : List α}, allP p l → ∀ q ∈ l, p q
  | [], _, _, h => nomatch h
  | a :: l, h, q, m => by
    rcases List.mem_cons.mp m with rfl | m
    · exact h.1
    · exact mem_all h.2 q m
/-! ### the law's own end -/
/-- what the law promises at the head -/
def spLaw (K : PySem.W.Frag) : Sp := fun vs H Q _ => ∃ (a : Addr) (ns : List Int), vs = [.ref a] ∧ Only H ∧ SqL K H a (ns.map V.int) ∧ ns.length ≤ 63 ∧ (∀ z ∈ ns, Builtin.Int.intBits z ≤ 1048576) ∧ ∀ H', Q (.bl true) H'
theorem VRs.ofInts {K : PySem.W.Frag} {ρ : List Addr} {H : Hp} : ∀ (l : List Int), VRs K ρ H (l.map W.int) (l.map V.int)
  | [] => by simp [VRs]
  | x :: l => .cons' (by simp [VR]) (VRs.ofInts l)
theorem law_end {P : Program} {w : World} {K : PySem.W.Frag} {mg : Str → Option Value} {base : Heap} {k : Nat} {x s : Str} {den : List W → Store → Res W} (G : FnF P w K mg base x [s] k 1 den)
    (h : ∀ ns : List Int, ns.length ≤ 63 → (∀ z ∈ ns, Builtin.Int.intBits z ≤ 1048576) → den [.fro (ns.map W.int)] [] = .ok (.bl true) []) :
    FnOk P w K mg base (L2.CX P w) k G.f G.fd [s] (spLaw K) := by
  refine ⟨fun vs H Q E hs => ?_, fun A outer st H args us vs Q E hr e0 hb r hs => ?_⟩
  · obtain ⟨a, ns, rfl, _⟩ := hs; rfl
  · obtain ⟨a, ns, rfl, hO, hS, hl, hbits, q⟩ := hs
    refine G.ok.run A outer st H args us [.ref a] Q E hr e0 hb r ?_
    have hf : SqF K H a (ns.map V.int) := by
      rcases hS with (hS | ⟨o, hS⟩) | hS
      · rcases hO a with z | ⟨o, xs, z⟩
        · rw [z] at hS; cases hS
        · rw [z] at hS; cases hS
      · exact .inl ⟨o, hS⟩
      · exact .inr hS
    refine ⟨[], [.fro (ns.map W.int)], [], ⟨rfl, List.nodup_nil, fun n o e => by simp at e⟩, ?_, rfl, ?_⟩
    · refine .one ?_
      simp only [VR]
      exact ⟨a, _, rfl, hf, VRs.ofInts ns⟩
    · rw [h ns hl hbits]
      intro ρ' H' v g s' rv
      have : v = .bl true := by simpa only [relV, VR] using rv
      subst this
      exact q H'
end
end MP
namespace MP
open PySem PySem.Spec PyProof.Rows L2
/-! ### try with several clauses 'except X as n' -/
/-- a clause: its class, its name's slot, its suite -/
structure Cl where
  c : Value
  i : Nat
  ts : Addr → Value → Option Addr → TS
def wEach (K : PySem.W.Frag) (Wout : WX) (De : Ends) (l : List Cl) : WX := l.foldr (fun h r => wAs K h.c h.i h.ts r De) Wout
/-- the clauses as they stand in the text -/
inductive ClsOk (X : Cx) : List ExceptHandler → List Cl → Prop
  | nil : ClsOk X [] []
  | as_ {x n : Str} {h : Cl} {b₀ : Stmt} {suite : List Stmt} {np hp : Pos} {hds : List ExceptHandler} {l : List Cl} (hi : X.N[h.i]? = some n) (hln : X.env.kindOf n = some .local) (hc : Names X x h.c)
      (hsu : ∀ (a : Addr) (oe : Obj) (cls : Value) (d : Option Addr) (pn : List (Addr × Obj)), Zc cls d oe → (∃ vs, oe.data = .fields vs) → PSs (X.suite a ((a, oe) :: pn)) (b₀ :: suite) (h.ts a cls d)) (r : ClsOk X hds l) :
      ClsOk X (.ExceptHandler (some (.Name x np)) (some n) (b₀ :: suite) hp :: hds) (h :: l)
section
variable {X : Cx} {body : List Stmt} {h₀ : ExceptHandler} {hds : List ExceptHandler} {l : List Cl} {pos : Pos} {tb : WX → TS} {Wout : WX}
theorem ps_try_each (hs : X.stack = X.env :: X.outer) (hf : X.env.frame = some X.env.locals) (hN : X.N.Nodup) (tk : Takes X Wout)
    (hb : ∀ (V : WX) (pn : List (Addr × Obj)) (xe : Value → Shared → Prop), Takes (X.tr pn xe) V → PassesOwn (model X.prog X.w) X.A X.env xe → PSs (X.tr pn xe) body (tb V))
    (hh : ClsOk X (h₀ :: hds) l) : PS X (.Try body (h₀ :: hds) [] [] pos) (fun De σ H => tb (wEach X.K Wout De l) De σ H) := by
  refine ⟨fun pins s σ H De I h => ?_⟩
  have ok := I.ok
  refine wpAny_Try_except (wpAny_mono ((hb (wEach X.K Wout De l) (X.pn ++ pins) _ (fun u s' xx => ?_) PassesOwn.looking).run [] s σ H De (I.toTry _) h) (fun f s1 q => ?_) (fun e s1 he => he))
  · obtain ⟨a, B, sI, pins', σ', H', cls, d, rfl, J', nb, up, sky, na, os, ag, w⟩ := xx
    have J : Inv X pins σ' H' sI := J'.ofTry ok
    refine Sky.land Zc.steady (by rw [ok.frames, hs]) hf (by rw [← hs]; exact sky) fun h3 fl3 up3 => ?_
    have J3 : Inv X pins σ' H' { s' with heap := h3 } := J.landed nb fl3.1 (up.trans up3) os ag
    obtain ⟨oe3, vs3, he3, hz3, hd3⟩ := fl3.there
    have apart : a ∉ frs (X.env :: X.outer) := fun m => by
      obtain ⟨_, o', e', hnf⟩ := fl3.2.2.1.mem m
      rw [he3] at e'; cases e'
      exact hnf _ hd3
    have nL : a ≠ X.env.locals := fun z => apart (List.mem_filterMap.mpr ⟨X.env, List.mem_cons_self, by rw [hf, z]⟩)
    have nF : a ∉ X.fs := fun m => by
      obtain ⟨e, he, q⟩ := List.mem_filterMap.mp m
      exact apart (List.mem_filterMap.mpr ⟨e, List.mem_cons_of_mem _ he, q⟩)
    have S3 := J3.suite he3 hd3 na nL nF
    suffices go : ∀ (hds' : List ExceptHandler) (l' : List Cl), ClsOk X hds' l' → wEach X.K Wout De l' cls d σ' H' →
        wpAny (model X.prog X.w) X.A (handleBy (.ref a) X.env hds') (SP X pins De) X.xe { s' with heap := h3 } from go _ _ hh w
    intro hds' l' hk
    induction hk with
    | nil =>
      intro w
      obtain ⟨_, _, _, oe, vs, T, oT, ts', he, hz, hd, h1, hr⟩ := id fl3
      refine wpAny_handleBy_nil ?_
      unfold PySem.passOn
      refine wpAny_bind (wpAny_field he hd h1 ?_)
      have nn : ¬ ((Value.ref T == Value.none) = true) := by simp
      rw [if_neg nn]
      have out : wpAny (model X.prog X.w) X.A (setFlight (.ref a) X.env.frame) (fun _ s4 => wpAny (model X.prog X.w) X.A (throw (.ref a) : Sem Flow) (SP X pins De) X.xe s4) X.xe { s' with heap := h3 } := by
        rw [hf]
        exact HandSPX.setFlight_upZ fl3 fun h4 hh4 up4 => wpAny_throw (tk _ _ ⟨a, B, sI, pins, σ', H', cls, d, rfl, J, nb, (up.trans up3).trans up4, .inr (.inr (by rw [hs]; exact hh4)), na, os, ag, w⟩)
      first
        | exact wpAny_bind (wpAny_pure (wpAny_bind out))
        | exact wpAny_bind out
    | @as_ x n c1 b₀ suite np hp hds2 l2 hi hln hc hsu r ih =>
      intro w
      obtain ⟨b, hb1, hyes, hno⟩ := w
      refine wpAny_handleBy_cons (codeAny_handlers_test ?_) (by intro q; cases q)
      have LT : PySem.W.Looks (model X.prog X.w) h3 (typeOf (.ref a)) cls := fun A Q E s k q => wpAny_typeOf_ref (k _ _ he3) (by rw [hz3.1]; exact q)
      have LM := PySem.W.exm_one (M := model X.prog X.w) (J3.kIn) LT hb1
      have named : ∀ {Q E : Value → Shared → Prop}, Q c1.c { s' with heap := h3 } → wpAny (model X.prog X.w) (X.A.mark (some (.ref a))) (eval (.Name x np) X.env) Q E { s' with heap := h3 } := fun {Q E} q => by
        obtain ⟨hg, hdbg, hm | ⟨hm, hv, hnn⟩⟩ := hc
        · exact ld_glob (X := X.suite a ((a, oe3) :: (X.pn ++ pins))) S3 hg hm q hdbg
        · exact ld_blt (X := X.suite a ((a, oe3) :: (X.pn ++ pins))) S3 hg hm hv q hnn hdbg
      refine named (LM.here ?_)
      cases b with
      | false => exact ih (hno rfl)
      | true =>
        refine codeAny_handlers_suite_as (HandSPX.lands_againZ fl3 fun h4 fl4 up4 => ?_)
        have J4 : Inv X pins σ' H' { s' with heap := h4 } := J.landed nb fl4.1 ((up.trans up3).trans up4) os ag
        obtain ⟨oe4, vs4, he4, hz4, hd4⟩ := fl4.there
        have S4 := J4.suite he4 hd4 na nL nF
        refine store_ok (X := X.suite a ((a, oe4) :: (X.pn ++ pins))) (v := .ref a) S4 hN hi (.inl hln) rfl (fun s5 S5 => ?_) (.inr hln)
        refine wpAny_mono ((hsu a oe4 cls d (X.pn ++ pins) hz4 ⟨_, hd4⟩).run [] s5 _ H' _ S5 (hyes rfl a na)) (fun f s6 q => ?_) (fun _ _ z => False.elim z)
        have over : ∀ {σ6 : L2.St} {H6 : Hp} {Q : Shared → Prop}, Inv (X.suite a ((a, oe4) :: (X.pn ++ pins))) [] σ6 H6 s6 → (∀ s7, Inv X pins (σ6.set c1.i none) H6 s7 → Q s7) →
            wpAny (model X.prog X.w) X.A (do bindName X.env n .none; unbindBehindTheSuite X.env n hp) (fun _ s7 => Q s7) X.xe s6 := fun {σ6 H6 Q} S6 hq => gone_ok (S6.unsuite ok) hN hi hln hq
        cases f with
        | next => obtain ⟨σ6, H6, S6, q6⟩ := q; exact over S6 fun s7 J7 => ⟨_, _, J7, q6⟩
        | brk => obtain ⟨σ6, H6, S6, q6⟩ := q; exact over S6 fun s7 J7 => ⟨_, _, J7, q6⟩
        | cont => obtain ⟨σ6, H6, S6, q6⟩ := q; exact over S6 fun s7 J7 => ⟨_, _, J7, q6⟩
        | ret u => obtain ⟨v6, σ6, H6, S6, r6, q6⟩ := q; exact over S6 fun s7 J7 => ⟨_, _, _, J7, r6, q6⟩
  · cases f with
    | next => obtain ⟨σ', H', J', q⟩ := q; exact wpAny_execs_nil ⟨σ', H', J'.ofTry ok, q⟩
    | brk => obtain ⟨σ', H', J', q⟩ := q; exact ⟨σ', H', J'.ofTry ok, q⟩
    | cont => obtain ⟨σ', H', J', q⟩ := q; exact ⟨σ', H', J'.ofTry ok, q⟩
    | ret u => obtain ⟨v, σ', H', J', r, q⟩ := q; exact ⟨v, σ', H', J'.ofTry ok, r, q⟩
end
section
variable {X : Cx} {Wx : WX}
/-- a clause of a denotation: its name's slot, which errors it takes, its suite -/
abbrev ClD := Nat × (Str → Option Bool) × (Str → W → DS)
def eachC : List ClD → Str → W → DS
  | [], c, w, env, st => .err c w env st
  | (i, sub, su) :: r, c, w, env, st => match sub c with
    | some true => if i < env.length then unAt i (su c w (env.set i none) st) else .stuck
    | some false => eachC r c w env st
    | none => .stuck
def kEach (l : List ClD) : RsS → RsS
  | .err c w env st => eachC l c w env st
  | r => r
def sTryEach (b : DS) (l : List ClD) : DS := fun env st => kEach l (b env st)
inductive CDs (X : Cx) : List ExceptHandler → List ClD → Prop
  | nil : CDs X [] []
  | as_ {x n : Str} {c : Value} {i : Nat} {sub : Str → Option Bool} {su : Str → W → DS} {b₀ : Stmt} {suite : List Stmt} {np hp : Pos} {hds : List ExceptHandler} {l : List ClD} (hi : X.N[i]? = some n) (hln : X.env.kindOf n = some .local) (hc : Names X x c)
      (hsub : SubOk X c sub) (hsu : SuOk X i (b₀ :: suite) sub su) (r : CDs X hds l) : CDs X (.ExceptHandler (some (.Name x np)) (some n) (b₀ :: suite) hp :: hds) ((i, sub, su) :: l)
theorem unset_env {ex : Option Exn} {ρ : List Addr} {H : Hp} {env : EnvW} {σ : L2.St} {i : Nat} {v : Option V} (e : EnvR X.K ex ρ H env σ) (hx : ∀ x, ex = some x → False) : EnvR X.K none ρ H (env.set i none) (σ.set i v) :=
  ⟨by simp [e.len], fun j w' h => by
    by_cases hj : i = j
    · subst hj
      rw [List.getElem?_set] at h
      split at h
      · first | cases h | (split at h <;> cases h)
      · rename_i z; exact absurd rfl z
    · rw [List.getElem?_set_ne hj] at h
      obtain ⟨u, h1, h2⟩ := e.at_ j w' h
      exact ⟨u, by rw [List.getElem?_set_ne hj]; exact h1, h2⟩, fun _ h => nomatch h⟩
theorem each_post {hds : List ExceptHandler} {l : List ClD} (hk : CDs X hds l) : ∃ l', ClsOk X hds l' ∧ ∀ (De : Ends) (ρ : List Addr) (H : Hp) (c1 : Str) (w : W) (env1 : EnvW) (st1 : Store) (ρ' : List Addr) (H' : Hp) (σ' : L2.St) (cls : Value) (d : Option Addr),
    PostS X.K none X.mg Wx De ρ H (eachC l c1 w env1 st1) → Grow ρ H ρ' H' → StR X.K ρ' H' st1 → EnvR X.K none ρ' H' env1 σ' → ErR X.K X.mg ρ' H' c1 w cls d → wEach X.K Wx De l' cls d σ' H' := by
  induction hk with
  | nil => exact ⟨[], .nil, fun De ρ H c1 w env1 st1 ρ' H' σ' cls d q g s e er => q ρ' H' σ' cls d g s e er⟩
  | @as_ x n c i sub su b₀ suite np hp hds l hi hln hc hsub hsu r ih =>
    obtain ⟨l', ok, run⟩ := ih
    refine ⟨⟨c, i, fun a cls d De σ H => ∃ (c1 : Str) (C dd : Addr) (y : V) (w : MP.W), (sub c1 = some true ∧ X.mg c1 = some (.ref C) ∧ cls = .ref C ∧ d = some dd ∧ XfC X.K C ∧ PySem.W.findIn X.K (.ref C) ("value" : Str) = some none) ∧ RS X (some ⟨i, a, dd, y, w⟩) W0 (su c1 w) De σ H⟩ :: l', .as_ hi hln hc ?_ ok, ?_⟩
    · intro a oe cls d pn hz hfv
      refine pss_ex fun c1 => pss_ex fun C => pss_ex fun dd => pss_ex fun y => pss_ex fun w => pss_and fun h => ?_
      obtain ⟨hs1, hm1, rfl, rfl, xf, nv⟩ := h
      exact hsu c1 C dd a y w oe pn hs1 hm1 xf nv hz hfv
    · intro De ρ H c1 w env1 st1 ρ' H' σ' cls d q g s' e' er
      obtain ⟨C, dd, y, hm, rfl, rfl, hx, ndd, rw⟩ := id er
      unfold eachC at q
      cases hsb : sub c1 with
      | none => rw [hsb] at q; exact q.elim
      | some bb =>
        rw [hsb] at q
        obtain ⟨hb1, hb2⟩ := hsub c1 bb hsb C hm
        refine ⟨bb, hb1, fun hbt a na => ?_, fun hbf => ?_⟩
        · subst hbt
          simp only at q
          obtain ⟨xf, nv⟩ := hb2 rfl
          by_cases hil0 : i < env1.length
          case neg => rw [if_neg hil0] at q; exact q.elim
          rw [if_pos hil0] at q
          have e2 := unset_env (X := X) (i := i) (v := some (V.ref a)) e' (fun _ z => nomatch z)
          refine ⟨c1, C, dd, y, w, ⟨hsb, hm, rfl, rfl, xf, nv⟩, ρ', env1.set i none, st1, s', ⟨e2.len, e2.at_, fun x h => ?_⟩, ?_⟩
          · cases h
            refine ⟨?_, hx, ndd, rw⟩
            have hil : i < σ'.length := by rw [e'.len]; exact hil0
            show (σ'.set i (some (V.ref a)))[i]? = _
            rw [List.getElem?_set_self hil]
          · generalize su c1 w (env1.set i none) st1 = r2 at q
            have q := PostS.mono q g
            cases r2 with
            | stuck => exact q
            | err c2 w2 env2 st2 => exact q.elim
            | go f env2 st2 =>
              intro ρ2 H2 σ2 g2 s2 e3
              have e4 : EnvR X.K none ρ2 H2 (env2.set i none) (σ2.set i none) := ⟨by simp [e3.len], fun j w' h => by
                by_cases hj : i = j
                · subst hj
                  rw [List.getElem?_set] at h
                  split at h
                  · first | cases h | (split at h <;> cases h)
                  · rename_i z; exact absurd rfl z
                · rw [List.getElem?_set_ne hj] at h
                  obtain ⟨v, h1, h2⟩ := e3.at_ j w' h
                  exact ⟨v, by rw [List.getElem?_set_ne hj]; exact h1, h2⟩, fun _ h => nomatch h⟩
              have z := q ρ2 H2 (σ2.set i none) g2 s2 e4
              cases f with
              | nx => exact z
              | bk => exact z
              | ct => exact z
              | rt v => exact z
        · subst hbf
          simp only at q
          exact run De ρ H c1 w env1 st1 ρ' H' σ' _ _ q g s' e' er
theorem is_try_each {h₀ : ExceptHandler} {hds : List ExceptHandler} {l : List ClD} {body : List Stmt} {pos : Pos} {b : DS} (hs : X.stack = X.env :: X.outer) (hf : X.env.frame = some X.env.locals) (hN : X.N.Nodup) (tk : Takes X Wx)
    (hb : ∀ (V : WX) (pn : List (Addr × Obj)) (xe : Value → Shared → Prop), Takes (X.tr pn xe) V → PassesOwn (model X.prog X.w) X.A X.env xe → ISs (X.tr pn xe) none V body b) (hk : CDs X (h₀ :: hds) l) :
    IS X none Wx (.Try body (h₀ :: hds) [] [] pos) (sTryEach b l) := by
  obtain ⟨l', ok, run⟩ := each_post (Wx := Wx) hk
  refine PS.of (ps_try_each (tb := fun V => RS X none V b) hs hf hN tk hb ok) ?_
  intro De σ H ⟨ρ, env, st, s, e, q⟩
  refine ⟨ρ, env, st, s, e, ?_⟩
  unfold sTryEach at q
  generalize b env st = res at q
  cases res with
  | stuck => exact q
  | go f env1 st1 => exact q
  | err c1 w env1 st1 => exact fun ρ' H' σ' cls d g s' e' er => run De ρ H c1 w env1 st1 ρ' H' σ' cls d q g s' e' er
end
end MP
namespace MP
open PySem PySem.Spec PyProof.Rows L2
open Classical
noncomputable section
section
variable {X : Cx} {ex : Option Exn} {Wx : WX} {e : Expr} {es : List Expr} {p pos : Pos}
/-! a range that a name is to hold -/
def rngW (l : List W) (st : Store) : Res W := match l with
  | [.int i, .int j] => .ok (.rng i j) st
  | _ => .stuck
theorem rng_ok : CallOk X (fun vs H Q => ∃ i j, vs = [V.int i, V.int j] ∧ ∀ p, H p = none → Q (.ref p) (upd H p (.rng i j))) rngW := fun Wx ρ H st σ l vs Q s r q => by
  unfold rngW at q
  split at q
  · obtain ⟨x, y, rfl, ra, rb⟩ := vrs2 r
    rw [int_of ra, int_of rb]
    refine ⟨_, _, rfl, fun d hd => ?_⟩
    exact q ρ _ (.ref d) (grow_imm hd) (s.grow_imm hd) (by simp only [VR]; exact ⟨d, rfl, upd_same⟩)
  · exact q.elim
theorem ie_rng {m : D (List W)} (hg : Gl X "range") (hm : X.mg "range" = none) (ha : IA X ex Wx (e :: es) m) (he : starEach (e :: es) X.env = (false, eval e X.env) :: starEach es X.env := by rfl) (hpl : (backTo pos (starEach es X.env)).any (·.1) = false := by rfl) :
    IE X ex Wx (.Call (.Name "range" p) (e :: es) [] pos) (dApp rngW m) := ie_callTy cr_range2 rng_ok hg hm (by decide +kernel) ha (by decide) (by decide) he hpl
/-! the place of a text in a text -/
def sIndexW (a : W) (l : List W) (st : Store) : Res W := match a, l with
  | .str z, [.str b] => match Builtin.Str.occurrences z b 0 z.length 1 with
    | i :: _ => .ok (.int (i : Nat)) st
    | [] => .stuck
  | _, _ => .stuck
theorem sIndex_ok : MtOk X (fun x xs H Q => ∃ a b i rest, x = .str a ∧ xs = [.str b] ∧ Builtin.Str.occurrences a b 0 a.length 1 = i :: rest ∧ Q (.int (i : Nat)) H) sIndexW := fun Wx ρ H st σ a l x vs Q s ra r q => by
  unfold sIndexW at q
  split at q
  · obtain ⟨y, rfl, rb⟩ := vrs1 r
    split at q
    · rename_i i rest ho
      exact ⟨_, _, i, rest, str_of ra, by rw [str_of rb], ho, post_int s q⟩
    · exact q.elim
  · exact q.elim
theorem ie_sindex {o : Expr} {apos cpos : Pos} {mo : D W} {m : D (List W)} (ho : IE X ex Wx o mo) (ha : IA X ex Wx [e] m) (hbase : attributeBase o "index" X.env (eval o X.env) = eval o X.env := by rfl)
    (hfew : ((backTo cpos (starEach [e] X.env)).all (fun x => !x.1) && (backToKw cpos (keywordEach [] X.env)).all (fun x => x.1.isSome) && decide ([e].length + ([] : List Keyword).length + (if ([] : List Keyword).isEmpty then 0 else 1) < 30)) = true := by rfl)
    (hline : (apos.endLine == cpos.line) = true := by rfl) (hs : starEach [e] X.env = (false, eval e X.env) :: starEach [] X.env := by rfl) (hp : (backTo cpos (starEach [] X.env)).any (·.1) = false := by rfl) :
    IE X ex Wx (.Call (.Attribute o "index" apos) [e] [] cpos) (dBm tyS sIndexW mo m) := ie_bm PySem.F.plainAttrs_str PySem.F.slot_str_index PySem.F.type_str_index mt_sindex sIndex_ok tyS_ok ho ha hbase hfew hline hs hp
end
end
end MP
namespace MP
open PySem PySem.Spec PyProof.Rows L2
open Classical
noncomputable section
/-! ### <= of tuples whose items are whole numbers and texts -/
theorem rc_le_str {A : Around} {s : Shared} (a b : Str) (t u : Tok) : Ob.RcOp .LtE A s (.str a t) (.str b u) (!decide (b.cps.toList < a.cps.toList)) := fun _ _ _ _ h => PySem.P.le_str h
/-- two items at one place: whether they are equal, whether the first is not behind the second -/
def pairV : V → V → Option (Bool × Bool)
  | .int i, .int k => some (i == k, decide (i ≤ k))
  | .str x, .str y => some (x == y, !decide (y.cps.toList < x.cps.toList))
  | _, _ => none
def rLeM (K : PySem.W.Frag) : R2 := fun x y H Q => ∃ (a b : Addr) (xs ys : List V) (e r : Nat → Bool), x = .ref a ∧ y = .ref b ∧ SqT K H a xs ∧ SqT K H b ys ∧ (∀ j v w, xs[j]? = some v → ys[j]? = some w → pairV v w = some (e j, r j)) ∧
  Q (.bl (Ob.lexAt e r (decide (xs.length ≤ ys.length)) 0 (min xs.length ys.length))) H
theorem vals_at : ∀ {xs : List V} {its : List Value}, Vals xs its → ∀ (j : Nat) (u : Value), its[j]? = some u → ∃ v, xs[j]? = some v ∧ RelV v u
  | _, _, .nil, j, u, h => by simp at h
  | _, _, .cons r rs, 0, u, h => by simp at h; subst h; exact ⟨_, rfl, r⟩
  | _, _, .cons r rs, j + 1, u, h => by
    obtain ⟨v, hv, hr⟩ := vals_at rs j u (by simpa using h)
    exact ⟨v, by simpa using hv, hr⟩
theorem op_leM {X : Cx} (hu : X.A.units < cLine) : OpR X (compareOp .LtE) (rLeM X.K) := by
  intro pins s σ H x y v u Q I rx ry h
  obtain ⟨a, b, xs, ys, e, r, rfl, rfl, ha, hb, hp, q⟩ := h
  cases rx
  cases ry
  obtain ⟨its, r1, p1, _⟩ := I.tuple ha
  obtain ⟨its2, r2, p2, _⟩ := I.tuple hb
  have n1 : its.toArray.size = xs.length := by rw [List.size_toArray]; exact r1.length.symm
  have n2 : its2.toArray.size = ys.length := by rw [List.size_toArray]; exact r2.length.symm
  have both : ∀ j (h1 : j < its.toArray.size) (h2 : j < its2.toArray.size), (∃ i k t t', its.toArray[j] = .int i t ∧ its2.toArray[j] = .int k t' ∧ e j = (i == k) ∧ r j = decide (i ≤ k)) ∨ (∃ i k t t', its.toArray[j] = .str i t ∧ its2.toArray[j] = .str k t' ∧ e j = (i == k) ∧ r j = !decide (k.cps.toList < i.cps.toList)) := fun j h1 h2 => by
    have g1 : its[j]? = some its.toArray[j] := by simp at h1; simp [h1]
    have g2 : its2[j]? = some its2.toArray[j] := by simp at h2; simp [h2]
    obtain ⟨v, hv, rv⟩ := vals_at r1 j _ g1
    obtain ⟨w, hw, rw'⟩ := vals_at r2 j _ g2
    have pv := hp j v w hv hw
    unfold pairV at pv
    split at pv
    · injection pv with pv
      obtain ⟨t, et⟩ := rv
      obtain ⟨t', et'⟩ := rw'
      exact .inl ⟨_, _, t, t', et, et', (congrArg Prod.fst pv).symm, (congrArg Prod.snd pv).symm⟩
    · injection pv with pv
      obtain ⟨t, et⟩ := rv
      obtain ⟨t', et'⟩ := rw'
      exact .inr ⟨_, _, t, t', et, et', (congrArg Prod.fst pv).symm, (congrArg Prod.snd pv).symm⟩
    · cases pv
  have R := Ob.RcOp.tuples_le (A := X.A) (s := s) (e := e) (r := r) p1 p2 hu (fun j h1 h2 => by
    rcases both j h1 h2 with ⟨i, k, t, t', e1, e2, e3, _⟩ | ⟨i, k, t, t', e1, e2, e3, _⟩
    · rw [e1, e2, e3]; exact SeqAt.EqAt.int_int _ _ _ _
    · rw [e1, e2, e3]; exact SeqAt.EqAt.str_str _ _ _ _) (fun j h1 h2 _ => by
    rcases both j h1 h2 with ⟨i, k, t, t', e1, e2, _, e4⟩ | ⟨i, k, t, t', e1, e2, _, e4⟩
    · rw [e1, e2, e4]; exact Ob.RcOp.le_int _ _ _ _
    · rw [e1, e2, e4]; exact rc_le_str _ _ _ _)
  rw [n1, n2] at R
  exact R X.prog X.w X.xe (EP X pins σ Q) ⟨.bl _, H, I, rfl, q⟩
/-- the same of values -/
def pairW : W → W → Option (Bool × Bool)
  | .int i, .int k => some (i == k, decide (i ≤ k))
  | .str x, .str y => some (x == y, !decide (y.cps.toList < x.cps.toList))
  | _, _ => none
def pairsW : List W → List W → Option (List (Bool × Bool))
  | w :: ws, v :: vs => match pairW w v, pairsW ws vs with
    | some p, some ps => some (p :: ps)
    | _, _ => none
  | _, _ => some []
def leTW (a b : W) (st : Store) : Res W := match a, b with
  | .tup ws, .tup vs => match pairsW ws vs with
    | some ps => .ok (.bl (Ob.lexAt (fun j => (ps.getD j (false, false)).1) (fun j => (ps.getD j (false, false)).2) (decide (ws.length ≤ vs.length)) 0 (min ws.length vs.length))) st
    | none => .stuck
  | _, _ => .stuck
section
variable {X : Cx} {ex : Option Exn} {Wx : WX} {a b : Expr} {ma mb : D W} {pos : Pos}
theorem pairs_at {ρ : List Addr} {H : Hp} : ∀ {ws vs : List W} {xs ys : List V} {ps : List (Bool × Bool)}, VRs X.K ρ H ws xs → VRs X.K ρ H vs ys → pairsW ws vs = some ps → ∀ (j : Nat) (v w : V), xs[j]? = some v → ys[j]? = some w → pairV v w = some (ps.getD j (false, false))
  | [], _, xs, _, _, h1, _, _, j, v, w, hv, _ => by simp only [VRs] at h1; subst h1; simp at hv
  | _ :: _, [], _, ys, _, _, h2, _, j, v, w, _, hw => by simp only [VRs] at h2; subst h2; simp at hw
  | w :: ws, v :: vs, xs, ys, ps, h1, h2, hp, j, x, y, hx, hy => by
    simp only [VRs] at h1 h2
    obtain ⟨u, us, rfl, r, rs⟩ := h1
    obtain ⟨u', us', rfl, r', rs'⟩ := h2
    unfold pairsW at hp
    split at hp
    · rename_i p ps' hp1 hp2
      cases hp
      cases j with
      | zero =>
        simp at hx hy
        subst hx; subst hy
        unfold pairW at hp1
        split at hp1
        · rw [int_of r, int_of r']; simpa [pairV] using hp1
        · rw [str_of r, str_of r']; simpa [pairV] using hp1
        · cases hp1
      | succ j => simpa using pairs_at rs rs' hp2 j x y (by simpa using hx) (by simpa using hy)
    · cases hp
theorem leT_ok : OpOk X (rLeM X.K) leTW := fun Wx ρ H st σ a b x y Q s ra rb p => by
  unfold leTW at p
  split at p
  · rename_i ws vs
    split at p
    · rename_i ps hps
      obtain ⟨d1, xs, rfl, ht, rs⟩ := tup_of ra
      obtain ⟨d2, ys, rfl, ht', rs'⟩ := tup_of rb
      rw [VRs.length rs, VRs.length rs'] at p
      exact ⟨d1, d2, xs, ys, _, _, rfl, rfl, ht.sq, ht'.sq, fun j v w hv hw => pairs_at rs rs' hps j v w hv hw, post_bl s p⟩
    · exact p.elim
  · exact p.elim
theorem ie_leT (hu : X.A.units + 64 < cLine) (ha : IE X ex Wx a ma) (hb : IE X ex Wx b mb) : IE X ex Wx (.Compare a [.LtE] [b] pos) (dOp leTW ma mb) := ie_cmp (op_leM (Nat.lt_of_le_of_lt (Nat.le_add_right _ _) hu)) leT_ok ha hb (nomark _)
theorem it_leT (hu : X.A.units + 64 < cLine) (ha : IE X ex Wx a ma) (hb : IE X ex Wx b mb) : IT X ex Wx (.Compare a [.LtE] [b] pos) (dBool (dOp leTW ma mb)) := it_cmp (op_leM (Nat.lt_of_le_of_lt (Nat.le_add_right _ _) hu)) leT_ok ha hb (nomark _)
end
end
end MP
namespace MP
open PySem PySem.Spec PyProof.Rows L2
open Classical
noncomputable section
/-! ### list(x), x a text or a sequence -/
def sgnV (x : Str) : List V := x.cps.toList.map fun c => .str ⟨#[c]⟩
theorem cr_listS {X : Cx} (hcalm : X.calm = true) : CallR X (.type "list") (fun xs H Q => ∃ x, xs = [V.str x] ∧ x.length ≤ sizeLine ∧ ∀ q, H q = none → Q (.ref q) (upd H q (.lst (sgnV x)))) := by
  intro pins s σ H xs us Q I r h
  obtain ⟨x, rfl, hz, q⟩ := h
  obtain ⟨u, rfl, ru⟩ := vals1 r
  obtain ⟨t, rfl⟩ := ru
  refine PySem.call_list_str (I.ok.hd hcalm) x t (fun h' tk acc c' hk e hi => ?_) (hn := hz)
  refine ⟨.ref s.heap.objs.size, upd H s.heap.objs.size (.lst (sgnV x)), I.laid hk (Nat.le_refl _) ⟨by simp [sgnV]; exact hz, acc.toList, c', ?_, by rw [Array.toArray_toList]; exact e⟩, rfl, q _ (I.hok.fresh (Nat.le_refl _))⟩
  refine vals_of_idx _ _ (by rw [Array.length_toList, hi.1]; simp [sgnV]) fun j u hj => ?_
  obtain ⟨c, t', hc, rfl⟩ := hi.2 j u (by rw [← Array.getElem?_toList]; exact hj)
  exact ⟨.str ⟨#[c]⟩, by simp [sgnV, hc], ⟨_, rfl⟩⟩
def listAW (l : List W) (st : Store) : Res W := match l with
  | [.str z] => if z.length ≤ sizeLine then .ok (.loc st.length) (st ++ [.lst (signs z)]) else .stuck
  | l => listW l st
theorem vrs_signs {K : PySem.W.Frag} {ρ : List Addr} {H : Hp} : ∀ (l : List Nat), VRs K ρ H (l.map fun c => W.str ⟨#[c]⟩) (l.map fun c => V.str ⟨#[c]⟩)
  | [] => by simp [VRs]
  | c :: l => .cons' (by simp [VR]) (vrs_signs l)
theorem listA_ok {X : Cx} : CallOk X (fun xs H Q => (∃ x, xs = [V.str x] ∧ x.length ≤ sizeLine ∧ ∀ q, H q = none → Q (.ref q) (upd H q (.lst (sgnV x)))) ∨ ∃ p ys, xs = [.ref p] ∧ (SqL X.K H p ys ∨ SqT X.K H p ys) ∧ ∀ l, H l = none → Q (.ref l) (upd H l (.lst ys))) listAW := fun Wx ρ H st σ l vs Q s r q => by
  unfold listAW at q
  split at q
  · rename_i z
    obtain ⟨x, rfl, ra⟩ := vrs1 r
    split at q
    · rename_i hz
      rw [str_of ra]
      exact .inl ⟨z, rfl, hz, post_lst s (vrs_signs _) q⟩
    · exact q.elim
  · exact .inr (list_ok Wx ρ H st σ _ vs Q s r q)
section
variable {X : Cx} {ex : Option Exn} {Wx : WX} {e : Expr} {es : List Expr} {p pos : Pos}
theorem ie_listA {m : D (List W)} (hc : X.calm = true) (hg : Gl X "list") (hm : X.mg "list" = none) (ha : IA X ex Wx (e :: es) m) (he : starEach (e :: es) X.env = (false, eval e X.env) :: starEach es X.env := by rfl) (hpl : (backTo pos (starEach es X.env)).any (·.1) = false := by rfl) :
    IE X ex Wx (.Call (.Name "list" p) (e :: es) [] pos) (dApp listAW m) := ie_callTy ((cr_listS hc).or call_list_of) listA_ok hg hm (by decide +kernel) ha (by decide) (by decide) he hpl
end
end
end MP
namespace MP
open PySem PySem.Spec PyProof.Rows L2
open Classical
noncomputable section
/-! ### how a denotation is worked out: each step by its own row, what comes later stays folded -/
def kOp1 (f : W → W → Store → Res W) (mb : D W) (env : EnvW) (a : W) (st : Store) : Res W := (mb env st).bind (f a)
def kIf (ma mb : D W) (env : EnvW) (b : Bool) (st : Store) : Res W := if b = true then ma env st else mb env st
def kCons1 (r : D (List W)) (env : EnvW) (a : W) (st : Store) : Res (List W) := (r env st).bind fun l st2 => .ok (a :: l) st2
def kTup (l : List W) (st : Store) : Res W := if l.length ≤ sizeLine then .ok (.tup l) st else .stuck
def kLst (l : List W) (st : Store) : Res W := if l.length ≤ sizeLine then .ok (.loc st.length) (st ++ [.lst l]) else .stuck
def kBool (a : W) (st : Store) : Res Bool := match a with
  | .bl b => .ok b st
  | _ => .stuck
def kAnd (b : D Bool) (env : EnvW) (c : Bool) (st : Store) : Res Bool := if c = true then b env st else .ok false st
def kOr (b : D Bool) (env : EnvW) (c : Bool) (st : Store) : Res Bool := if c = true then .ok true st else b env st
def kNot (c : Bool) (st : Store) : Res Bool := .ok (!c) st
def kAndV (b : D W) (env : EnvW) (x : W) (st : Store) : Res W := match x with
  | .bl c => if c = true then b env st else .ok (.bl false) st
  | _ => .stuck
def kOrV (b : D W) (env : EnvW) (x : W) (st : Store) : Res W := match x with
  | .bl c => if c = true then .ok (.bl true) st else b env st
  | _ => .stuck
def kNotV (x : W) (st : Store) : Res W := match x with
  | .bl c => .ok (.bl (!c)) st
  | _ => .stuck
def kCh1 (f g : W → W → Store → Res W) (mb mc : D W) (env : EnvW) (a : W) (st : Store) : Res W := (mb env st).bind fun b st2 => (f a b st2).bind fun x st3 => match x with
  | .bl true => (mc env st3).bind fun c st4 => g b c st4
  | .bl false => .ok (.bl false) st3
  | _ => .stuck
def kCall (n : Nat) (den : List W → Store → Res W) (l : List W) (st : Store) : Res W := if l.length = n then den l st else .stuck
def kBm (ty : W → Store → Bool) (g : W → List W → Store → Res W) (m : D (List W)) (env : EnvW) (a : W) (st : Store) : Res W := if ty a st = true then (m env st).bind (g a) else .stuck
def kSl1 (lo hi : D (Option Int)) (env : EnvW) (a : W) (st : Store) : Res W := (lo env st).bind fun l st2 => (hi env st2).bind fun h st3 => slW a l h st3
def kPart (a : W) (st : Store) : Res (Option Int) := match a with
  | .int i => .ok (some i) st
  | _ => .stuck
def kLc (env : EnvW) (t : DT) (c : D Bool) (e : D W) (it : ItW) (st : Store) : Res W := match lcW it.Chk env t c e it.items [] st with
  | some (acc, st2) => .ok (.loc st2.length) (st2 ++ [.lst acc])
  | none => .stuck
def kR1 (l : List W) (st : Store) : Res ItW := match l with
  | [.int j] => rangeW 0 j st
  | _ => .stuck
def kR2 (l : List W) (st : Store) : Res ItW := match l with
  | [.int i, .int j] => rangeW i j st
  | _ => .stuck
section
variable {α β : Type} {f g : W → W → Store → Res W} {ma mb mc : D W} {r : D (List W)} {env : EnvW} {st st1 : Store} {a b : W}
@[simp] theorem dC_ap (w : W) : dC w env st = .ok w st := rfl
@[simp] theorem dExc_ap (w : W) : dExc w env st = .ok w st := rfl
@[simp] theorem dVar_ap (i : Nat) : dVar i env st = (match env[i]? with | some (some w) => .ok w st | _ => .stuck) := rfl
@[simp] theorem dOp_ap : dOp f ma mb env st = (ma env st).bind (kOp1 f mb env) := rfl
@[simp] theorem kOp1_ap : kOp1 f mb env a st = (mb env st).bind (f a) := rfl
@[simp] theorem dUn_ap (u : W → Store → Res W) : dUn u ma env st = (ma env st).bind u := rfl
@[simp] theorem dIf_ap (c : D Bool) : dIf c ma mb env st = (c env st).bind (kIf ma mb env) := rfl
@[simp] theorem kIf_t : kIf ma mb env true st = ma env st := rfl
@[simp] theorem kIf_f : kIf ma mb env false st = mb env st := rfl
@[simp] theorem dNil_ap : dNil env st = .ok [] st := rfl
@[simp] theorem dCons_ap : dCons ma r env st = (ma env st).bind (kCons1 r env) := rfl
def kCons2 (a : W) (l : List W) (st : Store) : Res (List W) := .ok (a :: l) st
@[simp] theorem kCons1_ap : kCons1 r env a st = (r env st).bind (kCons2 a) := rfl
@[simp] theorem kCons2_ap (l : List W) : kCons2 a l st = .ok (a :: l) st := rfl
@[simp] theorem dTup_ap : dTup r env st = (r env st).bind kTup := rfl
@[simp] theorem dLst_ap : dLst r env st = (r env st).bind kLst := rfl
theorem kTup_ok {l : List W} (h : l.length ≤ sizeLine) : kTup l st = .ok (.tup l) st := if_pos h
theorem kLst_ok {l : List W} (h : l.length ≤ sizeLine) : kLst l st = .ok (.loc st.length) (st ++ [.lst l]) := if_pos h
@[simp] theorem dApp_ap (m : List W → Store → Res W) : dApp m r env st = (r env st).bind m := rfl
@[simp] theorem dBool_ap : dBool ma env st = (ma env st).bind kBool := rfl
@[simp] theorem kBool_ap (c : Bool) : kBool (.bl c) st = .ok c st := rfl
@[simp] theorem dAnd_ap (x y : D Bool) : dAnd x y env st = (x env st).bind (kAnd y env) := rfl
@[simp] theorem kAnd_t (y : D Bool) : kAnd y env true st = y env st := rfl
@[simp] theorem kAnd_f (y : D Bool) : kAnd y env false st = .ok false st := rfl
@[simp] theorem dOr_ap (x y : D Bool) : dOr x y env st = (x env st).bind (kOr y env) := rfl
@[simp] theorem kOr_t (y : D Bool) : kOr y env true st = .ok true st := rfl
@[simp] theorem kOr_f (y : D Bool) : kOr y env false st = y env st := rfl
@[simp] theorem dNot_ap (x : D Bool) : dNot x env st = (x env st).bind kNot := rfl
@[simp] theorem kNot_ap (c : Bool) : kNot c st = .ok (!c) st := rfl
@[simp] theorem dAndV_ap : dAndV ma mb env st = (ma env st).bind (kAndV mb env) := rfl
@[simp] theorem kAndV_t : kAndV mb env (.bl true) st = mb env st := rfl
@[simp] theorem kAndV_f : kAndV mb env (.bl false) st = .ok (.bl false) st := rfl
@[simp] theorem dOrV_ap : dOrV ma mb env st = (ma env st).bind (kOrV mb env) := rfl
@[simp] theorem kOrV_t : kOrV mb env (.bl true) st = .ok (.bl true) st := rfl
@[simp] theorem kOrV_f : kOrV mb env (.bl false) st = mb env st := rfl
@[simp] theorem dNotV_ap : dNotV ma env st = (ma env st).bind kNotV := rfl
@[simp] theorem kNotV_ap (c : Bool) : kNotV (.bl c) st = .ok (.bl (!c)) st := rfl
@[simp] theorem dChain_ap : dChain f g ma mb mc env st = (ma env st).bind (kCh1 f g mb mc env) := rfl
def kCh2 (f g : W → W → Store → Res W) (mc : D W) (env : EnvW) (a b : W) (st : Store) : Res W := (f a b st).bind fun x st3 => match x with
  | .bl true => (mc env st3).bind fun c st4 => g b c st4
  | .bl false => .ok (.bl false) st3
  | _ => .stuck
def kCh3 (g : W → W → Store → Res W) (mc : D W) (env : EnvW) (b x : W) (st3 : Store) : Res W := match x with
  | .bl true => (mc env st3).bind fun c st4 => g b c st4
  | .bl false => .ok (.bl false) st3
  | _ => .stuck
@[simp] theorem kCh1_ap : kCh1 f g mb mc env a st = (mb env st).bind (kCh2 f g mc env a) := rfl
@[simp] theorem kCh2_ap : kCh2 f g mc env a b st = (f a b st).bind (kCh3 g mc env b) := rfl
@[simp] theorem kCh3_t : kCh3 g mc env b (.bl true) st = (mc env st).bind (g b) := rfl
@[simp] theorem kCh3_f : kCh3 g mc env b (.bl false) st = .ok (.bl false) st := rfl
@[simp] theorem dCall_ap (n : Nat) (den : List W → Store → Res W) : dCall n den r env st = (r env st).bind (kCall n den) := rfl
@[simp] theorem kCall_1 (den : List W → Store → Res W) : kCall 1 den [a] st = den [a] st := rfl
@[simp] theorem kCall_2 (den : List W → Store → Res W) : kCall 2 den [a, b] st = den [a, b] st := rfl
@[simp] theorem dBm_ap (ty : W → Store → Bool) (m : W → List W → Store → Res W) : dBm ty m ma r env st = (ma env st).bind (kBm ty m r env) := rfl
@[simp] theorem kBm_s (m : W → List W → Store → Res W) (x : Str) : kBm tyS m r env (.str x) st = (r env st).bind (m (.str x)) := rfl
theorem kBm_l (m : W → List W → Store → Res W) {n : Nat} {ws : List W} (h : st[n]? = some (.lst ws)) : kBm tyL m r env (.loc n) st = (r env st).bind (m (.loc n)) := by
  unfold kBm tyL; simp only [h, Option.isSome_some, if_true]
@[simp] theorem dSl_ap (lo hi : D (Option Int)) : dSl ma lo hi env st = (ma env st).bind (kSl1 lo hi env) := rfl
def kSl2 (hi : D (Option Int)) (env : EnvW) (a : W) (l : Option Int) (st : Store) : Res W := (hi env st).bind fun h st3 => slW a l h st3
@[simp] theorem kSl1_ap (lo hi : D (Option Int)) : kSl1 lo hi env a st = (lo env st).bind (kSl2 hi env a) := rfl
@[simp] theorem kSl2_ap (hi : D (Option Int)) (l : Option Int) : kSl2 hi env a l st = (hi env st).bind (slW a l) := rfl
@[simp] theorem dNoPart_ap : dNoPart env st = .ok none st := rfl
@[simp] theorem dPart_ap : dPart ma env st = (ma env st).bind kPart := rfl
@[simp] theorem kPart_ap (i : Int) : kPart (.int i) st = .ok (some i) st := rfl
@[simp] theorem dIt_ap : dIt ma env st = (ma env st).bind itOf := rfl
@[simp] theorem dLc_ap (m : D ItW) (vs : List Nat) (t : DT) (c : D Bool) (e : D W) : dLc m vs t c e env st = (m env st).bind (kLc (wipeW env vs) t c e) := rfl
@[simp] theorem dRange1_ap : dRange1 r env st = (r env st).bind kR1 := by
  unfold dRange1 dRange
  dsimp only
  cases h : r env st with
  | ok l st1 =>
    simp only [Res.bind_ok]
    unfold kR1
    split
    · rfl
    · rename_i hx
      simp only [Res.bind_stuck]
      try (split; · exact (hx _ rfl).elim; · rfl)
  | err => rfl
  | stuck => rfl
@[simp] theorem dRange2_ap : dRange2 r env st = (r env st).bind kR2 := by
  unfold dRange2 dRange
  dsimp only
  cases h : r env st with
  | ok l st1 =>
    simp only [Res.bind_ok]
    unfold kR2
    split
    · rfl
    · rename_i hx
      simp only [Res.bind_stuck]
      try (split; · exact (hx _ _ rfl).elim; · rfl)
  | err => rfl
  | stuck => rfl
theorem kR1_ok {j : Int} (h : -(2 ^ 62) ≤ j) (h' : j < 2 ^ 62) : kR1 [.int j] st = .ok ⟨intsW 0 j.toNat, none⟩ st := by
  show rangeW 0 j st = _
  unfold rangeW
  rw [if_pos ⟨by decide, by decide, h, h'⟩, Int.sub_zero]
theorem kR2_ok {i j : Int} (h0 : 0 ≤ i) (h1 : i < 2 ^ 62) (h : 0 ≤ j) (h' : j < 2 ^ 62) : kR2 [.int i, .int j] st = .ok ⟨intsW i (j - i).toNat, none⟩ st := by
  show rangeW i j st = _
  unfold rangeW
  rw [if_pos ⟨by omega, h1, by omega, h'⟩]
@[simp] theorem itOf_tup (ws : List W) : itOf (.tup ws) st = .ok ⟨ws, none⟩ st := rfl
@[simp] theorem itOf_fro (ws : List W) : itOf (.fro ws) st = .ok ⟨ws, none⟩ st := rfl
@[simp] theorem itOf_str (x : Str) : itOf (.str x) st = .ok ⟨signs x, none⟩ st := rfl
theorem itOf_loc {n : Nat} {ws : List W} (h : st[n]? = some (.lst ws)) : itOf (.loc n) st = .ok ⟨ws, some n⟩ st := by
  unfold itOf; simp only [h]
end
/-! statements -/
def kExpr (env : EnvW) (_ : W) (st : Store) : RsS := .go .nx env st
def kRet (env : EnvW) (a : W) (st : Store) : RsS := .go (.rt a) env st
def kSIf (a b : DS) (env : EnvW) (k : Bool) (st : Store) : RsS := if k = true then a env st else b env st
def kAsg (t : DT) (env : EnvW) (a : W) (st : Store) : RsS := match t a env st with
  | some (env', st2) => .go .nx env' st2
  | none => .stuck
def kFor (t : DT) (b : DS) (env : EnvW) (it : ItW) (st : Store) : RsS := forW it.Chk t b it.items env st
def kRaise (x : Str) (env : EnvW) (l : List W) (st : Store) : RsS := match l with
  | [w] => .err x w env st
  | _ => .stuck
def kTry (i : Nat) (sub : Str → Option Bool) (su : Str → W → DS) : RsS → RsS
  | .err c w env1 st1 => match sub c with
    | some true => if i < env1.length then unAt i (su c w (env1.set i none) st1) else .stuck
    | some false => .err c w env1 st1
    | none => .stuck
  | r => r
section
variable {env : EnvW} {st st1 : Store} {m : D W} {a b : DS}
@[simp] theorem sSeq_ap : sSeq a b env st = (a env st).next b := rfl
@[simp] theorem RsS.next_er (c : Str) (w : W) (k) : (RsS.err c w env st).next k = .err c w env st := rfl
@[simp] theorem sNil_ap : sNil env st = .go .nx env st := rfl
@[simp] theorem sExpr_ap : sExpr m env st = (m env st).then env (kExpr env) := rfl
@[simp] theorem kExpr_ap (w : W) : kExpr env w st = .go .nx env st := rfl
@[simp] theorem sRet_ap : sRet m env st = (m env st).then env (kRet env) := rfl
@[simp] theorem kRet_ap (w : W) : kRet env w st = .go (.rt w) env st := rfl
@[simp] theorem sIf_ap (c : D Bool) : sIf c a b env st = (c env st).then env (kSIf a b env) := rfl
@[simp] theorem kSIf_t : kSIf a b env true st = a env st := rfl
@[simp] theorem kSIf_f : kSIf a b env false st = b env st := rfl
@[simp] theorem sAsg_ap (t : DT) : sAsg m t env st = (m env st).then env (kAsg t env) := rfl
@[simp] theorem kAsg_n (i : Nat) (w : W) : kAsg (tName i) env w st = .go .nx (env.set i (some w)) st := rfl
@[simp] theorem tName_ap (i : Nat) (w : W) : tName i w env st = some (env.set i (some w), st) := rfl
@[simp] theorem sFor_ap (m : D ItW) (t : DT) : sFor m t b env st = (m env st).then env (kFor t b env) := rfl
@[simp] theorem sRaise_ap (x : Str) (m : D (List W)) : sRaise x m env st = (m env st).then env (kRaise x env) := rfl
@[simp] theorem kRaise_ap (x : Str) (w : W) : kRaise x env [w] st = .err x w env st := rfl
@[simp] theorem sTryAs_ap (i : Nat) (sub : Str → Option Bool) (su : Str → W → DS) : sTryAs i b sub su env st = kTry i sub su (b env st) := by
  unfold sTryAs kTry
  cases b env st <;> rfl
@[simp] theorem kTry_go (i : Nat) (sub : Str → Option Bool) (su : Str → W → DS) (f : Fl) : kTry i sub su (.go f env st) = .go f env st := rfl
theorem kTry_err {i : Nat} {sub : Str → Option Bool} {su : Str → W → DS} {c : Str} {w : W} (h : sub c = some true) (hi : i < env.length) : kTry i sub su (.err c w env st) = unAt i (su c w (env.set i none) st) := by
  unfold kTry; simp only [h, if_pos hi]
@[simp] theorem unAt_go (i : Nat) (f : Fl) : unAt i (.go f env st) = .go f (env.set i none) st := rfl
/-! a def's end -/
def fnR (st0 : Store) : RsS → Res W
  | .go (.rt v) _ st' => gc st0 v st'
  | .go .nx _ st' => gc st0 .non st'
  | .err c w _ st' => .err c w st'
  | _ => .stuck
theorem fnDen_ap (k : Nat) (ws : List W) : fnDen k b ws st = fnR st (b (ws.map some ++ List.replicate (k - ws.length) none) st) := by
  unfold fnDen fnR
  split <;> rename_i h <;> simp only [h]
@[simp] theorem fnR_rt (v : W) : fnR st1 (.go (.rt v) env st) = gc st1 v st := rfl
@[simp] theorem fnR_nx : fnR st1 (.go .nx env st) = gc st1 .non st := rfl
@[simp] theorem fnR_err (c : Str) (w : W) : fnR st1 (.err c w env st) = .err c w st := rfl
end
/-! stores -/
/-- later, but for the list at p: what was there is there -/
structure Ext (p : Nat) (st st' : Store) : Prop where
  le : st.length ≤ st'.length
  keep : ∀ i, i < st.length → i ≠ p → st'[i]? = st[i]?
/-- the same, and nothing new -/
structure Kp (p : Nat) (st st' : Store) : Prop where
  len : st'.length = st.length
  keep : ∀ i, i ≠ p → st'[i]? = st[i]?
theorem Kp.ext {p : Nat} {st st' : Store} (h : Kp p st st') : Ext p st st' := ⟨by rw [h.len]; exact Nat.le_refl _, fun i _ hp => h.keep i hp⟩
theorem Ext.refl {p : Nat} {st : Store} : Ext p st st := ⟨Nat.le_refl _, fun _ _ _ => rfl⟩
theorem Kp.refl {p : Nat} {st : Store} : Kp p st st := ⟨rfl, fun _ _ => rfl⟩
theorem Ext.trans {p : Nat} {a b c : Store} (h : Ext p a b) (h' : Ext p b c) : Ext p a c :=
  ⟨Nat.le_trans h.le h'.le, fun i hi hp => (h'.keep i (Nat.lt_of_lt_of_le hi h.le) hp).trans (h.keep i hi hp)⟩
theorem Kp.trans {p : Nat} {a b c : Store} (h : Kp p a b) (h' : Kp p b c) : Kp p a c :=
  ⟨h'.len.trans h.len, fun i hp => (h'.keep i hp).trans (h.keep i hp)⟩
theorem Ext.app {p : Nat} {st : Store} (g : Store) : Ext p st (st ++ g) := ⟨by simp, fun i hi _ => List.getElem?_append_left hi⟩
theorem Ext.get {p i : Nat} {o : Ob} {st st' : Store} (h : Ext p st st') (e : st[i]? = some o) (hp : i ≠ p) : st'[i]? = some o := by
  rw [h.keep i (List.getElem?_eq_some_iff.mp e).1 hp, e]
theorem get_app {i : Nat} {o : Ob} {st : Store} (g : Store) (e : st[i]? = some o) : (st ++ g)[i]? = some o := by
  rw [List.getElem?_append_left (List.getElem?_eq_some_iff.mp e).1, e]
@[simp] theorem get_here (st : Store) (o : Ob) (g : Store) : (st ++ o :: g)[st.length]? = some o := by simp
@[simp] theorem get_here1 (st : Store) (o o1 : Ob) (g : Store) : (st ++ o :: o1 :: g)[st.length + 1]? = some o1 := by simp
@[simp] theorem get_here2 (st : Store) (o o1 o2 : Ob) (g : Store) : (st ++ o :: o1 :: o2 :: g)[st.length + 2]? = some o2 := by simp
/-- a list whose items need no store -/
def flatO : Ob → Prop | .lst ws => ∀ n, clBs n ws = true
theorem flatO.cl {o : Ob} (h : flatO o) (n : Nat) : clO n o = true := by
  cases o with
  | lst ws => exact h n
theorem gcx_ok {p : Nat} {st st' : Store} {v : W} (h : Ext p st st') (hp : ∀ o, p < st.length → st'[p]? = some o → flatO o) (hv : clB st.length v = true) : gc st v st' = .ok v (st'.take st.length) := by
  have g : GcOk st st' := fun i hi => by
    by_cases e : i = p
    · subst e
      have hl : i < st'.length := Nat.lt_of_lt_of_le hi h.le
      exact .inr ⟨st'[i], List.getElem?_eq_getElem hl, (hp _ hi (List.getElem?_eq_getElem hl)).cl _⟩
    · exact .inl (h.keep i hi e)
  unfold gc; rw [if_pos g, if_pos hv]
theorem Ext.take {p : Nat} {st st' : Store} (h : Ext p st st') : Kp p st (st'.take st.length) :=
  ⟨by simp [h.le], fun i hp => by
    rw [List.getElem?_take]
    split
    · rename_i hi; exact h.keep i hi hp
    · rename_i hi; rw [List.getElem?_eq_none (Nat.le_of_not_lt hi)]⟩
theorem gc_app {st g : Store} {v : W} (hv : clB st.length v = true) : gc st v (st ++ g) = .ok v st := by
  have e : GcOk st (st ++ g) := fun i hi => .inl (List.getElem?_append_left hi)
  unfold gc; rw [if_pos e, if_pos hv, List.take_left]
theorem gc_same {st : Store} {v : W} (hv : clB st.length v = true) : gc st v st = .ok v st := by
  have := gc_app (g := []) hv; rwa [List.append_nil] at this
theorem gc_new {p m : Nat} {st st' : Store} {ws : List W} (h : Ext p st st') (hp : ∀ o, p < st.length → st'[p]? = some o → flatO o) (hm : st.length ≤ m) (e : st'[m]? = some (.lst ws)) (hw : clBs st.length ws = true) : gc st (.loc m) st' = .ok (.loc st.length) (st'.take st.length ++ [.lst ws]) := by
  have g : GcOk st st' := fun i hi => by
    by_cases e : i = p
    · subst e
      have hl : i < st'.length := Nat.lt_of_lt_of_le hi h.le
      exact .inr ⟨st'[i], List.getElem?_eq_getElem hl, (hp _ hi (List.getElem?_eq_getElem hl)).cl _⟩
    · exact .inl (h.keep i hi e)
  have hv : ¬ clB st.length (.loc m) = true := by simp [clB]; omega
  unfold gc; rw [if_pos g, if_neg hv]
  simp only [e, if_pos hw]
theorem gc_newA {m : Nat} {st g : Store} {ws : List W} (hm : st.length ≤ m) (e : (st ++ g)[m]? = some (.lst ws)) (hw : clBs st.length ws = true) : gc st (.loc m) (st ++ g) = .ok (.loc st.length) (st ++ [.lst ws]) := by
  have := gc_new (p := st.length) (Ext.app g) (fun o h _ => absurd h (Nat.lt_irrefl _)) hm e hw
  rwa [List.take_left] at this
/-! loops -/
theorem forW_ok {chk : Store → Prop} {t : DT} {b : DS} (I : Nat → EnvW → Store → Prop) (hc : ∀ i env st, I i env st → chk st) : ∀ (ws : List W) (k : Nat) (env : EnvW) (st : Store),
    (∀ i w env st, ws[i]? = some w → I (k + i) env st → ∃ env1 st1 env2 st2, t w env st = some (env1, st1) ∧ b env1 st1 = .go .nx env2 st2 ∧ I (k + i + 1) env2 st2) → I k env st →
    ∃ env' st', forW chk t b ws env st = .go .nx env' st' ∧ I (k + ws.length) env' st'
  | [], k, env, st, _, h => ⟨env, st, by unfold forW; rw [if_pos (hc _ _ _ h)], h⟩
  | w :: ws, k, env, st, hs, h => by
    obtain ⟨env1, st1, env2, st2, e1, e2, h2⟩ := hs 0 w env st rfl h
    obtain ⟨env', st', e3, h3⟩ := forW_ok I hc ws (k + 1) env2 st2 (fun i w env st hw hI => by
      have := hs (i + 1) w env st (by simpa using hw) (by rwa [show k + (i + 1) = k + 1 + i by omega])
      rwa [show k + (i + 1) + 1 = k + 1 + i + 1 by omega] at this) h2
    refine ⟨env', st', ?_, ?_⟩
    · unfold forW
      rw [if_pos (hc _ _ _ h), e1]
      dsimp only
      rw [e2]; exact e3
    · rw [List.length_cons, show k + (ws.length + 1) = k + 1 + ws.length by omega]; exact h3
theorem lcW_ok {chk : Store → Prop} {env : EnvW} {t : DT} {e : D W} (J : Nat → List W → Store → Prop) (hc : ∀ i acc st, J i acc st → chk st) : ∀ (ws acc : List W) (st : Store),
    (∀ i w acc st, ws[i]? = some w → acc.length + ws.length ≤ acc.length + ws.length → J i acc st → ∃ env1 st1 y st3, t w env st = some (env1, st1) ∧ e env1 st1 = .ok y st3 ∧ J (i + 1) (acc ++ [y]) st3) → acc.length + ws.length ≤ sizeLine → J 0 acc st →
    ∃ l st', lcW chk env t dYes e ws acc st = some (acc ++ l, st') ∧ l.length = ws.length ∧ J ws.length (acc ++ l) st'
  | [], acc, st, _, _, h => ⟨[], st, by unfold lcW; rw [if_pos (hc _ _ _ h), List.append_nil], rfl, by simpa using h⟩
  | w :: ws, acc, st, hs, hl, h => by
    obtain ⟨env1, st1, y, st3, e1, e2, h2⟩ := hs 0 w acc st rfl (Nat.le_refl _) h
    simp only [List.length_cons] at hl
    obtain ⟨l, st', e3, hn, h3⟩ := lcW_ok (fun i => J (i + 1)) (fun i => hc (i + 1)) ws (acc ++ [y]) st3 (fun i w acc st hw _ hI => hs (i + 1) w acc st (by simpa using hw) (Nat.le_refl _) hI) (by simp; omega) h2
    refine ⟨y :: l, st', ?_, by simp [hn], ?_⟩
    · unfold lcW
      rw [if_pos (hc _ _ _ h), e1]
      dsimp only [dYes]
      rw [e2]
      dsimp only
      rw [if_pos (by omega), e3]; simp
    · simpa using h3
/-- each item by itself: the store stays -/
theorem lcW_map {chk : Store → Prop} {env : EnvW} {i : Nat} {e : D W} {st : Store} (f : W → W) (hc : chk st) {ws : List W} (hs : ∀ w ∈ ws, e (env.set i (some w)) st = .ok (f w) st) (hl : ws.length ≤ sizeLine) :
    lcW chk env (tName i) dYes e ws [] st = some (ws.map f, st) := by
  have key : ∀ (ws acc : List W), (∀ w ∈ ws, e (env.set i (some w)) st = .ok (f w) st) → acc.length + ws.length ≤ sizeLine → lcW chk env (tName i) dYes e ws acc st = some (acc ++ ws.map f, st) := by
    intro ws
    induction ws with
    | nil => intro acc _ _; unfold lcW; rw [if_pos hc]; simp
    | cons w ws ih =>
      intro acc hs hl
      simp only [List.length_cons] at hl
      unfold lcW
      rw [if_pos hc]
      dsimp only [tName, dYes]
      rw [hs w List.mem_cons_self]
      dsimp only
      rw [if_pos (by omega), ih (acc ++ [f w]) (fun w m => hs w (List.mem_cons_of_mem _ m)) (by simp; omega)]
      simp
  have := key ws [] hs (by simpa using hl)
  simpa using this
theorem kLc_map {env : EnvW} {i : Nat} {e : D W} {st : Store} {it : ItW} (f : W → W) (hc : it.Chk st) (hs : ∀ w ∈ it.items, e (env.set i (some w)) st = .ok (f w) st) (hl : it.items.length ≤ sizeLine) :
    kLc env (tName i) dYes e it st = .ok (.loc st.length) (st ++ [.lst (it.items.map f)]) := by
  unfold kLc; rw [lcW_map f hc hs hl]
theorem kLc_ok {env : EnvW} {i : Nat} {e : D W} {st : Store} {ws : List W} (J : Nat → List W → Store → Prop)
    (hs : ∀ k w acc st, ws[k]? = some w → J k acc st → ∃ y st3, e (env.set i (some w)) st = .ok y st3 ∧ J (k + 1) (acc ++ [y]) st3) (hl : ws.length ≤ sizeLine) (h : J 0 [] st) :
    ∃ l st', kLc env (tName i) dYes e ⟨ws, none⟩ st = .ok (.loc st'.length) (st' ++ [.lst l]) ∧ l.length = ws.length ∧ J ws.length l st' := by
  obtain ⟨l, st', e1, hn, h1⟩ := lcW_ok (chk := (ItW.mk ws none).Chk) (env := env) (t := tName i) (e := e) J (fun _ _ _ _ => by simp) ws [] st (fun k w acc st hw _ hJ => by
    obtain ⟨y, st3, e2, h2⟩ := hs k w acc st hw hJ
    exact ⟨_, _, y, st3, rfl, e2, h2⟩) (by simpa using hl) h
  refine ⟨l, st', ?_, hn, by simpa using h1⟩
  unfold kLc
  simp only [List.nil_append] at e1
  rw [e1]
theorem allO_of {α β : Type} (f : α → Option β) (g : α → β) : ∀ (l : List α), (∀ a ∈ l, f a = some (g a)) → allO (l.map f) = some (l.map g)
  | [], _ => rfl
  | a :: l, h => by
    show allO (f a :: l.map f) = _
    rw [h a List.mem_cons_self]
    show (allO (l.map f)).map _ = _
    rw [allO_of f g l (fun a m => h a (List.mem_cons_of_mem _ m))]; rfl
theorem allW_ok {st : Store} {n : Nat} {bs : List Bool} (h : st[n]? = some (.lst (bs.map W.bl))) : allW [.loc n] st = .ok (.bl (bs.all id)) st := by
  unfold allW bls lstW
  simp only [h, Option.bind_some, List.map_map]
  have e : allO (bs.map (blOf ∘ W.bl)) = some (bs.map id) := allO_of _ id _ fun _ _ => rfl
  rw [e]
  simp
end
end MP
namespace MP
open PySem PySem.Spec PyProof.Rows L2
open Classical
noncomputable section
/-! ### values without a store -/
def okS (x : Str) : Bool := decide (x.length ≤ 8192) && x.cps.toList.all (fun c => decide (c < 128))
theorem okS_iff {x : Str} : okS x = true ↔ x.length ≤ 8192 ∧ ∀ c ∈ x.cps.toList, c < 128 := by
  unfold okS; rw [Bool.and_eq_true, decide_eq_true_iff, List.all_eq_true]; simp only [decide_eq_true_eq]
theorem okS.ok {x : Str} (h : okS x = true) : PyData.strOk x = true := by
  obtain ⟨_, h⟩ := okS_iff.mp h
  unfold PyData.strOk
  rw [Array.all_eq_true]
  intro i hi
  have := h x.cps[i] (by simp)
  simp; omega
theorem okS.len {x : Str} (h : okS x = true) : x.length ≤ 8192 := (okS_iff.mp h).1
theorem okS.line {x : Str} (h : okS x = true) : x.length ≤ sizeLine := Nat.le_trans (okS_iff.mp h).1 (by decide)
def puB : Nat → W → Bool
  | 0, _ => false
  | n + 1, w => match w with
    | .non => true
    | .bl _ => true
    | .int _ => true
    | .str x => okS x
    | .tup ws => decide (ws.length ≤ 8192) && ws.all (puB n)
    | _ => false
def dat : Nat → W → PyData
  | 0, _ => .none
  | n + 1, w => match w with
    | .non => .none
    | .bl b => .bool b
    | .int i => .int i
    | .str x => .str x
    | .tup ws => .tuple (ws.map (dat n))
    | _ => .none
theorem datF_pu : ∀ (n : Nat) (w : W), puB n w = true → ∀ (m : Nat) (st : Store), n ≤ m → datF st m w = some (dat n w)
  | 0, _, h, _, _, _ => by simp [puB] at h
  | n + 1, w, h, 0, st, hm => by omega
  | n + 1, w, h, m + 1, st, hm => by
    cases w with
    | non => rfl
    | bl => rfl
    | int => rfl
    | str => rfl
    | tup ws =>
      simp only [puB, Bool.and_eq_true, List.all_eq_true] at h
      simp only [datF, dat]
      rw [allO_of _ (dat n) ws fun a ha => datF_pu n a (h.2 a ha) m st (by omega)]; rfl
    | fro ws => simp [puB] at h
    | loc k => simp [puB] at h
    | gl v => simp [puB] at h
    | rng i j => simp [puB] at h
theorem canAll {f : W → PyData} : ∀ {ws : List W}, (∀ w ∈ ws, (f w).canLay0 = true) → PyData.canLayAll0 (ws.map f) = true
  | [], _ => rfl
  | w :: ws, h => by
    rw [List.map_cons, PyData.canLayAll0.eq_2, h w List.mem_cons_self, canAll fun w m => h w (List.mem_cons_of_mem _ m)]; rfl
theorem depAll {f : W → PyData} {n : Nat} : ∀ {ws : List W}, (∀ w ∈ ws, (f w).depth ≤ n) → PyData.depthAll (ws.map f) ≤ n
  | [], _ => Nat.zero_le _
  | w :: ws, h => by
    rw [List.map_cons, PyData.depthAll.eq_2]
    exact Nat.max_le.mpr ⟨h w List.mem_cons_self, depAll fun w m => h w (List.mem_cons_of_mem _ m)⟩
theorem eqvAll_refl {f : W → PyData} : ∀ {ws : List W}, (∀ w ∈ ws, (f w).eqv (f w) = true) → PyData.eqvAll (ws.map f) (ws.map f) = true
  | [], _ => rfl
  | w :: ws, h => by
    rw [List.map_cons, PyData.eqvAll.eq_2, h w List.mem_cons_self, eqvAll_refl fun w m => h w (List.mem_cons_of_mem _ m)]; rfl
theorem can_pu : ∀ (n : Nat) (w : W), puB n w = true → (dat n w).canLay0 = true
  | 0, _, h => by simp [puB] at h
  | n + 1, w, h => by
    cases w with
    | str x => exact okS.ok h
    | tup ws =>
      simp only [puB, Bool.and_eq_true, List.all_eq_true] at h
      exact canAll fun a ha => can_pu n a (h.2 a ha)
    | _ => rfl
theorem dep_pu : ∀ (n : Nat) (w : W), puB n w = true → (dat n w).depth ≤ n
  | 0, _, h => by simp [puB] at h
  | n + 1, w, h => by
    cases w with
    | tup ws =>
      simp only [puB, Bool.and_eq_true, List.all_eq_true] at h
      simp only [dat]
      rw [PyData.depth.eq_2]
      exact Nat.succ_le_succ (depAll fun a ha => dep_pu n a (h.2 a ha))
    | _ => exact Nat.zero_le _
theorem eqv_pu : ∀ (n : Nat) (w : W), puB n w = true → (dat n w).eqv (dat n w) = true
  | 0, _, h => by simp [puB] at h
  | n + 1, w, h => by
    cases w with
    | tup ws =>
      simp only [puB, Bool.and_eq_true, List.all_eq_true] at h
      simp only [dat]
      rw [PyData.eqv.eq_8]
      exact eqvAll_refl fun a ha => eqv_pu n a (h.2 a ha)
    | bl b => simp only [dat]; rw [PyData.eqv.eq_2]; simp
    | int b => simp only [dat]; rw [PyData.eqv.eq_5]; simp
    | str b => simp only [dat]; rw [PyData.eqv.eq_6]; simp
    | non => rfl
    | _ => simp [puB] at h
mutual
theorem cl_pu (k : Nat) : ∀ (n : Nat) (w : W), puB n w = true → clB k w = true
  | 0, _, h => by simp [puB] at h
  | n + 1, w, h => by
    cases w with
    | tup ws =>
      simp only [puB, Bool.and_eq_true, List.all_eq_true] at h
      simp only [clB]
      exact cls_pu k n ws h.2
    | _ => first | rfl | simp [puB] at h
theorem cls_pu (k : Nat) : ∀ (n : Nat) (ws : List W), (∀ w ∈ ws, puB n w = true) → clBs k ws = true
  | n, [], _ => rfl
  | n, w :: ws, h => by
    simp only [clBs, Bool.and_eq_true]
    exact ⟨cl_pu k n w (h w List.mem_cons_self), cls_pu k n ws fun w m => h w (List.mem_cons_of_mem _ m)⟩
end
/-- depth enough for what the laws draw -/
abbrev pu (w : W) : Prop := puB 5 w = true
abbrev d5 (w : W) : PyData := dat 5 w
/-- u: the value w as it stands in the store -/
inductive Pic (st : Store) : W → W → Prop
  | pu (w : W) (h : pu w) : Pic st w w
  | ls (k : Nat) (ws : List W) (h : st[k]? = some (.lst ws)) (hl : ws.length ≤ 8192) (hw : ∀ w ∈ ws, pu w) : Pic st (.loc k) (.fro ws)
def dU : W → PyData
  | .fro ws => .list (ws.map d5)
  | w => d5 w
theorem dU_pu {w : W} (h : pu w) : dU w = d5 w := by cases w <;> first | rfl | exact nomatch (show false = true from h)
theorem Pic.dat {st : Store} {w u : W} (h : Pic st w u) (m : Nat) (hm : 6 ≤ m) : datF st m w = some (dU u) := by
  cases h with
  | pu _ h => rw [dU_pu h]; exact datF_pu 5 w h m st (by omega)
  | ls k ws h hl hw =>
    obtain ⟨m, rfl⟩ : ∃ m', m = m' + 1 := ⟨m - 1, by omega⟩
    simp only [datF, h, dU]
    rw [allO_of _ d5 ws fun a ha => datF_pu 5 a (hw a ha) m st (by omega)]; rfl
theorem Pic.shp {st : Store} {w u : W} (h : Pic st w u) : (dU u).canLay0 = true ∧ (dU u).depth ≤ 6 := by
  cases h with
  | pu _ h => rw [dU_pu h]; exact ⟨can_pu 5 w h, Nat.le_trans (dep_pu 5 w h) (by decide)⟩
  | ls k ws h hl hw =>
    simp only [dU]
    exact ⟨canAll fun a ha => can_pu 5 a (hw a ha), by rw [PyData.depth.eq_1]; exact Nat.succ_le_succ (depAll fun a ha => dep_pu 5 a (hw a ha))⟩
theorem Pic.refl {st : Store} {w u : W} (h : Pic st w u) : (dU u).eqv (dU u) = true := by
  cases h with
  | pu _ h => rw [dU_pu h]; exact eqv_pu 5 w h
  | ls k ws h hl hw =>
    simp only [dU]; rw [PyData.eqv.eq_7]
    exact eqvAll_refl fun a ha => eqv_pu 5 a (hw a ha)
theorem shaped_of {d : PyData} (h : d.canLay0 = true ∧ d.depth ≤ 64) : SeqAt.shaped d = true := by
  rw [SeqAt.shaped.eq_1, h.1]; simp [h.2]
theorem eqW_of {st : Store} {a b : W} {d e : PyData} (h : datF st 66 a = some d) (h' : datF st 66 b = some e) (s : SeqAt.shaped d = true) (s' : SeqAt.shaped e = true) : eqW a b st = .ok (.bl (d.eqv e)) st := by
  unfold eqW; simp only [h, h', if_pos (And.intro s s')]
theorem neW_of {st : Store} {a b : W} {d e : PyData} (h : datF st 66 a = some d) (h' : datF st 66 b = some e) (s : SeqAt.shaped d = true) (s' : SeqAt.shaped e = true) : neW a b st = .ok (.bl (!d.eqv e)) st := by
  unfold neW; simp only [h, h', if_pos (And.intro s s')]
theorem pic_eq {st : Store} {a b u v : W} (h : Pic st a u) (h' : Pic st b v) : eqW a b st = .ok (.bl ((dU u).eqv (dU v))) st :=
  eqW_of (h.dat 66 (by decide)) (h'.dat 66 (by decide)) (shaped_of ⟨h.shp.1, by have := h.shp.2; omega⟩) (shaped_of ⟨h'.shp.1, by have := h'.shp.2; omega⟩)
theorem pic_ne {st : Store} {a b u v : W} (h : Pic st a u) (h' : Pic st b v) : neW a b st = .ok (.bl (!(dU u).eqv (dU v))) st :=
  neW_of (h.dat 66 (by decide)) (h'.dat 66 (by decide)) (shaped_of ⟨h.shp.1, by have := h.shp.2; omega⟩) (shaped_of ⟨h'.shp.1, by have := h'.shp.2; omega⟩)
theorem pu_str {x : Str} (h : okS x = true) : pu (.str x) := h
theorem eqW_str {st : Store} {x y : Str} (h : okS x = true) (h' : okS y = true) : eqW (.str x) (.str y) st = .ok (.bl (x == y)) st := by
  rw [pic_eq (.pu _ (pu_str h)) (.pu _ (pu_str h'))]
  simp only [dU, d5, dat, PyData.eqv.eq_6]
theorem neW_str {st : Store} {x y : Str} (h : okS x = true) (h' : okS y = true) : neW (.str x) (.str y) st = .ok (.bl (!(x == y))) st := by
  rw [pic_ne (.pu _ (pu_str h)) (.pu _ (pu_str h'))]
  simp only [dU, d5, dat, PyData.eqv.eq_6]
@[simp] theorem eqW_int {st : Store} {x y : Int} : eqW (.int x) (.int y) st = .ok (.bl (x == y)) st := by
  rw [pic_eq (.pu _ rfl) (.pu _ rfl)]
  simp only [dU, d5, dat, PyData.eqv.eq_5]
@[simp] theorem eqW_bl {st : Store} {x y : Bool} : eqW (.bl x) (.bl y) st = .ok (.bl (x == y)) st := by
  rw [pic_eq (.pu _ rfl) (.pu _ rfl)]
  simp only [dU, d5, dat, PyData.eqv.eq_2]
@[simp] theorem neW_bl {st : Store} {x y : Bool} : neW (.bl x) (.bl y) st = .ok (.bl (!(x == y))) st := by
  rw [pic_ne (.pu _ rfl) (.pu _ rfl)]
  simp only [dU, d5, dat, PyData.eqv.eq_2]
/-! what is asked of a value -/
def tyU : W → String
  | .non => "NoneType"
  | .bl _ => "bool"
  | .int _ => "int"
  | .str _ => "str"
  | .tup _ => "tuple"
  | .rng _ _ => "NoneType"
  | _ => "list"
theorem Pic.ty {st : Store} {w u : W} (h : Pic st w u) : tyN st w = some (tyU u) := by
  cases h with
  | pu _ h => cases w <;> first | rfl | exact nomatch (show false = true from h)
  | ls k ws h hl hw => simp only [tyN, h, tyU]
theorem isi_of {st : Store} {w : W} {t n : String} {b : Bool} (h : tyN st w = some t) (hk : kitB t n = some b) : isiW [w, .gl (.ty n)] st = .ok (.bl b) st := by
  unfold isiW; simp only [h, hk]
theorem isi2_of {st : Store} {w : W} {t A B : String} {x y : Bool} (h : tyN st w = some t) (hA : kitB t A = some x) (hB : kitB t B = some y) : isi2W A B w st = .ok (.bl (x || y)) st := by
  unfold isi2W; simp only [h, hA, hB]
theorem kB_str (u : W) : kitB (tyU u) "str" = some (match u with | .str _ => true | _ => false) := by cases u <;> rfl
theorem kB_tup (u : W) : kitB (tyU u) "tuple" = some (match u with | .tup _ => true | _ => false) := by cases u <;> rfl
theorem kB_list (u : W) : kitB (tyU u) "list" = some (match u with | .fro _ => true | .loc _ => true | .gl _ => true | _ => false) := by cases u <;> rfl
theorem kB_bool (u : W) : kitB (tyU u) "bool" = some (match u with | .bl _ => true | _ => false) := by cases u <;> rfl
theorem kB_int (u : W) : kitB (tyU u) "int" = some (match u with | .bl _ => true | .int _ => true | _ => false) := by cases u <;> rfl
def isS : W → Bool | .str _ => true | _ => false
def isT : W → Bool | .tup _ => true | _ => false
def isL : W → Bool | .fro _ => true | .loc _ => true | .gl _ => true | _ => false
theorem pic_isS {st : Store} {w u : W} (h : Pic st w u) : isiW [w, .gl (.ty "str")] st = .ok (.bl (isS u)) st := isi_of h.ty (by rw [kB_str]; cases u <;> rfl)
theorem pic_isT {st : Store} {w u : W} (h : Pic st w u) : isiW [w, .gl (.ty "tuple")] st = .ok (.bl (isT u)) st := isi_of h.ty (by rw [kB_tup]; cases u <;> rfl)
theorem pic_isL {st : Store} {w u : W} (h : Pic st w u) : isiW [w, .gl (.ty "list")] st = .ok (.bl (isL u)) st := isi_of h.ty (by rw [kB_list]; cases u <;> rfl)
theorem pic_is2 {st : Store} {w u : W} (h : Pic st w u) : isi2W "tuple" "list" w st = .ok (.bl (isT u || isL u)) st := isi2_of h.ty (by rw [kB_tup]; cases u <;> rfl) (by rw [kB_list]; cases u <;> rfl)
/-! places -/
theorem atI_nat {α : Type} {l : List α} {i : Nat} (h : i < l.length) : atI l (i : Int) = l[i]? := by
  unfold atI ixN
  rw [if_pos (by omega), if_pos (by omega)]
  simp
theorem atI_int {α : Type} {l : List α} {i : Int} (h0 : 0 ≤ i) (h : i < l.length) : atI l i = l[i.toNat]? := by
  have := atI_nat (l := l) (i := i.toNat) (by omega)
  rwa [Int.toNat_of_nonneg h0] at this
theorem atI_last {α : Type} {l : List α} (h : 0 < l.length) : atI l (-1) = l[l.length - 1]? := by
  unfold atI ixN
  rw [if_neg (by omega), if_pos (by omega)]
  have : ((-1 : Int) + (l.length : Int)).toNat = l.length - 1 := by omega
  simp [this]
theorem ix_mem {st : Store} {a : W} {ws : List W} {i : Int} (h : seqW st a = some ws) (h0 : 0 ≤ i) (hi : i < ws.length) : ∃ w, w ∈ ws ∧ ws[i.toNat]? = some w ∧ ixW a (.int i) st = .ok w st := by
  have hl : i.toNat < ws.length := by omega
  refine ⟨ws[i.toNat], List.getElem_mem hl, List.getElem?_eq_getElem hl, ?_⟩
  unfold ixW
  cases a with
  | str z => simp [seqW] at h
  | _ => simp only [h, atI_int h0 hi, List.getElem?_eq_getElem hl]
theorem ix_str {x : Str} {i : Int} (hx : x.length ≤ sizeLine) (h0 : 0 ≤ i) (hi : i < x.length) : ∃ c, x.cps.toList[i.toNat]? = some c ∧ c ∈ x.cps.toList ∧ ∀ st, ixW (.str x) (.int i) st = .ok (.str ⟨#[c]⟩) st := by
  have hl : i.toNat < x.cps.toList.length := by simp [Str.length] at hi; simp; omega
  refine ⟨x.cps.toList[i.toNat], List.getElem?_eq_getElem hl, List.getElem_mem hl, fun st => ?_⟩
  have hi' : i < x.cps.toList.length := by omega
  unfold ixW
  simp only [if_pos hx, atI_int h0 hi', List.getElem?_eq_getElem hl]
theorem ix_strL {x : Str} (hx : x.length ≤ sizeLine) (h : 0 < x.length) : ∃ c, x.cps.toList[x.length - 1]? = some c ∧ c ∈ x.cps.toList ∧ ∀ st, ixW (.str x) (.int (-1)) st = .ok (.str ⟨#[c]⟩) st := by
  have e : x.cps.toList.length = x.length := by simp [Str.length]
  have hl : x.cps.toList.length - 1 < x.cps.toList.length := by omega
  refine ⟨x.cps.toList[x.cps.toList.length - 1], by rw [← e]; exact List.getElem?_eq_getElem hl, List.getElem_mem hl, fun st => ?_⟩
  unfold ixW
  simp only [if_pos hx, atI_last (l := x.cps.toList) (by omega), List.getElem?_eq_getElem hl]
theorem in_sign {st : Store} {c : Nat} {z : Str} : inW false (.str ⟨#[c]⟩) (.str z) st = .ok (.bl (decide (c ∈ z.cps.toList))) st := rfl
theorem len_str {st : Store} {x : Str} (h : x.length ≤ sizeLine) : lenW [.str x] st = .ok (.int x.length) st := by unfold lenW; simp only [if_pos h]
theorem len_seq {st : Store} {a : W} {ws : List W} (h : seqW st a = some ws) : lenW [a] st = .ok (.int ws.length) st := by
  unfold lenW
  cases a with
  | str z => simp [seqW] at h
  | _ => simp only [h]
theorem cut_to {ws : List W} {k : Nat} : cutW ws none (some (k : Int)) = ws.take k := by
  unfold cutW HT.sIx
  simp only [List.drop_zero, Nat.sub_zero]
  rw [if_neg (by omega)]
  simp only [Int.toNat_natCast]
  rw [← List.take_take, List.take_length]
theorem cut_from {ws : List W} {k : Nat} : cutW ws (some (k : Int)) none = ws.drop k := by
  unfold cutW HT.sIx
  simp only
  rw [if_neg (by omega)]
  simp only [Int.toNat_natCast]
  by_cases h : k ≤ ws.length
  · rw [Nat.min_eq_left h, List.take_of_length_le (by simp)]
  · rw [Nat.min_eq_right (by omega), List.drop_of_length_le (Nat.le_refl _), List.drop_of_length_le (by omega)]; simp
theorem lcW_mapB {β : Type} {chk : Store → Prop} {env : EnvW} {i : Nat} {e : D W} {st : Store} (k g : β → W) (hc : chk st) : ∀ (l : List β) (acc : List W), (∀ b ∈ l, e (env.set i (some (k b))) st = .ok (g b) st) → acc.length + l.length ≤ sizeLine →
    lcW chk env (tName i) dYes e (l.map k) acc st = some (acc ++ l.map g, st)
  | [], acc, _, _ => by unfold lcW; simp only [List.map_nil]; rw [if_pos hc]; simp
  | b :: l, acc, hs, hl => by
    simp only [List.length_cons] at hl
    simp only [List.map_cons]
    unfold lcW
    rw [if_pos hc]
    dsimp only [tName, dYes]
    rw [hs b List.mem_cons_self]
    dsimp only
    rw [if_pos (by omega), lcW_mapB k g hc l (acc ++ [g b]) (fun w m => hs w (List.mem_cons_of_mem _ m)) (by simp; omega)]
    simp
theorem kLc_mapB {β : Type} {env : EnvW} {i : Nat} {e : D W} {st : Store} {src : Option Nat} (k g : β → W) (l : List β) (hc : (ItW.mk (l.map k) src).Chk st) (hs : ∀ b ∈ l, e (env.set i (some (k b))) st = .ok (g b) st) (hl : l.length ≤ sizeLine) :
    kLc env (tName i) dYes e ⟨l.map k, src⟩ st = .ok (.loc st.length) (st ++ [.lst (l.map g)]) := by
  unfold kLc
  simp only
  rw [lcW_mapB k g hc l [] hs (by simpa using hl)]
  simp
theorem all_here {β : Type} {st : Store} {l : List β} {g : β → Bool} : allW [.loc st.length] (st ++ [.lst (l.map fun b => W.bl (g b))]) = .ok (.bl (l.all g)) (st ++ [.lst (l.map fun b => W.bl (g b))]) := by
  have : (st ++ [.lst (l.map fun b => W.bl (g b))])[st.length]? = some (.lst ((l.map g).map W.bl)) := by simp
  rw [allW_ok this]; simp [List.all_map]
theorem puB_mono : ∀ {n m : Nat} {w : W}, puB n w = true → n ≤ m → puB m w = true
  | 0, _, _, h, _ => by simp [puB] at h
  | n + 1, 0, _, _, hm => by omega
  | n + 1, m + 1, w, h, hm => by
    cases w with
    | tup ws =>
      simp only [puB, Bool.and_eq_true, List.all_eq_true] at h ⊢
      exact ⟨h.1, fun a ha => puB_mono (h.2 a ha) (by omega)⟩
    | str x => exact h
    | _ => first | rfl | simp [puB] at h
theorem pu_items {ws : List W} (h : pu (.tup ws)) : ws.length ≤ 8192 ∧ ∀ w ∈ ws, puB 4 w = true := by
  have h' : (decide (ws.length ≤ 8192) && ws.all (puB 4)) = true := h
  rw [Bool.and_eq_true, decide_eq_true_iff, List.all_eq_true] at h'
  exact h'
end
end MP
namespace K03
open PySem PySem.Spec PyProof.Rows L2 MP
noncomputable section
abbrev top (i : Nat) : Stmt := PySem.Challenge.pw_rootward_k03_numbers_of_labels_and_names.main.body.getD i (.Pass ⟨0, 0, 0, 0⟩)
def c_WILD : Str := "*"
def c_ENDS : Str := "0123456789abcdefghijklmnopqrstuvwxyz"
def c_INNER : Str := "-0123456789abcdefghijklmnopqrstuvwxyz"
structure Txt (P : Program) (w : World) (K : PySem.W.Frag) (mg : Str → Option Value) (base : Heap) where
  D_rebuilt : DefF K mg "rebuilt" "rebuilt" (top 5) ["value"]
  D_is_label : DefF K mg "is_label" "is_label" (top 11) ["value"]
  D__is_plain : DefF K mg "_is_plain" "_is_plain" (top 12) ["text"]
  D_labels_of : DefF K mg "labels_of" "labels_of" (top 13) ["length"]
  D_names_of : DefF K mg "names_of" "names_of" (top 14) ["size"]
  D_numbers_of_names : DefF K mg "numbers_of_names" "numbers_of_names" (top 15) ["most"]
  D_nth_label : DefF K mg "nth_label" "nth_label" (top 16) ["index"]
  D__spelled : DefF K mg "_spelled" "_spelled" (top 17) ["index", "length"]
  D_label_index : DefF K mg "label_index" "label_index" (top 18) ["label"]
  D_label_but : DefF K mg "label_but" "label_but" (top 19) ["labels"]
  D__law_pot : DefF K mg "_law_pot" "_law_pot" (top 21) ["_law_script", "_law_k"]
  D__law_take : DefF K mg "_law_take" "_law_take" (top 22) ["_law_pot_here", "_law_many_here"]
  D__law_same : DefF K mg "_law_same" "_law_same" (top 23) ["_law_told", "_law_due"]
  D__law_label : DefF K mg "_law_label" "_law_label" (top 24) ["_law_pot_here"]
  D__law_odd : DefF K mg "_law_odd" "_law_odd" (top 25) ["_law_pot_here"]
  D__law_many : DefF K mg "_law_many" "_law_many" (top 26) ["_law_length"]
  D__law_names_of : DefF K mg "_law_names_of" "_law_names_of" (top 27) ["_law_most"]
  D__law_refused : DefF K mg "_law_refused" "_law_refused" (top 28) ["_law_way", "_law_value"]
  D__law_indexes_right : DefF K mg "_law_indexes_right" "_law_indexes_right" (top 29) ["_law_pot_here"]
  D__law_first_labels : DefF K mg "_law_first_labels" "_law_first_labels" (top 30) []
  D__law_but_right : DefF K mg "_law_but_right" "_law_but_right" (top 31) ["_law_pot_here"]
  D__law_counts_right : DefF K mg "_law_counts_right" "_law_counts_right" (top 32) ["_law_pot_here", "_law_whole"]
  D__law_refusals_right : DefF K mg "_law_refusals_right" "_law_refusals_right" (top 33) ["_law_pot_here"]
  D_law : DefF K mg "law" "law" (top 34) ["_law_script"]
  k_nth_label : ∀ (s : Shared) (ws : List Value), K.In s.heap → ws.length = (["index"] : List Str).length → BindsTo s D_nth_label.fd ⟨[], (["index"] : List Str).zip ws⟩ ((["index"] : List Str).zip ws)
  k_label_index : ∀ (s : Shared) (ws : List Value), K.In s.heap → ws.length = (["label"] : List Str).length → BindsTo s D_label_index.fd ⟨[], (["label"] : List Str).zip ws⟩ ((["label"] : List Str).zip ws)
  k_label_but : ∀ (s : Shared) (ws : List Value), K.In s.heap → ws.length = (["labels"] : List Str).length → BindsTo s D_label_but.fd ⟨[], (["labels"] : List Str).zip ws⟩ ((["labels"] : List Str).zip ws)
  k_labels_of : ∀ (s : Shared) (ws : List Value), K.In s.heap → ws.length = (["length"] : List Str).length → BindsTo s D_labels_of.fd ⟨[], (["length"] : List Str).zip ws⟩ ((["length"] : List Str).zip ws)
  k_names_of : ∀ (s : Shared) (ws : List Value), K.In s.heap → ws.length = (["size"] : List Str).length → BindsTo s D_names_of.fd ⟨[], (["size"] : List Str).zip ws⟩ ((["size"] : List Str).zip ws)
  E_TreeError : ErF P w K mg base "TreeError"
  E_InvalidLabel : ErF P w K mg base "InvalidLabel"
  E_InvalidNumber : ErF P w K mg base "InvalidNumber"
  c_WILD : ∃ t, mg "WILD" = some (.str c_WILD t)
  c_LONGEST : ∃ t, mg "LONGEST" = some (.int 20 t)
  c_ENDS : ∃ t, mg "ENDS" = some (.str c_ENDS t)
  c_INNER : ∃ t, mg "INNER" = some (.str c_INNER t)
  n_abs : mg "abs" = none
  n_all : mg "all" = none
  n_bool : mg "bool" = none
  n_divmod : mg "divmod" = none
  n_int : mg "int" = none
  n_isinstance : mg "isinstance" = none
  n_len : mg "len" = none
  n_list : mg "list" = none
  n_max : mg "max" = none
  n_min : mg "min" = none
  n_range : mg "range" = none
  n_str : mg "str" = none
  n_sum : mg "sum" = none
  n_tuple : mg "tuple" = none
  sub_InvalidLabel : ∀ q ∈ ([("TreeError", false), ("InvalidLabel", true), ("InvalidNumber", false)] : List (Str × Bool)), ∃ C, mg q.1 = some (.ref C) ∧ PySem.W.exmOne K (.ref C) (.ref E_InvalidLabel.C) = some q.2 ∧ XfC K C ∧ PySem.W.findIn K (.ref C) ("value" : Str) = some none
  sub_InvalidNumber : ∀ q ∈ ([("TreeError", false), ("InvalidLabel", false), ("InvalidNumber", true)] : List (Str × Bool)), ∃ C, mg q.1 = some (.ref C) ∧ PySem.W.exmOne K (.ref C) (.ref E_InvalidNumber.C) = some q.2 ∧ XfC K C ∧ PySem.W.findIn K (.ref C) ("value" : Str) = some none
section
variable {P : Program} {w : World} {K : PySem.W.Frag} {mg : Str → Option Value} {base : Heap}
/-! rebuilt -/
theorem sc_rebuilt : FnScope ["value", "part"] ["value"] (defScope (top 5)) := ⟨rfl, rfl, rfl, by decide +kernel, rfl, by decide +kernel, by decide +kernel⟩
def b_rebuilt (rec : List W → Store → Res W) : DS := (sSeq (sIf (dBool (dApp isiW (dCons (dVar 0) (dCons (dC (.gl (.ty "list"))) dNil))))
    (sRet (dLc (dIt (dVar 0)) [1] (tName 1) dYes (dCall 1 rec (dCons (dVar 1) dNil))))
    sNil)
    (sSeq (sIf (dBool (dApp isiW (dCons (dVar 0) (dCons (dC (.gl (.ty "tuple"))) dNil))))
    (sRet (dApp tupleW (dCons (dLc (dIt (dVar 0)) [1] (tName 1) dYes (dCall 1 rec (dCons (dVar 1) dNil))) dNil)))
    sNil)
    (sRet (dVar 0))))
def d_rebuilt : Nat → List W → Store → Res W
  | 0 => fun _ _ => .stuck
  | n + 1 => fnDen 2 (b_rebuilt (d_rebuilt n))
def fn_rebuilt (T : Txt P w K mg base) : (n : Nat) → FnF P w K mg base "rebuilt" ["value"] (0 + n) 1 (d_rebuilt n)
  | 0 => ⟨T.D_rebuilt.f, T.D_rebuilt.fd, fn_stuck, T.D_rebuilt.m, T.D_rebuilt.F.kp, T.D_rebuilt.b⟩
  | n + 1 => ⟨T.D_rebuilt.f, T.D_rebuilt.fd, fn_ok (k := 0 + n) T.D_rebuilt.F sc_rebuilt (fun cdv A outer s H E hr => (is_cons (is_if (it_val (ie_isi rfl T.n_isinstance (ia_cons (ie_var 0) (ia_cons (ie_ty (T := "list") rfl T.n_list (by decide +kernel)) ia_nil))))
    (is_one (is_ret (ie_lc (own := [("part", 1)]) rfl sc_rebuilt.nd (ii_val (ie_var 0)) (blkOk_by (N := ["value", "part"]) (sc := defScope (top 5)) (own := [("part", 1)]) (by decide +kernel)) (fun _ _ _ _ _ => (ig_name (i := 1) (by decide) ExOk.none sc_rebuilt.nd rfl (.inl rfl))) (fun _ _ _ _ _ => (ie_callF (fn_rebuilt T n) (hr) takes0 (ia_cons (ie_var 1) ia_nil))))))
    is_nil)
    (is_cons (is_if (it_val (ie_isi rfl T.n_isinstance (ia_cons (ie_var 0) (ia_cons (ie_ty (T := "tuple") rfl T.n_tuple (by decide +kernel)) ia_nil))))
    (is_one (is_ret (ie_tuple rfl T.n_tuple (ia_cons (ie_lc (own := [("part", 1)]) rfl sc_rebuilt.nd (ii_val (ie_var 0)) (blkOk_by (N := ["value", "part"]) (sc := defScope (top 5)) (own := [("part", 1)]) (by decide +kernel)) (fun _ _ _ _ _ => (ig_name (i := 1) (by decide) ExOk.none sc_rebuilt.nd rfl (.inl rfl))) (fun _ _ _ _ _ => (ie_callF (fn_rebuilt T n) (hr) takes0 (ia_cons (ie_var 1) ia_nil)))) ia_nil))))
    is_nil)
    (is_one (is_ret (ie_var 0)))))), T.D_rebuilt.m, T.D_rebuilt.F.kp, T.D_rebuilt.b⟩
/-! _is_plain -/
theorem sc__is_plain : FnScope ["text"] ["text"] (defScope (top 12)) := ⟨rfl, rfl, rfl, by decide +kernel, rfl, by decide +kernel, by decide +kernel⟩
def b__is_plain : DS := (sSeq (sIf (dNot (dBool (dChain leW leW (dC (.int 1)) (dApp lenW (dCons (dVar 0) dNil)) (dC (.int 20)))))
    (sRet (dC (.bl false)))
    sNil)
    (sRet (dAndV (dOp eqW (dBm tyS stripW (dVar 0) (dCons (dC (.str c_INNER)) dNil)) (dC (.str ""))) (dAndV (dOp (inW false) (dOp ixW (dVar 0) (dC (.int 0))) (dC (.str c_ENDS))) (dOp (inW false) (dOp ixW (dVar 0) (dUn negW (dC (.int 1)))) (dC (.str c_ENDS)))))))
def d__is_plain : List W → Store → Res W := fnDen 1 b__is_plain
def fn__is_plain (T : Txt P w K mg base) : FnF P w K mg base "_is_plain" ["text"] 1 1 d__is_plain :=
  ⟨T.D__is_plain.f, T.D__is_plain.fd, fn_ok (k := 0) T.D__is_plain.F sc__is_plain (fun cdv A outer s H E hr => (is_cons (is_if (it_not (it_lele ie_int (ie_len rfl T.n_len (ia_cons (ie_var 0) ia_nil)) (ie_gint (i := 20) T.c_LONGEST.choose_spec)))
    (is_one (is_ret ie_bl))
    is_nil)
    (is_one (is_ret (ie_and (ie_eq hr (ie_strip (ie_var 0) (ia_cons (ie_gstr (i := c_INNER) T.c_INNER.choose_spec) ia_nil)) ie_str) (ie_and (ie_in (ie_ix (ie_var 0) ie_int) (ie_gstr (i := c_ENDS) T.c_ENDS.choose_spec)) (ie_one (ie_in (ie_ix (ie_var 0) (ie_neg ie_int)) (ie_gstr (i := c_ENDS) T.c_ENDS.choose_spec))))))))), T.D__is_plain.m, T.D__is_plain.F.kp, T.D__is_plain.b⟩
/-! is_label -/
theorem sc_is_label : FnScope ["value"] ["value"] (defScope (top 11)) := ⟨rfl, rfl, rfl, by decide +kernel, rfl, by decide +kernel, by decide +kernel⟩
def b_is_label : DS := (sSeq (sIf (dNot (dBool (dApp isiW (dCons (dVar 0) (dCons (dC (.gl (.ty "str"))) dNil)))))
    (sRet (dC (.bl false)))
    sNil)
    (sRet (dOrV (dOp eqW (dVar 0) (dC (.str c_WILD))) (dCall 1 d__is_plain (dCons (dVar 0) dNil)))))
def d_is_label : List W → Store → Res W := fnDen 1 b_is_label
def fn_is_label (T : Txt P w K mg base) : FnF P w K mg base "is_label" ["value"] 2 1 d_is_label :=
  ⟨T.D_is_label.f, T.D_is_label.fd, fn_ok (k := 1) T.D_is_label.F sc_is_label (fun cdv A outer s H E hr => (is_cons (is_if (it_not (it_val (ie_isi rfl T.n_isinstance (ia_cons (ie_var 0) (ia_cons (ie_ty (T := "str") rfl T.n_str (by decide +kernel)) ia_nil)))))
    (is_one (is_ret ie_bl))
    is_nil)
    (is_one (is_ret (ie_or (ie_eq hr (ie_var 0) (ie_gstr (i := c_WILD) T.c_WILD.choose_spec)) (ie_one (ie_callF (fn__is_plain T) (hr.mono (by decide)) (takes_of rfl rfl rfl rfl) (ia_cons (ie_var 0) ia_nil)))))))), T.D_is_label.m, T.D_is_label.F.kp, T.D_is_label.b⟩
/-! labels_of -/
theorem sc_labels_of : FnScope ["length", "number", "_"] ["length"] (defScope (top 13)) := ⟨rfl, rfl, rfl, by decide +kernel, rfl, by decide +kernel, by decide +kernel⟩
def b_labels_of : DS := (sSeq (sIf (dBool (dOp ltW (dVar 0) (dC (.int 0))))
    (sRaise "InvalidNumber" (dCons (dVar 0) dNil))
    sNil)
    (sSeq (sIf (dOr (dBool (dOp eqW (dVar 0) (dC (.int 0)))) (dBool (dOp gtW (dVar 0) (dC (.int 20)))))
    (sRet (dC (.int 0)))
    sNil)
    (sSeq (sAsg (dApp lenW (dCons (dC (.str c_ENDS)) dNil)) (tName 1))
    (sSeq (sIf (dBool (dOp gtW (dVar 0) (dC (.int 1))))
    (sAsg (dOp mulW (dVar 1) (dApp lenW (dCons (dC (.str c_ENDS)) dNil))) (tName 1))
    sNil)
    (sSeq (sFor (dRange1 (dCons (dOp subW (dVar 0) (dC (.int 2))) dNil)) (tName 2)
    (sAsg (dOp mulW (dVar 1) (dApp lenW (dCons (dC (.str c_INNER)) dNil))) (tName 1)))
    (sRet (dVar 1)))))))
def d_labels_of : List W → Store → Res W := fnDen 3 b_labels_of
def fn_labels_of (T : Txt P w K mg base) : FnF P w K mg base "labels_of" ["length"] 3 1 d_labels_of :=
  ⟨T.D_labels_of.f, T.D_labels_of.fd, fn_ok (k := 2) T.D_labels_of.F sc_labels_of (fun cdv A outer s H E hr => (is_cons (is_if (it_lt (ie_var 0) ie_int)
    (is_one (is_raiseF T.E_InvalidNumber (hr.mono (by decide)) (takes_of rfl rfl rfl rfl) (ia_cons (ie_var 0) ia_nil)))
    is_nil)
    (is_cons (is_if (it_w (iw_or (it_eq hr (ie_var 0) ie_int) (iw_or1 (it_gt (ie_var 0) (ie_gint (i := 20) T.c_LONGEST.choose_spec)))))
    (is_one (is_ret ie_int))
    is_nil)
    (is_cons (is_set (i := 1) ExOk.none sc_labels_of.nd rfl (.inl rfl) (ie_len rfl T.n_len (ia_cons (ie_gstr (i := c_ENDS) T.c_ENDS.choose_spec) ia_nil)))
    (is_cons (is_if (it_gt (ie_var 0) ie_int)
    (is_one (is_set (i := 1) ExOk.none sc_labels_of.nd rfl (.inl rfl) (ie_mul (ie_var 1) (ie_len rfl T.n_len (ia_cons (ie_gstr (i := c_ENDS) T.c_ENDS.choose_spec) ia_nil)))))
    is_nil)
    (is_cons (is_for (vs := [2]) (passes_of rfl) rfl (ii_range1 rfl T.n_range (ia_cons (ie_sub (ie_var 0) ie_int) ia_nil)) (ig_name (i := 2) (by decide) ExOk.none sc_labels_of.nd rfl (.inl rfl))
    (is_one (is_set (i := 1) ExOk.none sc_labels_of.nd rfl (.inl rfl) (ie_mul (ie_var 1) (ie_len rfl T.n_len (ia_cons (ie_gstr (i := c_INNER) T.c_INNER.choose_spec) ia_nil))))))
    (is_one (is_ret (ie_var 1))))))))), T.D_labels_of.m, T.D_labels_of.F.kp, T.D_labels_of.b⟩
/-! numbers_of_names -/
theorem sc_numbers_of_names : FnScope ["most", "many", "numbers", "room", "lengths", "length"] ["most"] (defScope (top 15)) := ⟨rfl, rfl, rfl, by decide +kernel, rfl, by decide +kernel, by decide +kernel⟩
def b_numbers_of_names : DS := (sSeq (sAsg (dLc (dRange1 (dCons (dOp addW (dC (.int 20)) (dC (.int 1))) dNil)) [5] (tName 5) dYes (dCall 1 d_labels_of (dCons (dVar 5) dNil))) (tName 1))
    (sSeq (sAsg (dLst (dCons (dC (.int 0)) (dCons (dC (.int 1)) dNil))) (tName 2))
    (sSeq (sWhile (dBool (dOp leW (dApp lenW (dCons (dVar 2) dNil)) (dVar 0)))
    (sSeq (sAsg (dOp subW (dApp lenW (dCons (dVar 2) dNil)) (dC (.int 1))) (tName 3))
    (sSeq (sAsg (dApp rngW (dCons (dC (.int 1)) (dCons (dOp addW (dApp minW (dCons (dC (.int 20)) (dCons (dVar 3) dNil))) (dC (.int 1))) dNil))) (tName 4))
    (sExpr (dBm tyL appendW (dVar 2) (dCons (dApp sumW (dCons (dLc (dIt (dVar 4)) [5] (tName 5) dYes (dOp mulW (dOp ixW (dVar 1) (dVar 5)) (dOp ixW (dVar 2) (dOp subW (dVar 3) (dVar 5))))) dNil)) dNil))))))
    (sRet (dSl (dVar 2) dNoPart (dPart (dOp addW (dVar 0) (dC (.int 1)))))))))
def d_numbers_of_names : List W → Store → Res W := fnDen 6 b_numbers_of_names
def fn_numbers_of_names (T : Txt P w K mg base) : FnF P w K mg base "numbers_of_names" ["most"] 4 1 d_numbers_of_names :=
  ⟨T.D_numbers_of_names.f, T.D_numbers_of_names.fd, fn_ok (k := 3) T.D_numbers_of_names.F sc_numbers_of_names (fun cdv A outer s H E hr => (is_cons (is_set (i := 1) ExOk.none sc_numbers_of_names.nd rfl (.inr rfl) (ie_lc (own := [("length", 5)]) rfl sc_numbers_of_names.nd (ii_range1 rfl T.n_range (ia_cons (ie_add (ie_gint (i := 20) T.c_LONGEST.choose_spec) ie_int) ia_nil)) (blkOk_by (N := ["most", "many", "numbers", "room", "lengths", "length"]) (sc := defScope (top 15)) (own := [("length", 5)]) (by decide +kernel)) (fun _ _ _ _ _ => (ig_name (i := 5) (by decide) ExOk.none sc_numbers_of_names.nd rfl (.inl rfl))) (fun _ _ _ _ _ => (ie_callF (fn_labels_of T) (hr.mono (by decide)) takes0 (ia_cons (ie_var 5) ia_nil)))))
    (is_cons (is_set (i := 2) ExOk.none sc_numbers_of_names.nd rfl (.inr rfl) (ie_lst (ia_cons ie_int (ia_cons ie_int ia_nil))))
    (is_cons (is_while (passes_of rfl) (it_le (ie_len rfl T.n_len (ia_cons (ie_var 2) ia_nil)) (ie_var 0))
    (is_cons (is_set (i := 3) ExOk.none sc_numbers_of_names.nd rfl (.inr rfl) (ie_sub (ie_len rfl T.n_len (ia_cons (ie_var 2) ia_nil)) ie_int))
    (is_cons (is_set (i := 4) ExOk.none sc_numbers_of_names.nd rfl (.inl rfl) (ie_rng rfl T.n_range (ia_cons ie_int (ia_cons (ie_add (ie_min rfl rfl T.n_min (ia_cons (ie_gint (i := 20) T.c_LONGEST.choose_spec) (ia_cons (ie_var 3) ia_nil))) ie_int) ia_nil))))
    (is_one (is_expr (ie_append (ie_var 2) (ia_cons (ie_sum rfl rfl T.n_sum (ia_cons (ie_lc (own := [("length", 5)]) rfl sc_numbers_of_names.nd (ii_val (ie_var 4)) (blkOk_by (N := ["most", "many", "numbers", "room", "lengths", "length"]) (sc := defScope (top 15)) (own := [("length", 5)]) (by decide +kernel)) (fun _ _ _ _ _ => (ig_name (i := 5) (by decide) ExOk.none sc_numbers_of_names.nd rfl (.inl rfl))) (fun _ _ _ _ _ => (ie_mul (ie_ix (ie_var 1) (ie_var 5)) (ie_ix (ie_var 2) (ie_sub (ie_var 3) (ie_var 5)))))) ia_nil)) ia_nil)))))))
    (is_one (is_ret (ie_slice (ie_var 2) io_none (io_some (ie_add (ie_var 0) ie_int))))))))), T.D_numbers_of_names.m, T.D_numbers_of_names.F.kp, T.D_numbers_of_names.b⟩
/-! names_of -/
theorem sc_names_of : FnScope ["size"] ["size"] (defScope (top 14)) := ⟨rfl, rfl, rfl, by decide +kernel, rfl, by decide +kernel, by decide +kernel⟩
def b_names_of : DS := (sSeq (sIf (dBool (dOp ltW (dVar 0) (dC (.int 0))))
    (sRaise "InvalidNumber" (dCons (dVar 0) dNil))
    sNil)
    (sRet (dOp ixW (dCall 1 d_numbers_of_names (dCons (dVar 0) dNil)) (dVar 0))))
def d_names_of : List W → Store → Res W := fnDen 1 b_names_of
def fn_names_of (T : Txt P w K mg base) : FnF P w K mg base "names_of" ["size"] 5 1 d_names_of :=
  ⟨T.D_names_of.f, T.D_names_of.fd, fn_ok (k := 4) T.D_names_of.F sc_names_of (fun cdv A outer s H E hr => (is_cons (is_if (it_lt (ie_var 0) ie_int)
    (is_one (is_raiseF T.E_InvalidNumber (hr.mono (by decide)) (takes_of rfl rfl rfl rfl) (ia_cons (ie_var 0) ia_nil)))
    is_nil)
    (is_one (is_ret (ie_ix (ie_callF (fn_numbers_of_names T) (hr.mono (by decide)) (takes_of rfl rfl rfl rfl) (ia_cons (ie_var 0) ia_nil)) (ie_var 0)))))), T.D_names_of.m, T.D_names_of.F.kp, T.D_names_of.b⟩
/-! _spelled -/
theorem sc__spelled : FnScope ["index", "length", "signs", "_", "rest", "sign"] ["index", "length"] (defScope (top 17)) := ⟨rfl, rfl, rfl, by decide +kernel, rfl, by decide +kernel, by decide +kernel⟩
def b__spelled : DS := (sSeq (sIf (dBool (dOp eqW (dVar 1) (dC (.int 1))))
    (sRet (dOp ixW (dC (.str c_ENDS)) (dVar 0)))
    sNil)
    (sSeq (sAsg (dApp divmodW (dCons (dVar 0) (dCons (dApp lenW (dCons (dC (.str c_ENDS)) dNil)) dNil))) (tTupT [(tName 4), (tName 5)]))
    (sSeq (sAsg (dLst (dCons (dOp ixW (dC (.str c_ENDS)) (dVar 5)) dNil)) (tName 2))
    (sSeq (sFor (dRange1 (dCons (dOp subW (dVar 1) (dC (.int 2))) dNil)) (tName 3)
    (sSeq (sAsg (dApp divmodW (dCons (dVar 4) (dCons (dApp lenW (dCons (dC (.str c_INNER)) dNil)) dNil))) (tTupT [(tName 4), (tName 5)]))
    (sExpr (dBm tyL appendW (dVar 2) (dCons (dOp ixW (dC (.str c_INNER)) (dVar 5)) dNil)))))
    (sSeq (sExpr (dBm tyL appendW (dVar 2) (dCons (dOp ixW (dC (.str c_ENDS)) (dVar 4)) dNil)))
    (sRet (dBm tyS joinW (dC (.str "")) (dCons (dUn revW (dVar 2)) dNil))))))))
def d__spelled : List W → Store → Res W := fnDen 6 b__spelled
def fn__spelled (T : Txt P w K mg base) : FnF P w K mg base "_spelled" ["index", "length"] 1 2 d__spelled :=
  ⟨T.D__spelled.f, T.D__spelled.fd, fn_ok (k := 0) T.D__spelled.F sc__spelled (fun cdv A outer s H E hr => (is_cons (is_if (it_eq hr (ie_var 1) ie_int)
    (is_one (is_ret (ie_ix (ie_gstr (i := c_ENDS) T.c_ENDS.choose_spec) (ie_var 0))))
    is_nil)
    (is_cons (is_asg (vs := [4, 5]) (ie_divmod rfl T.n_divmod (ia_cons (ie_var 0) (ia_cons (ie_len rfl T.n_len (ia_cons (ie_gstr (i := c_ENDS) T.c_ENDS.choose_spec) ia_nil)) ia_nil))) (ig_tup rfl (igs_cons (ig_name (i := 4) (by decide) ExOk.none sc__spelled.nd rfl (.inl rfl)) (igs_cons (ig_name (i := 5) (by decide) ExOk.none sc__spelled.nd rfl (.inl rfl)) igs_nil))))
    (is_cons (is_set (i := 2) ExOk.none sc__spelled.nd rfl (.inl rfl) (ie_lst (ia_cons (ie_ix (ie_gstr (i := c_ENDS) T.c_ENDS.choose_spec) (ie_var 5)) ia_nil)))
    (is_cons (is_for (vs := [3]) (passes_of rfl) rfl (ii_range1 rfl T.n_range (ia_cons (ie_sub (ie_var 1) ie_int) ia_nil)) (ig_name (i := 3) (by decide) ExOk.none sc__spelled.nd rfl (.inl rfl))
    (is_cons (is_asg (vs := [4, 5]) (ie_divmod rfl T.n_divmod (ia_cons (ie_var 4) (ia_cons (ie_len rfl T.n_len (ia_cons (ie_gstr (i := c_INNER) T.c_INNER.choose_spec) ia_nil)) ia_nil))) (ig_tup rfl (igs_cons (ig_name (i := 4) (by decide) ExOk.none sc__spelled.nd rfl (.inl rfl)) (igs_cons (ig_name (i := 5) (by decide) ExOk.none sc__spelled.nd rfl (.inl rfl)) igs_nil))))
    (is_one (is_expr (ie_append (ie_var 2) (ia_cons (ie_ix (ie_gstr (i := c_INNER) T.c_INNER.choose_spec) (ie_var 5)) ia_nil))))))
    (is_cons (is_expr (ie_append (ie_var 2) (ia_cons (ie_ix (ie_gstr (i := c_ENDS) T.c_ENDS.choose_spec) (ie_var 4)) ia_nil)))
    (is_one (is_ret (ie_join ie_str (ia_cons (ie_rev (ie_var 2)) ia_nil)))))))))), T.D__spelled.m, T.D__spelled.F.kp, T.D__spelled.b⟩
/-! nth_label -/
theorem sc_nth_label : FnScope ["index", "rest", "length"] ["index"] (defScope (top 16)) := ⟨rfl, rfl, rfl, by decide +kernel, rfl, by decide +kernel, by decide +kernel⟩
def b_nth_label : DS := (sSeq (sIf (dBool (dOp ltW (dVar 0) (dC (.int 0))))
    (sRaise "InvalidNumber" (dCons (dVar 0) dNil))
    sNil)
    (sSeq (sAsg (dVar 0) (tName 1))
    (sSeq (sFor (dRange2 (dCons (dC (.int 1)) (dCons (dOp addW (dC (.int 20)) (dC (.int 1))) dNil))) (tName 2)
    (sSeq (sIf (dBool (dOp ltW (dVar 1) (dCall 1 d_labels_of (dCons (dVar 2) dNil))))
    (sRet (dCall 2 d__spelled (dCons (dVar 1) (dCons (dVar 2) dNil))))
    sNil)
    (sAsg (dOp subW (dVar 1) (dCall 1 d_labels_of (dCons (dVar 2) dNil))) (tName 1))))
    (sRaise "InvalidNumber" (dCons (dVar 0) dNil)))))
def d_nth_label : List W → Store → Res W := fnDen 3 b_nth_label
def fn_nth_label (T : Txt P w K mg base) : FnF P w K mg base "nth_label" ["index"] 4 1 d_nth_label :=
  ⟨T.D_nth_label.f, T.D_nth_label.fd, fn_ok (k := 3) T.D_nth_label.F sc_nth_label (fun cdv A outer s H E hr => (is_cons (is_if (it_lt (ie_var 0) ie_int)
    (is_one (is_raiseF T.E_InvalidNumber (hr.mono (by decide)) (takes_of rfl rfl rfl rfl) (ia_cons (ie_var 0) ia_nil)))
    is_nil)
    (is_cons (is_set (i := 1) ExOk.none sc_nth_label.nd rfl (.inl rfl) (ie_var 0))
    (is_cons (is_for (vs := [2]) (passes_of rfl) rfl (ii_range2 rfl T.n_range (ia_cons ie_int (ia_cons (ie_add (ie_gint (i := 20) T.c_LONGEST.choose_spec) ie_int) ia_nil))) (ig_name (i := 2) (by decide) ExOk.none sc_nth_label.nd rfl (.inl rfl))
    (is_cons (is_if (it_lt (ie_var 1) (ie_callF (fn_labels_of T) (hr.mono (by decide)) (takes_of rfl rfl rfl rfl) (ia_cons (ie_var 2) ia_nil)))
    (is_one (is_ret (ie_callF (fn__spelled T) (hr.mono (by decide)) (takes_of rfl rfl rfl rfl) (ia_cons (ie_var 1) (ia_cons (ie_var 2) ia_nil)))))
    is_nil)
    (is_one (is_set (i := 1) ExOk.none sc_nth_label.nd rfl (.inl rfl) (ie_sub (ie_var 1) (ie_callF (fn_labels_of T) (hr.mono (by decide)) (takes_of rfl rfl rfl rfl) (ia_cons (ie_var 2) ia_nil)))))))
    (is_one (is_raiseF T.E_InvalidNumber (hr.mono (by decide)) (takes_of rfl rfl rfl rfl) (ia_cons (ie_var 0) ia_nil))))))), T.D_nth_label.m, T.D_nth_label.F.kp, T.D_nth_label.b⟩
/-! label_index -/
theorem sc_label_index : FnScope ["label", "ahead", "index", "sign", "length"] ["label"] (defScope (top 18)) := ⟨rfl, rfl, rfl, by decide +kernel, rfl, by decide +kernel, by decide +kernel⟩
def b_label_index : DS := (sSeq (sIf (dOr (dNot (dBool (dCall 1 d_is_label (dCons (dVar 0) dNil)))) (dBool (dOp eqW (dVar 0) (dC (.str c_WILD)))))
    (sRaise "InvalidLabel" (dCons (dCall 1 (d_rebuilt 8) (dCons (dVar 0) dNil)) dNil))
    sNil)
    (sSeq (sAsg (dApp sumW (dCons (dLc (dRange2 (dCons (dC (.int 1)) (dCons (dApp lenW (dCons (dVar 0) dNil)) dNil))) [4] (tName 4) dYes (dCall 1 d_labels_of (dCons (dVar 4) dNil))) dNil)) (tName 1))
    (sSeq (sIf (dBool (dOp eqW (dApp lenW (dCons (dVar 0) dNil)) (dC (.int 1))))
    (sRet (dBm tyS sIndexW (dC (.str c_ENDS)) (dCons (dVar 0) dNil)))
    sNil)
    (sSeq (sAsg (dBm tyS sIndexW (dC (.str c_ENDS)) (dCons (dOp ixW (dVar 0) (dC (.int 0))) dNil)) (tName 2))
    (sSeq (sFor (dIt (dSl (dVar 0) (dPart (dC (.int 1))) (dPart (dUn negW (dC (.int 1)))))) (tName 3)
    (sAsg (dOp addW (dOp mulW (dVar 2) (dApp lenW (dCons (dC (.str c_INNER)) dNil))) (dBm tyS sIndexW (dC (.str c_INNER)) (dCons (dVar 3) dNil))) (tName 2)))
    (sRet (dOp addW (dOp addW (dVar 1) (dOp mulW (dVar 2) (dApp lenW (dCons (dC (.str c_ENDS)) dNil)))) (dBm tyS sIndexW (dC (.str c_ENDS)) (dCons (dOp ixW (dVar 0) (dUn negW (dC (.int 1)))) dNil)))))))))
def d_label_index : List W → Store → Res W := fnDen 5 b_label_index
def fn_label_index (T : Txt P w K mg base) : FnF P w K mg base "label_index" ["label"] 9 1 d_label_index :=
  ⟨T.D_label_index.f, T.D_label_index.fd, fn_ok (k := 8) T.D_label_index.F sc_label_index (fun cdv A outer s H E hr => (is_cons (is_if (it_w (iw_or (it_not (it_val (ie_callF (fn_is_label T) (hr.mono (by decide)) (takes_of rfl rfl rfl rfl) (ia_cons (ie_var 0) ia_nil)))) (iw_or1 (it_eq hr (ie_var 0) (ie_gstr (i := c_WILD) T.c_WILD.choose_spec)))))
    (is_one (is_raiseF T.E_InvalidLabel (hr.mono (by decide)) (takes_of rfl rfl rfl rfl) (ia_cons (ie_callF (fn_rebuilt T 8) (hr.mono (by decide)) (takes_of rfl rfl rfl rfl) (ia_cons (ie_var 0) ia_nil)) ia_nil)))
    is_nil)
    (is_cons (is_set (i := 1) ExOk.none sc_label_index.nd rfl (.inl rfl) (ie_sum rfl rfl T.n_sum (ia_cons (ie_lc (own := [("length", 4)]) rfl sc_label_index.nd (ii_range2 rfl T.n_range (ia_cons ie_int (ia_cons (ie_len rfl T.n_len (ia_cons (ie_var 0) ia_nil)) ia_nil))) (blkOk_by (N := ["label", "ahead", "index", "sign", "length"]) (sc := defScope (top 18)) (own := [("length", 4)]) (by decide +kernel)) (fun _ _ _ _ _ => (ig_name (i := 4) (by decide) ExOk.none sc_label_index.nd rfl (.inl rfl))) (fun _ _ _ _ _ => (ie_callF (fn_labels_of T) (hr.mono (by decide)) takes0 (ia_cons (ie_var 4) ia_nil)))) ia_nil)))
    (is_cons (is_if (it_eq hr (ie_len rfl T.n_len (ia_cons (ie_var 0) ia_nil)) ie_int)
    (is_one (is_ret (ie_sindex (ie_gstr (i := c_ENDS) T.c_ENDS.choose_spec) (ia_cons (ie_var 0) ia_nil))))
    is_nil)
    (is_cons (is_set (i := 2) ExOk.none sc_label_index.nd rfl (.inl rfl) (ie_sindex (ie_gstr (i := c_ENDS) T.c_ENDS.choose_spec) (ia_cons (ie_ix (ie_var 0) ie_int) ia_nil)))
    (is_cons (is_for (vs := [3]) (passes_of rfl) rfl (ii_val (ie_slice (ie_var 0) (io_some ie_int) (io_some (ie_neg ie_int)))) (ig_name (i := 3) (by decide) ExOk.none sc_label_index.nd rfl (.inl rfl))
    (is_one (is_set (i := 2) ExOk.none sc_label_index.nd rfl (.inl rfl) (ie_add (ie_mul (ie_var 2) (ie_len rfl T.n_len (ia_cons (ie_gstr (i := c_INNER) T.c_INNER.choose_spec) ia_nil))) (ie_sindex (ie_gstr (i := c_INNER) T.c_INNER.choose_spec) (ia_cons (ie_var 3) ia_nil))))))
    (is_one (is_ret (ie_add (ie_add (ie_var 1) (ie_mul (ie_var 2) (ie_len rfl T.n_len (ia_cons (ie_gstr (i := c_ENDS) T.c_ENDS.choose_spec) ia_nil)))) (ie_sindex (ie_gstr (i := c_ENDS) T.c_ENDS.choose_spec) (ia_cons (ie_ix (ie_var 0) (ie_neg ie_int)) ia_nil))))))))))), T.D_label_index.m, T.D_label_index.F.kp, T.D_label_index.b⟩
/-! label_but -/
theorem sc_label_but : FnScope ["labels", "index"] ["labels"] (defScope (top 19)) := ⟨rfl, rfl, rfl, by decide +kernel, rfl, by decide +kernel, by decide +kernel⟩
def b_label_but : DS := (sSeq (sAsg (dC (.int 0)) (tName 1))
    (sSeq (sWhile (dBool (dOp (inW false) (dCall 1 d_nth_label (dCons (dVar 1) dNil)) (dVar 0)))
    (sAug 1 addI (dC (.int 1))))
    (sRet (dCall 1 d_nth_label (dCons (dVar 1) dNil)))))
def d_label_but : List W → Store → Res W := fnDen 2 b_label_but
def fn_label_but (T : Txt P w K mg base) : FnF P w K mg base "label_but" ["labels"] 5 1 d_label_but :=
  ⟨T.D_label_but.f, T.D_label_but.fd, fn_ok (k := 4) T.D_label_but.F sc_label_but (fun cdv A outer s H E hr => (is_cons (is_set (i := 1) ExOk.none sc_label_but.nd rfl (.inl rfl) ie_int)
    (is_cons (is_while (passes_of rfl) (it_in (ie_callF (fn_nth_label T) (hr.mono (by decide)) (takes_of rfl rfl rfl rfl) (ia_cons (ie_var 1) ia_nil)) (ie_var 0))
    (is_one (is_augAdd (i := 1) sc_label_but.nd rfl (.inl rfl) ie_int)))
    (is_one (is_ret (ie_callF (fn_nth_label T) (hr.mono (by decide)) (takes_of rfl rfl rfl rfl) (ia_cons (ie_var 1) ia_nil))))))), T.D_label_but.m, T.D_label_but.F.kp, T.D_label_but.b⟩
/-! _law_pot -/
theorem sc__law_pot : FnScope ["_law_script", "_law_k", "_law_cell", "_law_mix", "_law_other"] ["_law_script", "_law_k"] (defScope (top 21)) := ⟨rfl, rfl, rfl, by decide +kernel, rfl, by decide +kernel, by decide +kernel⟩
def b__law_pot : DS := (sSeq (sAsg (dOp addW (dC (.int 29)) (dOp mulW (dC (.int 11)) (dVar 1))) (tName 2))
    (sSeq (sIf (dBool (dOp ltW (dVar 1) (dApp lenW (dCons (dVar 0) dNil))))
    (sAsg (dOp ixW (dVar 0) (dVar 1)) (tName 2))
    sNil)
    (sSeq (sAsg (dC (.int 1)) (tName 3))
    (sSeq (sFor (dIt (dVar 0)) (tName 4)
    (sAsg (dOp modW (dApp intOfW (dCons (dOp addW (dOp mulW (dVar 3) (dC (.int 131))) (dVar 4)) dNil)) (dOp addW (dOp powW (dC (.int 10)) (dC (.int 33))) (dC (.int 61)))) (tName 3)))
    (sRet (dLst (dCons (dApp maxW (dCons (dC (.int 0)) (dCons (dOp subW (dVar 2) (dOp powW (dC (.int 10)) (dC (.int 18)))) dNil))) (dCons (dOp modW (dApp intOfW (dCons (dOp addW (dOp addW (dOp mulW (dVar 3) (dC (.int 977))) (dApp absW (dCons (dVar 2) dNil))) (dOp mulW (dC (.int 13)) (dVar 1))) dNil)) (dOp addW (dOp powW (dC (.int 10)) (dC (.int 33))) (dC (.int 61)))) (dCons (dC (.int 0)) dNil)))))))))
def d__law_pot : List W → Store → Res W := fnDen 5 b__law_pot
def fn__law_pot (T : Txt P w K mg base) : FnF P w K mg base "_law_pot" ["_law_script", "_law_k"] 1 2 d__law_pot :=
  ⟨T.D__law_pot.f, T.D__law_pot.fd, fn_ok (k := 0) T.D__law_pot.F sc__law_pot (fun cdv A outer s H E hr => (is_cons (is_set (i := 2) ExOk.none sc__law_pot.nd rfl (.inl rfl) (ie_add ie_int (ie_mul ie_int (ie_var 1))))
    (is_cons (is_if (it_lt (ie_var 1) (ie_len rfl T.n_len (ia_cons (ie_var 0) ia_nil)))
    (is_one (is_set (i := 2) ExOk.none sc__law_pot.nd rfl (.inl rfl) (ie_ix (ie_var 0) (ie_var 1))))
    is_nil)
    (is_cons (is_set (i := 3) ExOk.none sc__law_pot.nd rfl (.inl rfl) ie_int)
    (is_cons (is_for (vs := [4]) (passes_of rfl) rfl (ii_val (ie_var 0)) (ig_name (i := 4) (by decide) ExOk.none sc__law_pot.nd rfl (.inl rfl))
    (is_one (is_set (i := 3) ExOk.none sc__law_pot.nd rfl (.inl rfl) (ie_mod (ie_intOf rfl T.n_int (ia_cons (ie_add (ie_mul (ie_var 3) ie_int) (ie_var 4)) ia_nil)) (ie_add (ie_pow ie_int ie_int) ie_int)))))
    (is_one (is_ret (ie_lst (ia_cons (ie_max rfl rfl T.n_max (ia_cons ie_int (ia_cons (ie_sub (ie_var 2) (ie_pow ie_int ie_int)) ia_nil))) (ia_cons (ie_mod (ie_intOf rfl T.n_int (ia_cons (ie_add (ie_add (ie_mul (ie_var 3) ie_int) (ie_abs rfl T.n_abs (ia_cons (ie_var 2) ia_nil))) (ie_mul ie_int (ie_var 1))) ia_nil)) (ie_add (ie_pow ie_int ie_int) ie_int)) (ia_cons ie_int ia_nil))))))))))), T.D__law_pot.m, T.D__law_pot.F.kp, T.D__law_pot.b⟩
/-! _law_take -/
theorem sc__law_take : FnScope ["_law_pot_here", "_law_many_here", "_law_mixed", "_law_part"] ["_law_pot_here", "_law_many_here"] (defScope (top 22)) := ⟨rfl, rfl, rfl, by decide +kernel, rfl, by decide +kernel, by decide +kernel⟩
def b__law_take : DS := (sSeq (sIf (dBool (dOp gtW (dOp ixW (dVar 0) (dC (.int 0))) (dC (.int 0))))
    (sSeq (sAsg (dOp modW (dApp intOfW (dCons (dOp ixW (dVar 0) (dC (.int 0))) dNil)) (dVar 1)) (tName 3))
    (sSeq (sAsg (dOp fdivW (dOp ixW (dVar 0) (dC (.int 0))) (dVar 1)) (tSub (dVar 0) (dC (.int 0))))
    (sRet (dVar 3))))
    sNil)
    (sSeq (sAsg (dOp addW (dOp ixW (dVar 0) (dC (.int 2))) (dC (.int 1))) (tSub (dVar 0) (dC (.int 2))))
    (sSeq (sAsg (dOp modW (dApp intOfW (dCons (dOp addW (dOp powW (dOp addW (dOp ixW (dVar 0) (dC (.int 1))) (dOp mulW (dC (.int 999983)) (dOp ixW (dVar 0) (dC (.int 2))))) (dC (.int 3))) (dOp mulW (dC (.int 7)) (dOp ixW (dVar 0) (dC (.int 2))))) dNil)) (dOp addW (dOp powW (dC (.int 10)) (dC (.int 37))) (dC (.int 43)))) (tName 2))
    (sRet (dOp modW (dApp intOfW (dCons (dOp fdivW (dVar 2) (dC (.int 65537))) dNil)) (dVar 1))))))
def d__law_take : List W → Store → Res W := fnDen 4 b__law_take
def fn__law_take (T : Txt P w K mg base) : FnF P w K mg base "_law_take" ["_law_pot_here", "_law_many_here"] 1 2 d__law_take :=
  ⟨T.D__law_take.f, T.D__law_take.fd, fn_ok (k := 0) T.D__law_take.F sc__law_take (fun cdv A outer s H E hr => (is_cons (is_if (it_gt (ie_ix (ie_var 0) ie_int) ie_int)
    (is_cons (is_set (i := 3) ExOk.none sc__law_take.nd rfl (.inl rfl) (ie_mod (ie_intOf rfl T.n_int (ia_cons (ie_ix (ie_var 0) ie_int) ia_nil)) (ie_var 1)))
    (is_cons (is_asg (vs := []) (ie_fdiv (ie_ix (ie_var 0) ie_int) (ie_var 1)) (ig_sub (ie_var 0) ie_int))
    (is_one (is_ret (ie_var 3)))))
    is_nil)
    (is_cons (is_asg (vs := []) (ie_add (ie_ix (ie_var 0) ie_int) ie_int) (ig_sub (ie_var 0) ie_int))
    (is_cons (is_set (i := 2) ExOk.none sc__law_take.nd rfl (.inl rfl) (ie_mod (ie_intOf rfl T.n_int (ia_cons (ie_add (ie_pow (ie_add (ie_ix (ie_var 0) ie_int) (ie_mul ie_int (ie_ix (ie_var 0) ie_int))) ie_int) (ie_mul ie_int (ie_ix (ie_var 0) ie_int))) ia_nil)) (ie_add (ie_pow ie_int ie_int) ie_int)))
    (is_one (is_ret (ie_mod (ie_intOf rfl T.n_int (ia_cons (ie_fdiv (ie_var 2) ie_int) ia_nil)) (ie_var 1)))))))), T.D__law_take.m, T.D__law_take.F.kp, T.D__law_take.b⟩
/-! _law_same -/
theorem sc__law_same : FnScope ["_law_told", "_law_due", "_law_k"] ["_law_told", "_law_due"] (defScope (top 23)) := ⟨rfl, rfl, rfl, by decide +kernel, rfl, by decide +kernel, by decide +kernel⟩
def b__law_same (rec : List W → Store → Res W) : DS := (sSeq (sIf (dBool (dUn (isi2W "tuple" "list") (dVar 1)))
    (sSeq (sIf (dOr (dBool (dOp neW (dApp isiW (dCons (dVar 1) (dCons (dC (.gl (.ty "tuple"))) dNil))) (dApp isiW (dCons (dVar 0) (dCons (dC (.gl (.ty "tuple"))) dNil))))) (dBool (dOp neW (dApp isiW (dCons (dVar 1) (dCons (dC (.gl (.ty "list"))) dNil))) (dApp isiW (dCons (dVar 0) (dCons (dC (.gl (.ty "list"))) dNil))))))
    (sRet (dC (.bl false)))
    sNil)
    (sRet (dAndV (dOp eqW (dApp lenW (dCons (dVar 0) dNil)) (dApp lenW (dCons (dVar 1) dNil))) (dApp allW (dCons (dLc (dRange1 (dCons (dApp lenW (dCons (dVar 1) dNil)) dNil)) [2] (tName 2) dYes (dCall 2 rec (dCons (dOp ixW (dVar 0) (dVar 2)) (dCons (dOp ixW (dVar 1) (dVar 2)) dNil)))) dNil)))))
    sNil)
    (sSeq (sIf (dBool (dOp isNW (dVar 1) (dC .non)))
    (sRet (dOp isNW (dVar 0) (dC .non)))
    sNil)
    (sSeq (sIf (dBool (dApp isiW (dCons (dVar 1) (dCons (dC (.gl (.ty "bool"))) dNil))))
    (sRet (dAndV (dApp isiW (dCons (dVar 0) (dCons (dC (.gl (.ty "bool"))) dNil))) (dOp eqW (dVar 0) (dVar 1))))
    sNil)
    (sSeq (sIf (dBool (dApp isiW (dCons (dVar 1) (dCons (dC (.gl (.ty "int"))) dNil))))
    (sRet (dAndV (dApp isiW (dCons (dVar 0) (dCons (dC (.gl (.ty "int"))) dNil))) (dAndV (dNotV (dApp isiW (dCons (dVar 0) (dCons (dC (.gl (.ty "bool"))) dNil)))) (dOp eqW (dVar 0) (dVar 1)))))
    sNil)
    (sRet (dAndV (dApp isiW (dCons (dVar 1) (dCons (dC (.gl (.ty "str"))) dNil))) (dAndV (dApp isiW (dCons (dVar 0) (dCons (dC (.gl (.ty "str"))) dNil))) (dOp eqW (dVar 0) (dVar 1)))))))))
def d__law_same : Nat → List W → Store → Res W
  | 0 => fun _ _ => .stuck
  | n + 1 => fnDen 3 (b__law_same (d__law_same n))
def fn__law_same (T : Txt P w K mg base) : (n : Nat) → FnF P w K mg base "_law_same" ["_law_told", "_law_due"] (0 + n) 2 (d__law_same n)
  | 0 => ⟨T.D__law_same.f, T.D__law_same.fd, fn_stuck, T.D__law_same.m, T.D__law_same.F.kp, T.D__law_same.b⟩
  | n + 1 => ⟨T.D__law_same.f, T.D__law_same.fd, fn_ok (k := 0 + n) T.D__law_same.F sc__law_same (fun cdv A outer s H E hr => (is_cons (is_if (it_val (ie_isi2 (A := "tuple") (B := "list") rfl T.n_isinstance (ie_var 1) rfl T.n_tuple (by decide +kernel) rfl T.n_list (by decide +kernel)))
    (is_cons (is_if (it_w (iw_or (it_ne hr (ie_isi rfl T.n_isinstance (ia_cons (ie_var 1) (ia_cons (ie_ty (T := "tuple") rfl T.n_tuple (by decide +kernel)) ia_nil))) (ie_isi rfl T.n_isinstance (ia_cons (ie_var 0) (ia_cons (ie_ty (T := "tuple") rfl T.n_tuple (by decide +kernel)) ia_nil)))) (iw_or1 (it_ne hr (ie_isi rfl T.n_isinstance (ia_cons (ie_var 1) (ia_cons (ie_ty (T := "list") rfl T.n_list (by decide +kernel)) ia_nil))) (ie_isi rfl T.n_isinstance (ia_cons (ie_var 0) (ia_cons (ie_ty (T := "list") rfl T.n_list (by decide +kernel)) ia_nil)))))))
    (is_one (is_ret ie_bl))
    is_nil)
    (is_one (is_ret (ie_and (ie_eq hr (ie_len rfl T.n_len (ia_cons (ie_var 0) ia_nil)) (ie_len rfl T.n_len (ia_cons (ie_var 1) ia_nil))) (ie_one (ie_all rfl rfl T.n_all (ia_cons (ie_lc (own := [("_law_k", 2)]) rfl sc__law_same.nd (ii_range1 rfl T.n_range (ia_cons (ie_len rfl T.n_len (ia_cons (ie_var 1) ia_nil)) ia_nil)) (blkOk_by (N := ["_law_told", "_law_due", "_law_k"]) (sc := defScope (top 23)) (own := [("_law_k", 2)]) (by decide +kernel)) (fun _ _ _ _ _ => (ig_name (i := 2) (by decide) ExOk.none sc__law_same.nd rfl (.inl rfl))) (fun _ _ _ _ _ => (ie_callF (fn__law_same T n) (hr) takes0 (ia_cons (ie_ix (ie_var 0) (ie_var 2)) (ia_cons (ie_ix (ie_var 1) (ie_var 2)) ia_nil))))) ia_nil)))))))
    is_nil)
    (is_cons (is_if (it_isN (ie_var 1) ie_non)
    (is_one (is_ret (ie_isN (ie_var 0) ie_non)))
    is_nil)
    (is_cons (is_if (it_val (ie_isi rfl T.n_isinstance (ia_cons (ie_var 1) (ia_cons (ie_ty (T := "bool") rfl T.n_bool (by decide +kernel)) ia_nil))))
    (is_one (is_ret (ie_and (ie_isi rfl T.n_isinstance (ia_cons (ie_var 0) (ia_cons (ie_ty (T := "bool") rfl T.n_bool (by decide +kernel)) ia_nil))) (ie_one (ie_eq hr (ie_var 0) (ie_var 1))))))
    is_nil)
    (is_cons (is_if (it_val (ie_isi rfl T.n_isinstance (ia_cons (ie_var 1) (ia_cons (ie_ty (T := "int") rfl T.n_int (by decide +kernel)) ia_nil))))
    (is_one (is_ret (ie_and (ie_isi rfl T.n_isinstance (ia_cons (ie_var 0) (ia_cons (ie_ty (T := "int") rfl T.n_int (by decide +kernel)) ia_nil))) (ie_and (ie_notV (ie_isi rfl T.n_isinstance (ia_cons (ie_var 0) (ia_cons (ie_ty (T := "bool") rfl T.n_bool (by decide +kernel)) ia_nil)))) (ie_one (ie_eq hr (ie_var 0) (ie_var 1)))))))
    is_nil)
    (is_one (is_ret (ie_and (ie_isi rfl T.n_isinstance (ia_cons (ie_var 1) (ia_cons (ie_ty (T := "str") rfl T.n_str (by decide +kernel)) ia_nil))) (ie_and (ie_isi rfl T.n_isinstance (ia_cons (ie_var 0) (ia_cons (ie_ty (T := "str") rfl T.n_str (by decide +kernel)) ia_nil))) (ie_one (ie_eq hr (ie_var 0) (ie_var 1)))))))))))), T.D__law_same.m, T.D__law_same.F.kp, T.D__law_same.b⟩
/-! _law_label -/
theorem sc__law_label : FnScope ["_law_pot_here", "_law_ends", "_law_length", "_law_signs", "_law_k"] ["_law_pot_here"] (defScope (top 24)) := ⟨rfl, rfl, rfl, by decide +kernel, rfl, by decide +kernel, by decide +kernel⟩
def b__law_label : DS := (sSeq (sAsg (dC (.str "0123456789abcdefghijklmnopqrstuvwxyz")) (tName 1))
    (sSeq (sAsg (dOp ixW (dLst (dCons (dC (.int 1)) (dCons (dC (.int 2)) (dCons (dC (.int 3)) (dCons (dOp addW (dC (.int 1)) (dCall 2 d__law_take (dCons (dVar 0) (dCons (dC (.int 20)) dNil)))) (dCons (dC (.int 20)) dNil)))))) (dCall 2 d__law_take (dCons (dVar 0) (dCons (dC (.int 5)) dNil)))) (tName 2))
    (sSeq (sAsg (dLc (dRange1 (dCons (dVar 2) dNil)) [4] (tName 4) dYes (dOp ixW (dOp addW (dC (.str "-")) (dVar 1)) (dCall 2 d__law_take (dCons (dVar 0) (dCons (dC (.int 37)) dNil))))) (tName 3))
    (sSeq (sAsg (dOp ixW (dVar 1) (dCall 2 d__law_take (dCons (dVar 0) (dCons (dC (.int 36)) dNil)))) (tSub (dVar 3) (dC (.int 0))))
    (sSeq (sAsg (dOp ixW (dVar 1) (dCall 2 d__law_take (dCons (dVar 0) (dCons (dC (.int 36)) dNil)))) (tSub (dVar 3) (dUn negW (dC (.int 1)))))
    (sRet (dBm tyS joinW (dC (.str "")) (dCons (dVar 3) dNil))))))))
def d__law_label : List W → Store → Res W := fnDen 5 b__law_label
def fn__law_label (T : Txt P w K mg base) : FnF P w K mg base "_law_label" ["_law_pot_here"] 2 1 d__law_label :=
  ⟨T.D__law_label.f, T.D__law_label.fd, fn_ok (k := 1) T.D__law_label.F sc__law_label (fun cdv A outer s H E hr => (is_cons (is_set (i := 1) ExOk.none sc__law_label.nd rfl (.inr rfl) ie_str)
    (is_cons (is_set (i := 2) ExOk.none sc__law_label.nd rfl (.inl rfl) (ie_ix (ie_lst (ia_cons ie_int (ia_cons ie_int (ia_cons ie_int (ia_cons (ie_add ie_int (ie_callF (fn__law_take T) (hr.mono (by decide)) (takes_of rfl rfl rfl rfl) (ia_cons (ie_var 0) (ia_cons ie_int ia_nil)))) (ia_cons ie_int ia_nil)))))) (ie_callF (fn__law_take T) (hr.mono (by decide)) (takes_of rfl rfl rfl rfl) (ia_cons (ie_var 0) (ia_cons ie_int ia_nil)))))
    (is_cons (is_setLc (i := 3) (own := [("_law_k", 4)]) rfl sc__law_label.nd rfl rfl (sw_true rfl rfl rfl (by decide +kernel)) (ii_range1 rfl T.n_range (ia_cons (ie_var 2) ia_nil)) (blkOk_by (N := ["_law_pot_here", "_law_ends", "_law_length", "_law_signs", "_law_k"]) (sc := defScope (top 24)) (own := [("_law_k", 4)]) (by decide +kernel)) (fun _ _ _ _ _ => (ig_name (i := 4) (by decide) ExOk.none sc__law_label.nd rfl (.inl rfl))) (fun _ _ _ _ _ => (ie_ix (ie_add ie_str (ie_var 1)) (ie_callF (fn__law_take T) (hr.mono (by decide)) takes0 (ia_cons (ie_var 0) (ia_cons ie_int ia_nil))))))
    (is_cons (is_asg (vs := []) (ie_ix (ie_var 1) (ie_callF (fn__law_take T) (hr.mono (by decide)) (takes_of rfl rfl rfl rfl) (ia_cons (ie_var 0) (ia_cons ie_int ia_nil)))) (ig_sub (ie_var 3) ie_int))
    (is_cons (is_asg (vs := []) (ie_ix (ie_var 1) (ie_callF (fn__law_take T) (hr.mono (by decide)) (takes_of rfl rfl rfl rfl) (ia_cons (ie_var 0) (ia_cons ie_int ia_nil)))) (ig_sub (ie_var 3) (ie_neg ie_int)))
    (is_one (is_ret (ie_join ie_str (ia_cons (ie_var 3) ia_nil)))))))))), T.D__law_label.m, T.D__law_label.F.kp, T.D__law_label.b⟩
/-! _law_odd -/
theorem sc__law_odd : FnScope ["_law_pot_here", "_law_some"] ["_law_pot_here"] (defScope (top 25)) := ⟨rfl, rfl, rfl, by decide +kernel, rfl, by decide +kernel, by decide +kernel⟩
def b__law_odd : DS := (sSeq (sAsg (dLst (dCons (dC .non) (dCons (dC (.bl true)) (dCons (dC (.int 7)) (dCons (dUn negW (dC (.int 1))) (dCons (dC (.str "")) (dCons (dC (.str "a")) (dCons (dLst (dCons (dC (.str "a")) dNil)) (dCons (dLst dNil) (dCons (dTup (dCons (dC (.str "a")) (dCons (dC (.int 5)) dNil))) (dCons (dTup (dCons (dC (.str "a")) (dCons (dC (.str "*")) dNil))) (dCons (dTup (dCons (dTup (dCons (dC (.str "a")) dNil)) dNil)) (dCons (dTup (dCons (dC (.str "")) dNil)) (dCons (dTup (dCons (dC (.str "*")) (dCons (dC (.str "*")) dNil))) (dCons (dC (.str "a.")) dNil))))))))))))))) (tName 1))
    (sSeq (sAsg (dOp addW (dVar 1) (dLst (dCons (dTup (dCons (dC (.str "a-")) dNil)) (dCons (dTup (dCons (dC (.str "-")) dNil)) (dCons (dTup (dCons (dC (.str "A")) dNil)) (dCons (dTup (dCons (dC (.str "a b")) dNil)) (dCons (dTup (dCons (dC (.str "a")) (dCons (dC .non) dNil))) (dCons (dLst (dCons (dTup (dCons (dC (.str "a")) dNil)) dNil)) (dCons (dTup (dCons (dOp mulW (dC (.str "a")) (dC (.int 21))) dNil)) (dCons (dTup (dCons (dC (.str "a")) (dCons (dC (.str "")) (dCons (dC (.str "b")) dNil)))) (dCons (dTup (dCons (dC (.str "**")) dNil)) dNil))))))))))) (tName 1))
    (sRet (dOp ixW (dVar 1) (dCall 2 d__law_take (dCons (dVar 0) (dCons (dApp lenW (dCons (dVar 1) dNil)) dNil)))))))
def d__law_odd : List W → Store → Res W := fnDen 2 b__law_odd
def fn__law_odd (T : Txt P w K mg base) : FnF P w K mg base "_law_odd" ["_law_pot_here"] 2 1 d__law_odd :=
  ⟨T.D__law_odd.f, T.D__law_odd.fd, fn_ok (k := 1) T.D__law_odd.F sc__law_odd (fun cdv A outer s H E hr => (is_cons (is_set (i := 1) ExOk.none sc__law_odd.nd rfl (.inl rfl) (ie_lst (ia_cons ie_non (ia_cons ie_bl (ia_cons ie_int (ia_cons (ie_neg ie_int) (ia_cons ie_str (ia_cons ie_str (ia_cons (ie_lst (ia_cons ie_str ia_nil)) (ia_cons (ie_lst ia_nil) (ia_cons (ie_tup (ia_cons ie_str (ia_cons ie_int ia_nil))) (ia_cons (ie_tup (ia_cons ie_str (ia_cons ie_str ia_nil))) (ia_cons (ie_tup (ia_cons (ie_tup (ia_cons ie_str ia_nil)) ia_nil)) (ia_cons (ie_tup (ia_cons ie_str ia_nil)) (ia_cons (ie_tup (ia_cons ie_str (ia_cons ie_str ia_nil))) (ia_cons ie_str ia_nil))))))))))))))))
    (is_cons (is_set (i := 1) ExOk.none sc__law_odd.nd rfl (.inl rfl) (ie_add (ie_var 1) (ie_lst (ia_cons (ie_tup (ia_cons ie_str ia_nil)) (ia_cons (ie_tup (ia_cons ie_str ia_nil)) (ia_cons (ie_tup (ia_cons ie_str ia_nil)) (ia_cons (ie_tup (ia_cons ie_str ia_nil)) (ia_cons (ie_tup (ia_cons ie_str (ia_cons ie_non ia_nil))) (ia_cons (ie_lst (ia_cons (ie_tup (ia_cons ie_str ia_nil)) ia_nil)) (ia_cons (ie_tup (ia_cons (ie_mul ie_str ie_int) ia_nil)) (ia_cons (ie_tup (ia_cons ie_str (ia_cons ie_str (ia_cons ie_str ia_nil)))) (ia_cons (ie_tup (ia_cons ie_str ia_nil)) ia_nil))))))))))))
    (is_one (is_ret (ie_ix (ie_var 1) (ie_callF (fn__law_take T) (hr.mono (by decide)) (takes_of rfl rfl rfl rfl) (ia_cons (ie_var 0) (ia_cons (ie_len rfl T.n_len (ia_cons (ie_var 1) ia_nil)) ia_nil))))))))), T.D__law_odd.m, T.D__law_odd.F.kp, T.D__law_odd.b⟩
/-! _law_many -/
theorem sc__law_many : FnScope ["_law_length", "_law_found", "_law_k"] ["_law_length"] (defScope (top 26)) := ⟨rfl, rfl, rfl, by decide +kernel, rfl, by decide +kernel, by decide +kernel⟩
def b__law_many : DS := (sSeq (sIf (dOr (dBool (dOp ltW (dVar 0) (dC (.int 1)))) (dBool (dOp gtW (dVar 0) (dC (.int 20)))))
    (sRet (dC (.int 0)))
    sNil)
    (sSeq (sAsg (dC (.int 36)) (tName 1))
    (sSeq (sFor (dRange1 (dCons (dOp subW (dVar 0) (dC (.int 1))) dNil)) (tName 2)
    (sAsg (dOp mulW (dVar 1) (dC (.int 37))) (tName 1)))
    (sRet (dIf (dBool (dOp eqW (dVar 0) (dC (.int 1)))) (dVar 1) (dOp mulW (dOp fdivW (dVar 1) (dC (.int 37))) (dC (.int 36))))))))
def d__law_many : List W → Store → Res W := fnDen 3 b__law_many
def fn__law_many (T : Txt P w K mg base) : FnF P w K mg base "_law_many" ["_law_length"] 1 1 d__law_many :=
  ⟨T.D__law_many.f, T.D__law_many.fd, fn_ok (k := 0) T.D__law_many.F sc__law_many (fun cdv A outer s H E hr => (is_cons (is_if (it_w (iw_or (it_lt (ie_var 0) ie_int) (iw_or1 (it_gt (ie_var 0) ie_int))))
    (is_one (is_ret ie_int))
    is_nil)
    (is_cons (is_set (i := 1) ExOk.none sc__law_many.nd rfl (.inl rfl) ie_int)
    (is_cons (is_for (vs := [2]) (passes_of rfl) rfl (ii_range1 rfl T.n_range (ia_cons (ie_sub (ie_var 0) ie_int) ia_nil)) (ig_name (i := 2) (by decide) ExOk.none sc__law_many.nd rfl (.inl rfl))
    (is_one (is_set (i := 1) ExOk.none sc__law_many.nd rfl (.inl rfl) (ie_mul (ie_var 1) ie_int))))
    (is_one (is_ret (ie_if (it_eq hr (ie_var 0) ie_int) (ie_var 1) (ie_mul (ie_fdiv (ie_var 1) ie_int) ie_int)))))))), T.D__law_many.m, T.D__law_many.F.kp, T.D__law_many.b⟩
/-! _law_names_of -/
theorem sc__law_names_of : FnScope ["_law_most", "_law_many_here", "_law_found", "_law_whole", "_law_length"] ["_law_most"] (defScope (top 27)) := ⟨rfl, rfl, rfl, by decide +kernel, rfl, by decide +kernel, by decide +kernel⟩
def b__law_names_of : DS := (sSeq (sAsg (dLc (dRange1 (dCons (dC (.int 21)) dNil)) [4] (tName 4) dYes (dCall 1 d__law_many (dCons (dVar 4) dNil))) (tName 1))
    (sSeq (sAsg (dLst (dCons (dC (.int 0)) (dCons (dC (.int 1)) dNil))) (tName 2))
    (sSeq (sFor (dRange2 (dCons (dC (.int 2)) (dCons (dOp addW (dVar 0) (dC (.int 1))) dNil))) (tName 3)
    (sExpr (dBm tyL appendW (dVar 2) (dCons (dApp sumW (dCons (dLc (dRange2 (dCons (dC (.int 1)) (dCons (dOp addW (dApp minW (dCons (dC (.int 20)) (dCons (dOp subW (dVar 3) (dC (.int 1))) dNil))) (dC (.int 1))) dNil))) [4] (tName 4) dYes (dOp mulW (dOp ixW (dVar 1) (dVar 4)) (dOp ixW (dVar 2) (dOp subW (dOp subW (dVar 3) (dC (.int 1))) (dVar 4))))) dNil)) dNil))))
    (sRet (dSl (dVar 2) dNoPart (dPart (dOp addW (dVar 0) (dC (.int 1)))))))))
def d__law_names_of : List W → Store → Res W := fnDen 5 b__law_names_of
def fn__law_names_of (T : Txt P w K mg base) : FnF P w K mg base "_law_names_of" ["_law_most"] 2 1 d__law_names_of :=
  ⟨T.D__law_names_of.f, T.D__law_names_of.fd, fn_ok (k := 1) T.D__law_names_of.F sc__law_names_of (fun cdv A outer s H E hr => (is_cons (is_set (i := 1) ExOk.none sc__law_names_of.nd rfl (.inr rfl) (ie_lc (own := [("_law_length", 4)]) rfl sc__law_names_of.nd (ii_range1 rfl T.n_range (ia_cons ie_int ia_nil)) (blkOk_by (N := ["_law_most", "_law_many_here", "_law_found", "_law_whole", "_law_length"]) (sc := defScope (top 27)) (own := [("_law_length", 4)]) (by decide +kernel)) (fun _ _ _ _ _ => (ig_name (i := 4) (by decide) ExOk.none sc__law_names_of.nd rfl (.inl rfl))) (fun _ _ _ _ _ => (ie_callF (fn__law_many T) (hr.mono (by decide)) takes0 (ia_cons (ie_var 4) ia_nil)))))
    (is_cons (is_set (i := 2) ExOk.none sc__law_names_of.nd rfl (.inr rfl) (ie_lst (ia_cons ie_int (ia_cons ie_int ia_nil))))
    (is_cons (is_for (vs := [3]) (passes_of rfl) rfl (ii_range2 rfl T.n_range (ia_cons ie_int (ia_cons (ie_add (ie_var 0) ie_int) ia_nil))) (ig_name (i := 3) (by decide) ExOk.none sc__law_names_of.nd rfl (.inr rfl))
    (is_one (is_expr (ie_append (ie_var 2) (ia_cons (ie_sum rfl rfl T.n_sum (ia_cons (ie_lc (own := [("_law_length", 4)]) rfl sc__law_names_of.nd (ii_range2 rfl T.n_range (ia_cons ie_int (ia_cons (ie_add (ie_min rfl rfl T.n_min (ia_cons ie_int (ia_cons (ie_sub (ie_var 3) ie_int) ia_nil))) ie_int) ia_nil))) (blkOk_by (N := ["_law_most", "_law_many_here", "_law_found", "_law_whole", "_law_length"]) (sc := defScope (top 27)) (own := [("_law_length", 4)]) (by decide +kernel)) (fun _ _ _ _ _ => (ig_name (i := 4) (by decide) ExOk.none sc__law_names_of.nd rfl (.inl rfl))) (fun _ _ _ _ _ => (ie_mul (ie_ix (ie_var 1) (ie_var 4)) (ie_ix (ie_var 2) (ie_sub (ie_sub (ie_var 3) ie_int) (ie_var 4)))))) ia_nil)) ia_nil)))))
    (is_one (is_ret (ie_slice (ie_var 2) io_none (io_some (ie_add (ie_var 0) ie_int))))))))), T.D__law_names_of.m, T.D__law_names_of.F.kp, T.D__law_names_of.b⟩
/-! _law_refused -/
theorem sc__law_refused : FnScope ["_law_way", "_law_value", "_law_found", "error"] ["_law_way", "_law_value"] (defScope (top 28)) := ⟨rfl, rfl, rfl, by decide +kernel, rfl, by decide +kernel, by decide +kernel⟩
def b__law_refused : DS := (sSeq (sAsg (dLst dNil) (tName 2))
    (sSeq (sTryEach (sSeq (sIf (dBool (dOp eqW (dVar 0) (dC (.int 0))))
    (sExpr (dCall 1 d_labels_of (dCons (dVar 1) dNil)))
    sNil)
    (sSeq (sIf (dBool (dOp eqW (dVar 0) (dC (.int 1))))
    (sExpr (dCall 1 d_names_of (dCons (dVar 1) dNil)))
    sNil)
    (sSeq (sIf (dBool (dOp eqW (dVar 0) (dC (.int 2))))
    (sExpr (dCall 1 d_nth_label (dCons (dVar 1) dNil)))
    sNil)
    (sIf (dBool (dOp eqW (dVar 0) (dC (.int 3))))
    (sExpr (dCall 1 d_label_index (dCons (dVar 1) dNil)))
    sNil)))) [(3, subL [("TreeError", false), ("InvalidLabel", false), ("InvalidNumber", true)], fun cN wv => (sAsg (dLst (dCons (dC (.str "number")) (dCons (dExc wv) dNil))) (tName 2))), (3, subL [("TreeError", false), ("InvalidLabel", true), ("InvalidNumber", false)], fun cN wv => (sAsg (dLst (dCons (dC (.str "label")) (dCons (dExc wv) dNil))) (tName 2)))])
    (sRet (dVar 2))))
def d__law_refused : List W → Store → Res W := fnDen 4 b__law_refused
def fn__law_refused (T : Txt P w K mg base) : FnF P w K mg base "_law_refused" ["_law_way", "_law_value"] 10 2 d__law_refused :=
  ⟨T.D__law_refused.f, T.D__law_refused.fd, fn_ok (k := 9) T.D__law_refused.F sc__law_refused (fun cdv A outer s H E hr => (is_cons (is_set (i := 2) ExOk.none sc__law_refused.nd rfl (.inl rfl) (ie_lst ia_nil))
    (is_cons (is_try_each rfl rfl sc__law_refused.nd (takes_of rfl rfl rfl rfl) (fun Wb pnb xeb tkb hpb => (is_cons (is_if (it_eq hr (ie_var 0) ie_int)
    (is_one (is_expr (ie_callF (fn_labels_of T) (hr.mono (by decide)) tkb (ia_cons (ie_var 1) ia_nil))))
    is_nil)
    (is_cons (is_if (it_eq hr (ie_var 0) ie_int)
    (is_one (is_expr (ie_callF (fn_names_of T) (hr.mono (by decide)) tkb (ia_cons (ie_var 1) ia_nil))))
    is_nil)
    (is_cons (is_if (it_eq hr (ie_var 0) ie_int)
    (is_one (is_expr (ie_callF (fn_nth_label T) (hr.mono (by decide)) tkb (ia_cons (ie_var 1) ia_nil))))
    is_nil)
    (is_one (is_if (it_eq hr (ie_var 0) ie_int)
    (is_one (is_expr (ie_callF (fn_label_index T) (hr.mono (by decide)) tkb (ia_cons (ie_var 1) ia_nil))))
    is_nil)))))) (.as_ (i := 3) rfl rfl ⟨rfl, by decide, .inl T.E_InvalidNumber.T.mgC⟩ (subL_ok (l := [("TreeError", false), ("InvalidLabel", false), ("InvalidNumber", true)]) T.sub_InvalidNumber) (fun cN C dd a y wv oe pn hsN hmN xf nv hz hfv => (is_one (is_set (i := 2) (fun x h => by cases h; show (3 : Nat) ≠ 2; decide) sc__law_refused.nd rfl (.inl rfl) (ie_lst (ia_cons ie_str (ia_cons (ie_exc xf nv hz hfv rfl (.inl rfl)) ia_nil)))))) (.as_ (i := 3) rfl rfl ⟨rfl, by decide, .inl T.E_InvalidLabel.T.mgC⟩ (subL_ok (l := [("TreeError", false), ("InvalidLabel", true), ("InvalidNumber", false)]) T.sub_InvalidLabel) (fun cN C dd a y wv oe pn hsN hmN xf nv hz hfv => (is_one (is_set (i := 2) (fun x h => by cases h; show (3 : Nat) ≠ 2; decide) sc__law_refused.nd rfl (.inl rfl) (ie_lst (ia_cons ie_str (ia_cons (ie_exc xf nv hz hfv rfl (.inl rfl)) ia_nil)))))) .nil)))
    (is_one (is_ret (ie_var 2)))))), T.D__law_refused.m, T.D__law_refused.F.kp, T.D__law_refused.b⟩
/-! _law_indexes_right -/
theorem sc__law_indexes_right : FnScope ["_law_pot_here", "_law_total", "_law_turn", "_law_more", "_law_length", "_law_ahead", "_law_many_here", "_law_index", "_law_label_here", "_law_behind", "_law_other"] ["_law_pot_here"] (defScope (top 29)) := ⟨rfl, rfl, rfl, by decide +kernel, rfl, by decide +kernel, by decide +kernel⟩
def b__law_indexes_right : DS := (sSeq (sAsg (dApp sumW (dCons (dLc (dRange2 (dCons (dC (.int 1)) (dCons (dC (.int 21)) dNil))) [4] (tName 4) dYes (dCall 1 d__law_many (dCons (dVar 4) dNil))) dNil)) (tName 1))
    (sSeq (sFor (dRange1 (dCons (dC (.int 6)) dNil)) (tName 2)
    (sSeq (sAsg (dOp addW (dC (.int 1)) (dCall 2 d__law_take (dCons (dVar 0) (dCons (dC (.int 20)) dNil)))) (tName 4))
    (sSeq (sAsg (dApp sumW (dCons (dLc (dRange2 (dCons (dC (.int 1)) (dCons (dVar 4) dNil))) [10] (tName 10) dYes (dCall 1 d__law_many (dCons (dVar 10) dNil))) dNil)) (tName 5))
    (sSeq (sAsg (dCall 1 d__law_many (dCons (dVar 4) dNil)) (tName 6))
    (sSeq (sAsg (dOp addW (dVar 5) (dApp minW (dCons (dOp subW (dVar 6) (dC (.int 1))) (dCons (dOp ixW (dLst (dCons (dC (.int 0)) (dCons (dCall 2 d__law_take (dCons (dVar 0) (dCons (dC (.int 40)) dNil))) (dCons (dOp subW (dVar 6) (dC (.int 1))) (dCons (dCall 2 d__law_take (dCons (dVar 0) (dCons (dVar 6) dNil))) dNil))))) (dCall 2 d__law_take (dCons (dVar 0) (dCons (dC (.int 4)) dNil)))) dNil)))) (tName 7))
    (sSeq (sAsg (dCall 1 d_nth_label (dCons (dVar 7) dNil)) (tName 8))
    (sSeq (sIf (dOr (dNot (dBool (dApp isiW (dCons (dVar 8) (dCons (dC (.gl (.ty "str"))) dNil))))) (dOr (dBool (dOp neW (dApp lenW (dCons (dVar 8) dNil)) (dVar 4))) (dNot (dBool (dCall 2 (d__law_same 8) (dCons (dCall 1 d_label_index (dCons (dVar 8) dNil)) (dCons (dVar 7) dNil)))))))
    (sRet (dC (.bl false)))
    sNil)
    (sIf (dBool (dOp ltW (dOp addW (dVar 7) (dC (.int 1))) (dVar 1)))
    (sSeq (sAsg (dCall 1 d_nth_label (dCons (dOp addW (dVar 7) (dC (.int 1))) dNil)) (tName 9))
    (sIf (dBool (dOp leTW (dTup (dCons (dApp lenW (dCons (dVar 9) dNil)) (dCons (dVar 9) dNil))) (dTup (dCons (dVar 4) (dCons (dVar 8) dNil)))))
    (sRet (dC (.bl false)))
    sNil))
    sNil))))))))
    (sSeq (sFor (dRange1 (dCons (dC (.int 4)) dNil)) (tName 2)
    (sSeq (sAsg (dCall 1 d__law_label (dCons (dVar 0) dNil)) (tName 8))
    (sSeq (sAsg (dCall 1 d_label_index (dCons (dVar 8) dNil)) (tName 7))
    (sSeq (sIf (dOr (dNot (dBool (dApp isiW (dCons (dVar 7) (dCons (dC (.gl (.ty "int"))) dNil))))) (dOr (dBool (dApp isiW (dCons (dVar 7) (dCons (dC (.gl (.ty "bool"))) dNil)))) (dNot (dBool (dChain leW ltW (dC (.int 0)) (dVar 7) (dVar 1))))))
    (sRet (dC (.bl false)))
    sNil)
    (sSeq (sIf (dOr (dNot (dBool (dCall 2 (d__law_same 8) (dCons (dCall 1 d_nth_label (dCons (dVar 7) dNil)) (dCons (dVar 8) dNil))))) (dBool (dOp neW (dCall 1 d_nth_label (dCons (dVar 7) dNil)) (dVar 8))))
    (sRet (dC (.bl false)))
    sNil)
    (sIf (dNot (dBool (dCall 2 (d__law_same 8) (dCons (dCall 1 d_label_index (dCons (dVar 8) dNil)) (dCons (dVar 7) dNil)))))
    (sRet (dC (.bl false)))
    sNil))))))
    (sSeq (sAsg (dOp addW (dVar 1) (dCall 2 d__law_take (dCons (dVar 0) (dCons (dOp powW (dC (.int 10)) (dC (.int 20))) dNil)))) (tName 3))
    (sRet (dAndV (dOp eqW (dCall 2 d__law_refused (dCons (dC (.int 2)) (dCons (dVar 3) dNil))) (dLst (dCons (dC (.str "number")) (dCons (dVar 3) dNil)))) (dOp eqW (dCall 2 d__law_refused (dCons (dC (.int 2)) (dCons (dVar 1) dNil))) (dLst (dCons (dC (.str "number")) (dCons (dVar 1) dNil))))))))))
def d__law_indexes_right : List W → Store → Res W := fnDen 11 b__law_indexes_right
def fn__law_indexes_right (T : Txt P w K mg base) : FnF P w K mg base "_law_indexes_right" ["_law_pot_here"] 11 1 d__law_indexes_right :=
  ⟨T.D__law_indexes_right.f, T.D__law_indexes_right.fd, fn_ok (k := 10) T.D__law_indexes_right.F sc__law_indexes_right (fun cdv A outer s H E hr => (is_cons (is_set (i := 1) ExOk.none sc__law_indexes_right.nd rfl (.inl rfl) (ie_sum rfl rfl T.n_sum (ia_cons (ie_lc (own := [("_law_length", 4)]) rfl sc__law_indexes_right.nd (ii_range2 rfl T.n_range (ia_cons ie_int (ia_cons ie_int ia_nil))) (blkOk_by (N := ["_law_pot_here", "_law_total", "_law_turn", "_law_more", "_law_length", "_law_ahead", "_law_many_here", "_law_index", "_law_label_here", "_law_behind", "_law_other"]) (sc := defScope (top 29)) (own := [("_law_length", 4)]) (by decide +kernel)) (fun _ _ _ _ _ => (ig_name (i := 4) (by decide) ExOk.none sc__law_indexes_right.nd rfl (.inl rfl))) (fun _ _ _ _ _ => (ie_callF (fn__law_many T) (hr.mono (by decide)) takes0 (ia_cons (ie_var 4) ia_nil)))) ia_nil)))
    (is_cons (is_for (vs := [2]) (passes_of rfl) rfl (ii_range1 rfl T.n_range (ia_cons ie_int ia_nil)) (ig_name (i := 2) (by decide) ExOk.none sc__law_indexes_right.nd rfl (.inl rfl))
    (is_cons (is_set (i := 4) ExOk.none sc__law_indexes_right.nd rfl (.inl rfl) (ie_add ie_int (ie_callF (fn__law_take T) (hr.mono (by decide)) (takes_of rfl rfl rfl rfl) (ia_cons (ie_var 0) (ia_cons ie_int ia_nil)))))
    (is_cons (is_set (i := 5) ExOk.none sc__law_indexes_right.nd rfl (.inl rfl) (ie_sum rfl rfl T.n_sum (ia_cons (ie_lc (own := [("_law_other", 10)]) rfl sc__law_indexes_right.nd (ii_range2 rfl T.n_range (ia_cons ie_int (ia_cons (ie_var 4) ia_nil))) (blkOk_by (N := ["_law_pot_here", "_law_total", "_law_turn", "_law_more", "_law_length", "_law_ahead", "_law_many_here", "_law_index", "_law_label_here", "_law_behind", "_law_other"]) (sc := defScope (top 29)) (own := [("_law_other", 10)]) (by decide +kernel)) (fun _ _ _ _ _ => (ig_name (i := 10) (by decide) ExOk.none sc__law_indexes_right.nd rfl (.inl rfl))) (fun _ _ _ _ _ => (ie_callF (fn__law_many T) (hr.mono (by decide)) takes0 (ia_cons (ie_var 10) ia_nil)))) ia_nil)))
    (is_cons (is_set (i := 6) ExOk.none sc__law_indexes_right.nd rfl (.inl rfl) (ie_callF (fn__law_many T) (hr.mono (by decide)) (takes_of rfl rfl rfl rfl) (ia_cons (ie_var 4) ia_nil)))
    (is_cons (is_set (i := 7) ExOk.none sc__law_indexes_right.nd rfl (.inl rfl) (ie_add (ie_var 5) (ie_min rfl rfl T.n_min (ia_cons (ie_sub (ie_var 6) ie_int) (ia_cons (ie_ix (ie_lst (ia_cons ie_int (ia_cons (ie_callF (fn__law_take T) (hr.mono (by decide)) (takes_of rfl rfl rfl rfl) (ia_cons (ie_var 0) (ia_cons ie_int ia_nil))) (ia_cons (ie_sub (ie_var 6) ie_int) (ia_cons (ie_callF (fn__law_take T) (hr.mono (by decide)) (takes_of rfl rfl rfl rfl) (ia_cons (ie_var 0) (ia_cons (ie_var 6) ia_nil))) ia_nil))))) (ie_callF (fn__law_take T) (hr.mono (by decide)) (takes_of rfl rfl rfl rfl) (ia_cons (ie_var 0) (ia_cons ie_int ia_nil)))) ia_nil)))))
    (is_cons (is_set (i := 8) ExOk.none sc__law_indexes_right.nd rfl (.inl rfl) (ie_callF (fn_nth_label T) (hr.mono (by decide)) (takes_of rfl rfl rfl rfl) (ia_cons (ie_var 7) ia_nil)))
    (is_cons (is_if (it_w (iw_or (it_not (it_val (ie_isi rfl T.n_isinstance (ia_cons (ie_var 8) (ia_cons (ie_ty (T := "str") rfl T.n_str (by decide +kernel)) ia_nil))))) (iw_or (it_ne hr (ie_len rfl T.n_len (ia_cons (ie_var 8) ia_nil)) (ie_var 4)) (iw_or1 (it_not (it_val (ie_callF (fn__law_same T 8) (hr.mono (by decide)) (takes_of rfl rfl rfl rfl) (ia_cons (ie_callF (fn_label_index T) (hr.mono (by decide)) (takes_of rfl rfl rfl rfl) (ia_cons (ie_var 8) ia_nil)) (ia_cons (ie_var 7) ia_nil)))))))))
    (is_one (is_ret ie_bl))
    is_nil)
    (is_one (is_if (it_lt (ie_add (ie_var 7) ie_int) (ie_var 1))
    (is_cons (is_set (i := 9) ExOk.none sc__law_indexes_right.nd rfl (.inl rfl) (ie_callF (fn_nth_label T) (hr.mono (by decide)) (takes_of rfl rfl rfl rfl) (ia_cons (ie_add (ie_var 7) ie_int) ia_nil)))
    (is_one (is_if (it_leT hr.units (ie_tup (ia_cons (ie_len rfl T.n_len (ia_cons (ie_var 9) ia_nil)) (ia_cons (ie_var 9) ia_nil))) (ie_tup (ia_cons (ie_var 4) (ia_cons (ie_var 8) ia_nil))))
    (is_one (is_ret ie_bl))
    is_nil)))
    is_nil)))))))))
    (is_cons (is_for (vs := [2]) (passes_of rfl) rfl (ii_range1 rfl T.n_range (ia_cons ie_int ia_nil)) (ig_name (i := 2) (by decide) ExOk.none sc__law_indexes_right.nd rfl (.inl rfl))
    (is_cons (is_set (i := 8) ExOk.none sc__law_indexes_right.nd rfl (.inl rfl) (ie_callF (fn__law_label T) (hr.mono (by decide)) (takes_of rfl rfl rfl rfl) (ia_cons (ie_var 0) ia_nil)))
    (is_cons (is_set (i := 7) ExOk.none sc__law_indexes_right.nd rfl (.inl rfl) (ie_callF (fn_label_index T) (hr.mono (by decide)) (takes_of rfl rfl rfl rfl) (ia_cons (ie_var 8) ia_nil)))
    (is_cons (is_if (it_w (iw_or (it_not (it_val (ie_isi rfl T.n_isinstance (ia_cons (ie_var 7) (ia_cons (ie_ty (T := "int") rfl T.n_int (by decide +kernel)) ia_nil))))) (iw_or (it_val (ie_isi rfl T.n_isinstance (ia_cons (ie_var 7) (ia_cons (ie_ty (T := "bool") rfl T.n_bool (by decide +kernel)) ia_nil)))) (iw_or1 (it_not (it_lelt ie_int (ie_var 7) (ie_var 1)))))))
    (is_one (is_ret ie_bl))
    is_nil)
    (is_cons (is_if (it_w (iw_or (it_not (it_val (ie_callF (fn__law_same T 8) (hr.mono (by decide)) (takes_of rfl rfl rfl rfl) (ia_cons (ie_callF (fn_nth_label T) (hr.mono (by decide)) (takes_of rfl rfl rfl rfl) (ia_cons (ie_var 7) ia_nil)) (ia_cons (ie_var 8) ia_nil))))) (iw_or1 (it_ne hr (ie_callFK (fn_nth_label T) (hr.mono (by decide)) (takes_of rfl rfl rfl rfl) T.k_nth_label (ik_cons (ie_var 7) ik_nil)) (ie_var 8)))))
    (is_one (is_ret ie_bl))
    is_nil)
    (is_one (is_if (it_not (it_val (ie_callF (fn__law_same T 8) (hr.mono (by decide)) (takes_of rfl rfl rfl rfl) (ia_cons (ie_callFK (fn_label_index T) (hr.mono (by decide)) (takes_of rfl rfl rfl rfl) T.k_label_index (ik_cons (ie_var 8) ik_nil)) (ia_cons (ie_var 7) ia_nil)))))
    (is_one (is_ret ie_bl))
    is_nil)))))))
    (is_cons (is_set (i := 3) ExOk.none sc__law_indexes_right.nd rfl (.inl rfl) (ie_add (ie_var 1) (ie_callF (fn__law_take T) (hr.mono (by decide)) (takes_of rfl rfl rfl rfl) (ia_cons (ie_var 0) (ia_cons (ie_pow ie_int ie_int) ia_nil)))))
    (is_one (is_ret (ie_and (ie_eq hr (ie_callF (fn__law_refused T) (hr.mono (by decide)) (takes_of rfl rfl rfl rfl) (ia_cons ie_int (ia_cons (ie_var 3) ia_nil))) (ie_lst (ia_cons ie_str (ia_cons (ie_var 3) ia_nil)))) (ie_one (ie_eq hr (ie_callF (fn__law_refused T) (hr.mono (by decide)) (takes_of rfl rfl rfl rfl) (ia_cons ie_int (ia_cons (ie_var 1) ia_nil))) (ie_lst (ia_cons ie_str (ia_cons (ie_var 1) ia_nil))))))))))))), T.D__law_indexes_right.m, T.D__law_indexes_right.F.kp, T.D__law_indexes_right.b⟩
/-! _law_first_labels -/
theorem sc__law_first_labels : FnScope ["_law_ends", "_law_sign"] [] (defScope (top 30)) := ⟨rfl, rfl, rfl, by decide +kernel, rfl, by decide +kernel, by decide +kernel⟩
def b__law_first_labels : DS := (sSeq (sAsg (dC (.str "0123456789abcdefghijklmnopqrstuvwxyz")) (tName 0))
    (sRet (dOp addW (dApp listAW (dCons (dVar 0) dNil)) (dLc (dIt (dVar 0)) [1] (tName 1) dYes (dOp addW (dC (.str "0")) (dVar 1))))))
def d__law_first_labels : List W → Store → Res W := fnDen 2 b__law_first_labels
def fn__law_first_labels (T : Txt P w K mg base) : FnF P w K mg base "_law_first_labels" [] 1 0 d__law_first_labels :=
  ⟨T.D__law_first_labels.f, T.D__law_first_labels.fd, fn_ok (k := 0) T.D__law_first_labels.F sc__law_first_labels (fun cdv A outer s H E hr => (is_cons (is_set (i := 0) ExOk.none sc__law_first_labels.nd rfl (.inl rfl) ie_str)
    (is_one (is_ret (ie_add (ie_listA rfl rfl T.n_list (ia_cons (ie_var 0) ia_nil)) (ie_lc (own := [("_law_sign", 1)]) rfl sc__law_first_labels.nd (ii_val (ie_var 0)) (blkOk_by (N := ["_law_ends", "_law_sign"]) (sc := defScope (top 30)) (own := [("_law_sign", 1)]) (by decide +kernel)) (fun _ _ _ _ _ => (ig_name (i := 1) (by decide) ExOk.none sc__law_first_labels.nd rfl (.inl rfl))) (fun _ _ _ _ _ => (ie_add ie_str (ie_var 1))))))))), T.D__law_first_labels.m, T.D__law_first_labels.F.kp, T.D__law_first_labels.b⟩
/-! _law_but_right -/
theorem sc__law_but_right : FnScope ["_law_pot_here", "_law_row", "_law_turn", "_law_left", "_law_some", "_law_handed", "_law_due", "_law_k", "_law_label_here"] ["_law_pot_here"] (defScope (top 31)) := ⟨rfl, rfl, rfl, by decide +kernel, rfl, by decide +kernel, by decide +kernel⟩
def b__law_but_right : DS := (sSeq (sAsg (dCall 0 d__law_first_labels dNil) (tName 1))
    (sSeq (sFor (dRange1 (dCons (dC (.int 4)) dNil)) (tName 2)
    (sSeq (sAsg (dLc (dRange1 (dCons (dCall 2 d__law_take (dCons (dVar 0) (dCons (dC (.int 4)) dNil))) dNil)) [7] (tName 7) dYes (dCall 2 d__law_take (dCons (dVar 0) (dCons (dC (.int 42)) dNil)))) (tName 3))
    (sSeq (sAsg (dLc (dRange1 (dCons (dOp ixW (dLst (dCons (dCall 2 d__law_take (dCons (dVar 0) (dCons (dC (.int 39)) dNil))) (dCons (dC (.int 36)) (dCons (dC (.int 37)) dNil)))) (dCall 2 d__law_take (dCons (dVar 0) (dCons (dC (.int 3)) dNil)))) dNil)) [7] (tName 7) (dBool (dOp (inW true) (dVar 7) (dVar 3))) (dOp ixW (dVar 1) (dVar 7))) (tName 4))
    (sSeq (sAsg (dOp addW (dVar 4) (dSl (dLst (dCons (dCall 1 d__law_label (dCons (dVar 0) dNil)) (dCons (dC (.str "*")) dNil))) dNoPart (dPart (dCall 2 d__law_take (dCons (dVar 0) (dCons (dC (.int 3)) dNil)))))) (tName 4))
    (sSeq (sIf (dBool (dOp eqW (dCall 2 d__law_take (dCons (dVar 0) (dCons (dC (.int 2)) dNil))) (dC (.int 0))))
    (sAsg (dUn revW (dVar 4)) (tName 4))
    sNil)
    (sSeq (sAsg (dApp listAW (dCons (dVar 4) dNil)) (tName 5))
    (sSeq (sAsg (dOp ixW (dLc (dIt (dVar 1)) [8] (tName 8) (dBool (dOp (inW true) (dVar 8) (dVar 4))) (dVar 8)) (dC (.int 0))) (tName 6))
    (sIf (dOr (dNot (dBool (dCall 2 (d__law_same 8) (dCons (dCall 1 d_label_but (dCons (dVar 5) dNil)) (dCons (dVar 6) dNil))))) (dOr (dBool (dOp neW (dVar 5) (dVar 4))) (dBool (dOp neW (dCall 1 d_label_but (dCons (dVar 5) dNil)) (dVar 6)))))
    (sRet (dC (.bl false)))
    sNil))))))))
    (sRet (dC (.bl true)))))
def d__law_but_right : List W → Store → Res W := fnDen 9 b__law_but_right
def fn__law_but_right (T : Txt P w K mg base) : FnF P w K mg base "_law_but_right" ["_law_pot_here"] 9 1 d__law_but_right :=
  ⟨T.D__law_but_right.f, T.D__law_but_right.fd, fn_ok (k := 8) T.D__law_but_right.F sc__law_but_right (fun cdv A outer s H E hr => (is_cons (is_set (i := 1) ExOk.none sc__law_but_right.nd rfl (.inr rfl) (ie_callF0 (fn__law_first_labels T) (hr.mono (by decide)) (takes_of rfl rfl rfl rfl)))
    (is_cons (is_for (vs := [2]) (passes_of rfl) rfl (ii_range1 rfl T.n_range (ia_cons ie_int ia_nil)) (ig_name (i := 2) (by decide) ExOk.none sc__law_but_right.nd rfl (.inl rfl))
    (is_cons (is_set (i := 3) ExOk.none sc__law_but_right.nd rfl (.inr rfl) (ie_lc (own := [("_law_k", 7)]) rfl sc__law_but_right.nd (ii_range1 rfl T.n_range (ia_cons (ie_callF (fn__law_take T) (hr.mono (by decide)) (takes_of rfl rfl rfl rfl) (ia_cons (ie_var 0) (ia_cons ie_int ia_nil))) ia_nil)) (blkOk_by (N := ["_law_pot_here", "_law_row", "_law_turn", "_law_left", "_law_some", "_law_handed", "_law_due", "_law_k", "_law_label_here"]) (sc := defScope (top 31)) (own := [("_law_k", 7)]) (by decide +kernel)) (fun _ _ _ _ _ => (ig_name (i := 7) (by decide) ExOk.none sc__law_but_right.nd rfl (.inl rfl))) (fun _ _ _ _ _ => (ie_callF (fn__law_take T) (hr.mono (by decide)) takes0 (ia_cons (ie_var 0) (ia_cons ie_int ia_nil))))))
    (is_cons (is_set (i := 4) ExOk.none sc__law_but_right.nd rfl (.inr rfl) (ie_lcIf (own := [("_law_k", 7)]) rfl sc__law_but_right.nd (ii_range1 rfl T.n_range (ia_cons (ie_ix (ie_lst (ia_cons (ie_callF (fn__law_take T) (hr.mono (by decide)) (takes_of rfl rfl rfl rfl) (ia_cons (ie_var 0) (ia_cons ie_int ia_nil))) (ia_cons ie_int (ia_cons ie_int ia_nil)))) (ie_callF (fn__law_take T) (hr.mono (by decide)) (takes_of rfl rfl rfl rfl) (ia_cons (ie_var 0) (ia_cons ie_int ia_nil)))) ia_nil)) (blkOk_by (N := ["_law_pot_here", "_law_row", "_law_turn", "_law_left", "_law_some", "_law_handed", "_law_due", "_law_k", "_law_label_here"]) (sc := defScope (top 31)) (own := [("_law_k", 7)]) (by decide +kernel)) (fun _ _ _ _ _ => (ig_name (i := 7) (by decide) ExOk.none sc__law_but_right.nd rfl (.inl rfl))) (fun _ _ _ _ _ => (it_notIn (ie_var 7) (ie_var 3))) (fun _ _ _ _ _ => (ie_ix (ie_var 1) (ie_var 7)))))
    (is_cons (is_set (i := 4) ExOk.none sc__law_but_right.nd rfl (.inr rfl) (ie_add (ie_var 4) (ie_slice (ie_lst (ia_cons (ie_callF (fn__law_label T) (hr.mono (by decide)) (takes_of rfl rfl rfl rfl) (ia_cons (ie_var 0) ia_nil)) (ia_cons ie_str ia_nil))) io_none (io_some (ie_callF (fn__law_take T) (hr.mono (by decide)) (takes_of rfl rfl rfl rfl) (ia_cons (ie_var 0) (ia_cons ie_int ia_nil)))))))
    (is_cons (is_if (it_eq hr (ie_callF (fn__law_take T) (hr.mono (by decide)) (takes_of rfl rfl rfl rfl) (ia_cons (ie_var 0) (ia_cons ie_int ia_nil))) ie_int)
    (is_one (is_set (i := 4) ExOk.none sc__law_but_right.nd rfl (.inr rfl) (ie_rev (ie_var 4))))
    is_nil)
    (is_cons (is_set (i := 5) ExOk.none sc__law_but_right.nd rfl (.inl rfl) (ie_listA rfl rfl T.n_list (ia_cons (ie_var 4) ia_nil)))
    (is_cons (is_set (i := 6) ExOk.none sc__law_but_right.nd rfl (.inl rfl) (ie_ix (ie_lcIf (own := [("_law_label_here", 8)]) rfl sc__law_but_right.nd (ii_val (ie_var 1)) (blkOk_by (N := ["_law_pot_here", "_law_row", "_law_turn", "_law_left", "_law_some", "_law_handed", "_law_due", "_law_k", "_law_label_here"]) (sc := defScope (top 31)) (own := [("_law_label_here", 8)]) (by decide +kernel)) (fun _ _ _ _ _ => (ig_name (i := 8) (by decide) ExOk.none sc__law_but_right.nd rfl (.inl rfl))) (fun _ _ _ _ _ => (it_notIn (ie_var 8) (ie_var 4))) (fun _ _ _ _ _ => (ie_var 8))) ie_int))
    (is_one (is_if (it_w (iw_or (it_not (it_val (ie_callF (fn__law_same T 8) (hr.mono (by decide)) (takes_of rfl rfl rfl rfl) (ia_cons (ie_callF (fn_label_but T) (hr.mono (by decide)) (takes_of rfl rfl rfl rfl) (ia_cons (ie_var 5) ia_nil)) (ia_cons (ie_var 6) ia_nil))))) (iw_or (it_ne hr (ie_var 5) (ie_var 4)) (iw_or1 (it_ne hr (ie_callFK (fn_label_but T) (hr.mono (by decide)) (takes_of rfl rfl rfl rfl) T.k_label_but (ik_cons (ie_var 5) ik_nil)) (ie_var 6))))))
    (is_one (is_ret ie_bl))
    is_nil)))))))))
    (is_one (is_ret ie_bl))))), T.D__law_but_right.m, T.D__law_but_right.F.kp, T.D__law_but_right.b⟩
/-! _law_counts_right -/
theorem sc__law_counts_right : FnScope ["_law_pot_here", "_law_whole", "_law_turn", "_law_way", "_law_most", "_law_due", "_law_other", "_law_length"] ["_law_pot_here", "_law_whole"] (defScope (top 32)) := ⟨rfl, rfl, rfl, by decide +kernel, rfl, by decide +kernel, by decide +kernel⟩
def b__law_counts_right : DS := (sSeq (sFor (dRange1 (dCons (dC (.int 4)) dNil)) (tName 2)
    (sSeq (sAsg (dOp ixW (dLst (dCons (dCall 2 d__law_take (dCons (dVar 0) (dCons (dC (.int 26)) dNil))) (dCons (dCall 2 d__law_take (dCons (dVar 0) (dCons (dOp powW (dC (.int 10)) (dC (.int 30))) dNil))) dNil))) (dApp intOfW (dCons (dOp eqW (dCall 2 d__law_take (dCons (dVar 0) (dCons (dC (.int 6)) dNil))) (dC (.int 5))) dNil))) (tName 7))
    (sIf (dOr (dNot (dBool (dCall 2 (d__law_same 8) (dCons (dCall 1 d_labels_of (dCons (dVar 7) dNil)) (dCons (dCall 1 d__law_many (dCons (dVar 7) dNil)) dNil))))) (dBool (dOp neW (dCall 1 d_labels_of (dCons (dVar 7) dNil)) (dCall 1 d__law_many (dCons (dVar 7) dNil)))))
    (sRet (dC (.bl false)))
    sNil)))
    (sSeq (sAsg (dCall 2 d__law_take (dCons (dVar 0) (dCons (dC (.int 8)) dNil))) (tName 3))
    (sSeq (sAsg (dCall 2 d__law_take (dCons (dVar 0) (dCons (dC (.int 61)) dNil))) (tName 4))
    (sSeq (sIf (dAnd (dBool (dVar 1)) (dBool (dOp eqW (dVar 3) (dC (.int 6)))))
    (sAsg (dCall 2 d__law_take (dCons (dVar 0) (dCons (dC (.int 401)) dNil))) (tName 4))
    sNil)
    (sSeq (sIf (dAnd (dBool (dVar 1)) (dBool (dOp eqW (dVar 3) (dC (.int 7)))))
    (sAsg (dC (.int 400)) (tName 4))
    sNil)
    (sSeq (sAsg (dCall 1 d__law_names_of (dCons (dVar 4) dNil)) (tName 5))
    (sSeq (sIf (dNot (dBool (dCall 2 (d__law_same 8) (dCons (dCall 1 d_names_of (dCons (dVar 4) dNil)) (dCons (dOp ixW (dVar 5) (dVar 4)) dNil)))))
    (sRet (dC (.bl false)))
    sNil)
    (sSeq (sFor (dIt (dLst (dCons (dC (.int 0)) (dCons (dC (.int 1)) (dCons (dC (.int 2)) (dCons (dC (.int 3)) (dCons (dOp fdivW (dVar 4) (dC (.int 2))) dNil))))))) (tName 6)
    (sIf (dAnd (dBool (dOp leW (dVar 6) (dVar 4))) (dNot (dBool (dCall 2 (d__law_same 8) (dCons (dCall 1 d_names_of (dCons (dVar 6) dNil)) (dCons (dOp ixW (dVar 5) (dVar 6)) dNil))))))
    (sRet (dC (.bl false)))
    sNil))
    (sRet (dC (.bl true)))))))))))
def d__law_counts_right : List W → Store → Res W := fnDen 8 b__law_counts_right
def fn__law_counts_right (T : Txt P w K mg base) : FnF P w K mg base "_law_counts_right" ["_law_pot_here", "_law_whole"] 9 2 d__law_counts_right :=
  ⟨T.D__law_counts_right.f, T.D__law_counts_right.fd, fn_ok (k := 8) T.D__law_counts_right.F sc__law_counts_right (fun cdv A outer s H E hr => (is_cons (is_for (vs := [2]) (passes_of rfl) rfl (ii_range1 rfl T.n_range (ia_cons ie_int ia_nil)) (ig_name (i := 2) (by decide) ExOk.none sc__law_counts_right.nd rfl (.inl rfl))
    (is_cons (is_set (i := 7) ExOk.none sc__law_counts_right.nd rfl (.inl rfl) (ie_ix (ie_lst (ia_cons (ie_callF (fn__law_take T) (hr.mono (by decide)) (takes_of rfl rfl rfl rfl) (ia_cons (ie_var 0) (ia_cons ie_int ia_nil))) (ia_cons (ie_callF (fn__law_take T) (hr.mono (by decide)) (takes_of rfl rfl rfl rfl) (ia_cons (ie_var 0) (ia_cons (ie_pow ie_int ie_int) ia_nil))) ia_nil))) (ie_intOf rfl T.n_int (ia_cons (ie_eq hr (ie_callF (fn__law_take T) (hr.mono (by decide)) (takes_of rfl rfl rfl rfl) (ia_cons (ie_var 0) (ia_cons ie_int ia_nil))) ie_int) ia_nil))))
    (is_one (is_if (it_w (iw_or (it_not (it_val (ie_callF (fn__law_same T 8) (hr.mono (by decide)) (takes_of rfl rfl rfl rfl) (ia_cons (ie_callF (fn_labels_of T) (hr.mono (by decide)) (takes_of rfl rfl rfl rfl) (ia_cons (ie_var 7) ia_nil)) (ia_cons (ie_callF (fn__law_many T) (hr.mono (by decide)) (takes_of rfl rfl rfl rfl) (ia_cons (ie_var 7) ia_nil)) ia_nil))))) (iw_or1 (it_ne hr (ie_callFK (fn_labels_of T) (hr.mono (by decide)) (takes_of rfl rfl rfl rfl) T.k_labels_of (ik_cons (ie_var 7) ik_nil)) (ie_callF (fn__law_many T) (hr.mono (by decide)) (takes_of rfl rfl rfl rfl) (ia_cons (ie_var 7) ia_nil))))))
    (is_one (is_ret ie_bl))
    is_nil))))
    (is_cons (is_set (i := 3) ExOk.none sc__law_counts_right.nd rfl (.inl rfl) (ie_callF (fn__law_take T) (hr.mono (by decide)) (takes_of rfl rfl rfl rfl) (ia_cons (ie_var 0) (ia_cons ie_int ia_nil))))
    (is_cons (is_set (i := 4) ExOk.none sc__law_counts_right.nd rfl (.inl rfl) (ie_callF (fn__law_take T) (hr.mono (by decide)) (takes_of rfl rfl rfl rfl) (ia_cons (ie_var 0) (ia_cons ie_int ia_nil))))
    (is_cons (is_if (it_w (iw_and (it_val (ie_var 1)) (iw_and1 (it_eq hr (ie_var 3) ie_int))))
    (is_one (is_set (i := 4) ExOk.none sc__law_counts_right.nd rfl (.inl rfl) (ie_callF (fn__law_take T) (hr.mono (by decide)) (takes_of rfl rfl rfl rfl) (ia_cons (ie_var 0) (ia_cons ie_int ia_nil)))))
    is_nil)
    (is_cons (is_if (it_w (iw_and (it_val (ie_var 1)) (iw_and1 (it_eq hr (ie_var 3) ie_int))))
    (is_one (is_set (i := 4) ExOk.none sc__law_counts_right.nd rfl (.inl rfl) ie_int))
    is_nil)
    (is_cons (is_set (i := 5) ExOk.none sc__law_counts_right.nd rfl (.inl rfl) (ie_callF (fn__law_names_of T) (hr.mono (by decide)) (takes_of rfl rfl rfl rfl) (ia_cons (ie_var 4) ia_nil)))
    (is_cons (is_if (it_not (it_val (ie_callF (fn__law_same T 8) (hr.mono (by decide)) (takes_of rfl rfl rfl rfl) (ia_cons (ie_callFK (fn_names_of T) (hr.mono (by decide)) (takes_of rfl rfl rfl rfl) T.k_names_of (ik_cons (ie_var 4) ik_nil)) (ia_cons (ie_ix (ie_var 5) (ie_var 4)) ia_nil)))))
    (is_one (is_ret ie_bl))
    is_nil)
    (is_cons (is_for (vs := [6]) (passes_of rfl) rfl (ii_val (ie_lst (ia_cons ie_int (ia_cons ie_int (ia_cons ie_int (ia_cons ie_int (ia_cons (ie_fdiv (ie_var 4) ie_int) ia_nil))))))) (ig_name (i := 6) (by decide) ExOk.none sc__law_counts_right.nd rfl (.inl rfl))
    (is_one (is_if (it_w (iw_and (it_le (ie_var 6) (ie_var 4)) (iw_and1 (it_not (it_val (ie_callF (fn__law_same T 8) (hr.mono (by decide)) (takes_of rfl rfl rfl rfl) (ia_cons (ie_callF (fn_names_of T) (hr.mono (by decide)) (takes_of rfl rfl rfl rfl) (ia_cons (ie_var 6) ia_nil)) (ia_cons (ie_ix (ie_var 5) (ie_var 6)) ia_nil))))))))
    (is_one (is_ret ie_bl))
    is_nil)))
    (is_one (is_ret ie_bl))))))))))), T.D__law_counts_right.m, T.D__law_counts_right.F.kp, T.D__law_counts_right.b⟩
/-! _law_refusals_right -/
theorem sc__law_refusals_right : FnScope ["_law_pot_here", "_law_below", "_law_way", "_law_bad"] ["_law_pot_here"] (defScope (top 33)) := ⟨rfl, rfl, rfl, by decide +kernel, rfl, by decide +kernel, by decide +kernel⟩
def b__law_refusals_right : DS := (sSeq (sAsg (dOp subW (dUn negW (dC (.int 1))) (dCall 2 d__law_take (dCons (dVar 0) (dCons (dOp powW (dC (.int 10)) (dC (.int 20))) dNil)))) (tName 1))
    (sSeq (sFor (dRange1 (dCons (dC (.int 3)) dNil)) (tName 2)
    (sIf (dOr (dBool (dOp neW (dCall 2 d__law_refused (dCons (dVar 2) (dCons (dVar 1) dNil))) (dLst (dCons (dC (.str "number")) (dCons (dVar 1) dNil))))) (dBool (dOp neW (dCall 2 d__law_refused (dCons (dVar 2) (dCons (dUn negW (dC (.int 1))) dNil))) (dLst (dCons (dC (.str "number")) (dCons (dUn negW (dC (.int 1))) dNil))))))
    (sRet (dC (.bl false)))
    sNil))
    (sSeq (sAsg (dOp ixW (dLst (dCons (dC (.str "*")) (dCons (dOp mulW (dC (.str "a")) (dC (.int 21))) (dCons (dC (.str "")) (dCons (dC (.str "-a")) (dCons (dCall 1 d__law_odd (dCons (dVar 0) dNil)) (dCons (dTup (dCons (dC (.str "a")) dNil)) dNil))))))) (dCall 2 d__law_take (dCons (dVar 0) (dCons (dC (.int 6)) dNil)))) (tName 3))
    (sSeq (sIf (dBool (dOp eqW (dVar 3) (dC (.str "a"))))
    (sAsg (dC (.str "a-")) (tName 3))
    sNil)
    (sRet (dAndV (dOp eqW (dCall 2 d__law_refused (dCons (dC (.int 3)) (dCons (dVar 3) dNil))) (dLst (dCons (dC (.str "label")) (dCons (dVar 3) dNil)))) (dOp eqW (dCall 2 d__law_refused (dCons (dC (.int 3)) (dCons (dC (.str "*")) dNil))) (dLst (dCons (dC (.str "label")) (dCons (dC (.str "*")) dNil))))))))))
def d__law_refusals_right : List W → Store → Res W := fnDen 4 b__law_refusals_right
def fn__law_refusals_right (T : Txt P w K mg base) : FnF P w K mg base "_law_refusals_right" ["_law_pot_here"] 11 1 d__law_refusals_right :=
  ⟨T.D__law_refusals_right.f, T.D__law_refusals_right.fd, fn_ok (k := 10) T.D__law_refusals_right.F sc__law_refusals_right (fun cdv A outer s H E hr => (is_cons (is_set (i := 1) ExOk.none sc__law_refusals_right.nd rfl (.inl rfl) (ie_sub (ie_neg ie_int) (ie_callF (fn__law_take T) (hr.mono (by decide)) (takes_of rfl rfl rfl rfl) (ia_cons (ie_var 0) (ia_cons (ie_pow ie_int ie_int) ia_nil)))))
    (is_cons (is_for (vs := [2]) (passes_of rfl) rfl (ii_range1 rfl T.n_range (ia_cons ie_int ia_nil)) (ig_name (i := 2) (by decide) ExOk.none sc__law_refusals_right.nd rfl (.inl rfl))
    (is_one (is_if (it_w (iw_or (it_ne hr (ie_callF (fn__law_refused T) (hr.mono (by decide)) (takes_of rfl rfl rfl rfl) (ia_cons (ie_var 2) (ia_cons (ie_var 1) ia_nil))) (ie_lst (ia_cons ie_str (ia_cons (ie_var 1) ia_nil)))) (iw_or1 (it_ne hr (ie_callF (fn__law_refused T) (hr.mono (by decide)) (takes_of rfl rfl rfl rfl) (ia_cons (ie_var 2) (ia_cons (ie_neg ie_int) ia_nil))) (ie_lst (ia_cons ie_str (ia_cons (ie_neg ie_int) ia_nil)))))))
    (is_one (is_ret ie_bl))
    is_nil)))
    (is_cons (is_set (i := 3) ExOk.none sc__law_refusals_right.nd rfl (.inl rfl) (ie_ix (ie_lst (ia_cons ie_str (ia_cons (ie_mul ie_str ie_int) (ia_cons ie_str (ia_cons ie_str (ia_cons (ie_callF (fn__law_odd T) (hr.mono (by decide)) (takes_of rfl rfl rfl rfl) (ia_cons (ie_var 0) ia_nil)) (ia_cons (ie_tup (ia_cons ie_str ia_nil)) ia_nil))))))) (ie_callF (fn__law_take T) (hr.mono (by decide)) (takes_of rfl rfl rfl rfl) (ia_cons (ie_var 0) (ia_cons ie_int ia_nil)))))
    (is_cons (is_if (it_eq hr (ie_var 3) ie_str)
    (is_one (is_set (i := 3) ExOk.none sc__law_refusals_right.nd rfl (.inl rfl) ie_str))
    is_nil)
    (is_one (is_ret (ie_and (ie_eq hr (ie_callF (fn__law_refused T) (hr.mono (by decide)) (takes_of rfl rfl rfl rfl) (ia_cons ie_int (ia_cons (ie_var 3) ia_nil))) (ie_lst (ia_cons ie_str (ia_cons (ie_var 3) ia_nil)))) (ie_one (ie_eq hr (ie_callF (fn__law_refused T) (hr.mono (by decide)) (takes_of rfl rfl rfl rfl) (ia_cons ie_int (ia_cons ie_str ia_nil))) (ie_lst (ia_cons ie_str (ia_cons ie_str ia_nil))))))))))))), T.D__law_refusals_right.m, T.D__law_refusals_right.F.kp, T.D__law_refusals_right.b⟩
/-! law -/
theorem sc_law : FnScope ["_law_script", "_law_k", "_law_pot_here"] ["_law_script"] (defScope (top 34)) := ⟨rfl, rfl, rfl, by decide +kernel, rfl, by decide +kernel, by decide +kernel⟩
def b_law : DS := (sSeq (sFor (dRange1 (dCons (dApp maxW (dCons (dC (.int 1)) (dCons (dApp minW (dCons (dC (.int 3)) (dCons (dApp lenW (dCons (dVar 0) dNil)) dNil))) dNil))) dNil)) (tName 1)
    (sSeq (sAsg (dCall 2 d__law_pot (dCons (dVar 0) (dCons (dVar 1) dNil))) (tName 2))
    (sSeq (sIf (dOr (dNot (dBool (dCall 2 d__law_counts_right (dCons (dVar 2) (dCons (dOp eqW (dVar 1) (dC (.int 0))) dNil))))) (dNot (dBool (dCall 1 d__law_indexes_right (dCons (dVar 2) dNil)))))
    (sRet (dC (.bl false)))
    sNil)
    (sIf (dOr (dNot (dBool (dCall 1 d__law_but_right (dCons (dVar 2) dNil)))) (dNot (dBool (dCall 1 d__law_refusals_right (dCons (dVar 2) dNil)))))
    (sRet (dC (.bl false)))
    sNil))))
    (sRet (dC (.bl true))))
def d_law : List W → Store → Res W := fnDen 3 b_law
def fn_law (T : Txt P w K mg base) : FnF P w K mg base "law" ["_law_script"] 12 1 d_law :=
  ⟨T.D_law.f, T.D_law.fd, fn_ok (k := 11) T.D_law.F sc_law (fun cdv A outer s H E hr => (is_cons (is_for (vs := [1]) (passes_of rfl) rfl (ii_range1 rfl T.n_range (ia_cons (ie_max rfl rfl T.n_max (ia_cons ie_int (ia_cons (ie_min rfl rfl T.n_min (ia_cons ie_int (ia_cons (ie_len rfl T.n_len (ia_cons (ie_var 0) ia_nil)) ia_nil))) ia_nil))) ia_nil)) (ig_name (i := 1) (by decide) ExOk.none sc_law.nd rfl (.inl rfl))
    (is_cons (is_set (i := 2) ExOk.none sc_law.nd rfl (.inl rfl) (ie_callF (fn__law_pot T) (hr.mono (by decide)) (takes_of rfl rfl rfl rfl) (ia_cons (ie_var 0) (ia_cons (ie_var 1) ia_nil))))
    (is_cons (is_if (it_w (iw_or (it_not (it_val (ie_callF (fn__law_counts_right T) (hr.mono (by decide)) (takes_of rfl rfl rfl rfl) (ia_cons (ie_var 2) (ia_cons (ie_eq hr (ie_var 1) ie_int) ia_nil))))) (iw_or1 (it_not (it_val (ie_callF (fn__law_indexes_right T) (hr.mono (by decide)) (takes_of rfl rfl rfl rfl) (ia_cons (ie_var 2) ia_nil)))))))
    (is_one (is_ret ie_bl))
    is_nil)
    (is_one (is_if (it_w (iw_or (it_not (it_val (ie_callF (fn__law_but_right T) (hr.mono (by decide)) (takes_of rfl rfl rfl rfl) (ia_cons (ie_var 2) ia_nil)))) (iw_or1 (it_not (it_val (ie_callF (fn__law_refusals_right T) (hr.mono (by decide)) (takes_of rfl rfl rfl rfl) (ia_cons (ie_var 2) ia_nil)))))))
    (is_one (is_ret ie_bl))
    is_nil)))))
    (is_one (is_ret ie_bl)))), T.D_law.m, T.D_law.F.kp, T.D_law.b⟩
end
end
end K03
namespace K03
open PySem PySem.Spec PyProof.Rows L2 MP
open Classical
noncomputable section
def IN : List Nat := c_INNER.cps.toList
def EN : List Nat := c_ENDS.cps.toList
def star : Str := "*"
/-! labels -/
def fst0 (x : Str) : Nat := (x.cps.toList[0]?).getD 0
def lst0 (x : Str) : Nat := (x.cps.toList[x.length - 1]?).getD 0
def plainB (x : Str) : Bool := decide (1 ≤ x.length) && decide (x.length ≤ 20) && x.cps.toList.all (fun c => decide (c ∈ IN)) && decide (fst0 x ∈ EN) && decide (lst0 x ∈ EN)
theorem strip_all {x y : Str} : (Txt.stripChars x y == ("" : Str)) = x.cps.toList.all (fun c => decide (c ∈ y.cps.toList)) := by
  rw [PySem.Txt.stripChars.eq_1, stripBy_eq]
  have key : ∀ (g : Nat → Bool) (l : List Nat), (∀ c ∈ l, g c = true) ↔ l.takeWhile g = l := fun g l => by
    induction l with
    | nil => simp
    | cons a l ih =>
      by_cases h : g a = true
      · rw [List.takeWhile_cons_of_pos h]; simp [h, ih]
      · rw [List.takeWhile_cons_of_neg h]; simp [h]
  have ec : ∀ c, y.cps.contains c = decide (c ∈ y.cps.toList) := fun c => by
    rw [Bool.eq_iff_iff]; simp
  have hall : x.cps.toList.all (fun c => decide (c ∈ y.cps.toList)) = x.cps.toList.all y.cps.contains := by
    congr 1; funext c; exact (ec c).symm
  rw [hall]
  generalize y.cps.contains = g
  unfold PySem.stripLo PySem.stripHi
  simp only [if_true]
  rw [Bool.eq_iff_iff, beq_iff_eq, List.all_eq_true]
  unfold PySem.Builtin.Str.strSub
  have hlen : x.length = x.cps.toList.length := by simp [Str.length]
  constructor
  · intro h
    have h' : (x.cps.extract (List.takeWhile g x.cps.toList).length (x.length - (List.takeWhile g (List.drop (List.takeWhile g x.cps.toList).length x.cps.toList).reverse).length)).size = 0 := by
      exact (congrArg (fun s : Str => s.cps.size) h).trans rfl
    rw [Array.size_extract] at h'
    rw [key]
    -- the rest behind the left run
    have hsplit := List.takeWhile_append_dropWhile (p := g) (l := x.cps.toList)
    have hd : List.drop (List.takeWhile g x.cps.toList).length x.cps.toList = List.dropWhile g x.cps.toList := by
      conv => lhs; arg 2; rw [← hsplit]
      rw [List.drop_left]
    rw [hd] at h'
    have hL : (List.takeWhile g x.cps.toList).length + (List.dropWhile g x.cps.toList).length = x.length := by
      rw [hlen, ← List.length_append, hsplit]
    cases hD : List.dropWhile g x.cps.toList with
    | nil => rw [hD, List.append_nil] at hsplit; exact hsplit
    | cons a r =>
      exfalso
      have ha : g a = false := by
        have := List.head_dropWhile_not g (l := x.cps.toList) (by rw [hD]; simp)
        simpa [hD] using this
      rw [hD] at h' hL
      have h2 : (List.takeWhile g (a :: r).reverse).length ≤ r.length := by
        rw [List.reverse_cons, List.takeWhile_append]
        split
        · rw [List.takeWhile_cons_of_neg (by simp [ha])]; simp
        · rename_i hn
          have := (List.takeWhile_sublist (p := g) (l := r.reverse)).length_le
          simpa using this
      have hs : x.cps.size = x.length := rfl
      simp only [List.length_cons] at hL
      omega
  · intro h
    have e := (key g _).mp h
    rw [e]
    have h0 : ∀ (k : Nat), x.cps.extract x.cps.toList.length k = #[] := fun k => by
      apply Array.eq_empty_of_size_eq_zero
      rw [Array.size_extract]
      have : x.cps.toList.length = x.cps.size := by simp
      omega
    exact congrArg Str.mk (h0 _)
theorem len_in {c : Nat} (h : c ∈ IN) : c < 128 := by
  have : ∀ c ∈ IN, c < 128 := by decide +kernel
  exact this c h
theorem en_in : ∀ c ∈ IN, (c ∈ EN ↔ c ≠ 45) := by decide +kernel
/-! rows for whole numbers -/
section
variable {st : Store} {i j : Int}
@[simp] theorem addW_i : addW (.int i) (.int j) st = .ok (.int (i + j)) st := rfl
@[simp] theorem subW_i : subW (.int i) (.int j) st = .ok (.int (i - j)) st := rfl
@[simp] theorem leW_i : leW (.int i) (.int j) st = .ok (.bl (decide (i ≤ j))) st := rfl
@[simp] theorem ltW_i : ltW (.int i) (.int j) st = .ok (.bl (decide (i < j))) st := rfl
@[simp] theorem gtW_i : gtW (.int i) (.int j) st = .ok (.bl (decide (j < i))) st := rfl
@[simp] theorem negW_i : negW (.int i) st = .ok (.int (-i)) st := rfl
@[simp] theorem minW_i : minW [.int i, .int j] st = .ok (.int (if j < i then j else i)) st := rfl
@[simp] theorem maxW_i : maxW [.int i, .int j] st = .ok (.int (if j > i then j else i)) st := rfl
@[simp] theorem absW_i : absW [.int i] st = .ok (.int (if i < 0 then -i else i)) st := rfl
@[simp] theorem intOf_i : intOfW [.int i] st = .ok (.int i) st := rfl
@[simp] theorem intOf_b {b : Bool} : intOfW [.bl b] st = .ok (.int (if b then 1 else 0)) st := rfl
@[simp] theorem tuple_t {ws : List W} : tupleW [.tup ws] st = .ok (.tup ws) st := rfl
@[simp] theorem clB_b {n : Nat} {b : Bool} : clB n (.bl b) = true := rfl
@[simp] theorem clB_s {n : Nat} {b : Str} : clB n (.str b) = true := rfl
@[simp] theorem clB_i {n : Nat} : clB n (.int i) = true := rfl
@[simp] theorem clB_n {n : Nat} : clB n .non = true := rfl
@[simp] theorem gc_b {b : Bool} : gc st (.bl b) st = .ok (.bl b) st := gc_same rfl
@[simp] theorem gc_s {b : Str} : gc st (.str b) st = .ok (.str b) st := gc_same rfl
@[simp] theorem gc_i : gc st (.int i) st = .ok (.int i) st := gc_same rfl
@[simp] theorem gc_n : gc st .non st = .ok .non st := gc_same rfl
@[simp] theorem gc_ba {b : Bool} {g : Store} : gc st (.bl b) (st ++ g) = .ok (.bl b) st := gc_app rfl
@[simp] theorem gc_sa {b : Str} {g : Store} : gc st (.str b) (st ++ g) = .ok (.str b) st := gc_app rfl
@[simp] theorem gc_na {g : Store} : gc st .non (st ++ g) = .ok .non st := gc_app rfl
end
theorem ok_nil : okS ("" : Str) = true := by decide +kernel
theorem ok_star : okS ("*" : Str) = true := by decide +kernel
theorem ok_wild : okS c_WILD = true := by decide +kernel
theorem ok_dash : okS ("-" : Str) = true := by decide +kernel
theorem ok_dot : okS ("." : Str) = true := by decide +kernel
theorem ok_one {c : Nat} (h : c < 128) : okS ⟨#[c]⟩ = true := by
  rw [okS_iff]; exact ⟨by show 1 ≤ _; decide, fun d hd => by simp at hd; omega⟩
theorem stripBy_mem {x y : Str} : ∀ c ∈ (Txt.stripChars x y).cps.toList, c ∈ x.cps.toList := fun c h => by
  rw [PySem.Txt.stripChars.eq_1, stripBy_eq] at h
  unfold PySem.Builtin.Str.strSub at h
  simp only [Array.toList_extract, List.extract] at h
  exact List.mem_of_mem_drop (List.mem_of_mem_take h)
theorem okS.strip {x y : Str} (h : okS x = true) : okS (Txt.stripChars x y) = true :=
  okS_iff.mpr ⟨Nat.le_trans (len_stripChars x y) (okS.len h), fun c hc => (okS_iff.mp h).2 c (stripBy_mem c hc)⟩
theorem fst0_of {x : Str} {c : Nat} (h : x.cps.toList[(0 : Int).toNat]? = some c) : fst0 x = c := by
  unfold fst0; rw [show (0 : Nat) = (0 : Int).toNat from rfl, h]; rfl
theorem lst0_of {x : Str} {c : Nat} (h : x.cps.toList[x.length - 1]? = some c) : lst0 x = c := by
  unfold lst0; rw [h]; rfl
theorem plain_ok {x : Str} {st : Store} (h : okS x = true) : d__is_plain [.str x] st = .ok (.bl (plainB x)) st := by
  unfold d__is_plain; rw [fnDen_ap]; unfold b__is_plain
  by_cases h1 : 1 ≤ x.length
  · by_cases h2 : x.length ≤ 20
    · obtain ⟨c, hc, hm, e⟩ := ix_str (x := x) (i := 0) (okS.line h) (by decide) (by omega)
      obtain ⟨t, ht, hmt, e'⟩ := ix_strL (x := x) (okS.line h) (by omega)
      have hn1 : ¬ (x.length : Int) < 1 := by omega
      have s1 : stripW (.str x) [.str c_INNER] st = .ok (.str (Txt.stripChars x c_INNER)) st := by unfold stripW; simp only [if_pos (okS.line h)]
      have hp : plainB x = (x.cps.toList.all (fun c => decide (c ∈ IN)) && (decide (c ∈ EN) && decide (t ∈ EN))) := by
        unfold plainB
        rw [fst0_of hc, lst0_of ht, decide_eq_true h1, decide_eq_true h2, Bool.and_assoc, Bool.true_and, Bool.true_and]
      have l1 : (decide ((1 : Int) ≤ (x.length : Int))) = true := decide_eq_true (by omega)
      have l2 : (decide ((x.length : Int) ≤ 20)) = true := decide_eq_true (by omega)
      have hs : (Txt.stripChars x c_INNER == ("" : Str)) = x.cps.toList.all (fun c => decide (c ∈ IN)) := strip_all
      have e1 : inW false (.str ⟨#[c]⟩) (.str c_ENDS) st = .ok (.bl (decide (c ∈ EN))) st := in_sign
      have e2 : inW false (.str ⟨#[t]⟩) (.str c_ENDS) st = .ok (.bl (decide (t ∈ EN))) st := in_sign
      rw [hp]
      generalize x.cps.toList.all (fun c => decide (c ∈ IN)) = A at hs ⊢
      generalize decide (c ∈ EN) = B at e1 ⊢
      generalize decide (t ∈ EN) = C at e2 ⊢
      simp [len_str (okS.line h), l1, l2, s1, eqW_str (okS.strip h) ok_nil, hs]
      cases A with
      | false => simp
      | true =>
        simp [e, e', e1, e2]
        cases B <;> simp [e, e', e1, e2]
    · have hp : plainB x = false := by unfold plainB; simp [h2]
      have l1 : (decide ((1 : Int) ≤ (x.length : Int))) = true := decide_eq_true (by omega)
      have l2 : (decide ((x.length : Int) ≤ 20)) = false := decide_eq_false (by omega)
      rw [hp]
      simp [len_str (okS.line h), l1, l2]
  · have hp : plainB x = false := by unfold plainB; simp [h1]
    have l1 : (decide ((1 : Int) ≤ (x.length : Int))) = false := decide_eq_false (by omega)
    rw [hp]
    simp [len_str (okS.line h), l1]
def labB (u : W) : Bool := match u with
  | .str x => x == ("*" : Str) || plainB x
  | _ => false
def okU : W → Prop
  | .str x => okS x = true
  | _ => True
theorem Pic.str {st : Store} {w : W} {x : Str} (h : Pic st w (.str x)) : w = .str x ∧ okS x = true := by
  cases h with
  | pu _ h => exact ⟨rfl, h⟩
theorem label_ok {w u : W} {st : Store} (h : Pic st w u) : d_is_label [w] st = .ok (.bl (labB u)) st := by
  unfold d_is_label; rw [fnDen_ap]; unfold b_is_label
  cases u with
  | str x =>
    obtain ⟨rfl, hx⟩ := Pic.str h
    simp [pic_isS h, isS, eqW_str hx ok_wild]
    show _ = Res.ok (W.bl (x == c_WILD || plainB x)) st
    cases x == c_WILD <;> simp [plain_ok hx]
  | _ => simp [pic_isS h, isS, labB]
def GD : List Nat := ("abcdefghijklmnopqrstuvwxyz0123456789-" : Str).cps.toList
theorem gd_in : ∀ c, c ∈ GD ↔ c ∈ IN := fun c => ⟨fun h => (by decide +kernel : ∀ c ∈ GD, c ∈ IN) c h, fun h => (by decide +kernel : ∀ c ∈ IN, c ∈ GD) c h⟩
theorem plain_law {x : Str} (h1 : 1 ≤ x.length) (h2 : x.length ≤ 20) : plainB x = (x.cps.toList.all (fun c => decide (c ∈ GD)) && (!(fst0 x == 45) && !(lst0 x == 45))) := by
  unfold plainB
  rw [decide_eq_true h1, decide_eq_true h2]
  have hl : x.cps.toList.length = x.length := by simp [Str.length]
  have e : x.cps.toList.all (fun c => decide (c ∈ GD)) = x.cps.toList.all (fun c => decide (c ∈ IN)) := by
    congr 1; funext c; simp only [gd_in c]
  rw [e]
  cases h : x.cps.toList.all (fun c => decide (c ∈ IN)) with
  | false => rfl
  | true =>
    rw [List.all_eq_true] at h
    have hf : ∀ i, i < x.cps.toList.length → decide ((x.cps.toList[i]?).getD 0 ∈ EN) = !((x.cps.toList[i]?).getD 0 == 45) := fun i hi => by
      rw [List.getElem?_eq_getElem hi, Option.getD_some]
      have hm := en_in _ (of_decide_eq_true (h _ (List.getElem_mem hi)))
      by_cases hx : x.cps.toList[i] = 45
      · rw [decide_eq_false (fun z => hm.mp z hx), hx]; rfl
      · rw [decide_eq_true (hm.mpr hx), beq_false_of_ne hx]; rfl
    have f1 := hf 0 (by omega)
    have f2 := hf (x.length - 1) (by omega)
    unfold fst0 lst0
    rw [f1, f2]; simp
theorem beq_sign {c : Nat} : ((⟨#[c]⟩ : Str) == ("-" : Str)) = (c == 45) := by
  rw [Bool.eq_iff_iff, beq_iff_eq, beq_iff_eq]
  constructor
  · intro h
    have := congrArg (fun s : Str => s.cps.toList) h
    have h' : [c] = [45] := this
    simpa using h'
  · intro h; subst h; rfl
/-! names -/
def plS : W → Bool | .str x => plainB x | _ => false
def askB : W → Bool | .tup ws => ws.all plS | _ => false
def hdS : List W → Bool | .str x :: _ => x == c_WILD | _ => false
def nameB : W → Bool | .tup ws => (if hdS ws = true then ws.drop 1 else ws).all plS | _ => false
theorem eqv_str {n : Nat} {w : W} {x : Str} : (dat (n + 1) w).eqv (.str x) = (match w with | .str y => y == x | _ => false) := by
  cases w with
  | str y => simp only [dat, PyData.eqv.eq_6]
  | non => rfl
  | bl b => rfl
  | int b => rfl
  | tup ws => rfl
  | _ => rfl
def hdX (s : Str) : List W → Bool | .str x :: _ => x == s | _ => false
theorem line8 {n : Nat} (h : n ≤ 8192) : n ≤ sizeLine := Nat.le_trans h (by decide)
theorem head_ok {ws : List W} {st : Store} {s : Str} (h : pu (.tup ws)) (hs : okS s = true) : eqW (.tup (ws.take 1)) (.tup [.str s]) st = .ok (.bl (hdX s ws)) st := by
  obtain ⟨hl, hi⟩ := pu_items h
  have h1 : pu (.tup (ws.take 1)) := by
    show (decide ((ws.take 1).length ≤ 8192) && (ws.take 1).all (puB 4)) = true
    rw [Bool.and_eq_true, decide_eq_true_iff, List.all_eq_true]
    exact ⟨by simp; omega, fun a ha => hi a (List.mem_of_mem_take ha)⟩
  have h2 : pu (.tup [.str s]) := by
    show (decide (1 ≤ 8192) && (okS s && true)) = true
    rw [hs]; rfl
  rw [pic_eq (.pu _ h1) (.pu _ h2)]
  congr 2
  cases ws with
  | nil => rfl
  | cons w r =>
    show PyData.eqv (.tuple [dat 4 w]) (.tuple [.str s]) = _
    rw [PyData.eqv.eq_8, PyData.eqvAll.eq_2, PyData.eqvAll.eq_1, Bool.and_true, eqv_str]
    cases w <;> rfl
theorem nhead_ok {ws : List W} {st : Store} {s : Str} (h : pu (.tup ws)) (hs : okS s = true) : neW (.tup (ws.take 1)) (.tup [.str s]) st = .ok (.bl (!hdX s ws)) st := by
  have e := head_ok (st := st) h hs
  unfold eqW at e
  unfold neW
  split at e
  · split at e
    · rename_i d e' h1 h2 hs
      simp only [h1, h2, if_pos hs]
      injection e with e1 _
      injection e1 with e1
      rw [e1]
    · cases e
  · cases e
theorem pu_sub {ws : List W} (h : pu (.tup ws)) (r : List W) (hr : ∀ w ∈ r, w ∈ ws) (hl : r.length ≤ ws.length) : pu (.tup r) := by
  obtain ⟨hl', hi⟩ := pu_items h
  show (decide (r.length ≤ 8192) && r.all (puB 4)) = true
  rw [Bool.and_eq_true, decide_eq_true_iff, List.all_eq_true]
  exact ⟨by omega, fun a ha => hi a (hr a ha)⟩
@[simp] theorem sl_to {ws : List W} {st : Store} : slW (.tup ws) none (some 1) st = .ok (.tup (ws.take 1)) st := by
  show Res.ok (W.tup (cutW ws none (some ((1 : Nat) : Int)))) st = _
  rw [cut_to]
@[simp] theorem sl_from {ws : List W} {st : Store} : slW (.tup ws) (some 1) none st = .ok (.tup (ws.drop 1)) st := by
  show Res.ok (W.tup (cutW ws (some ((1 : Nat) : Int)) none)) st = _
  rw [cut_from]
theorem tup_one {s : Str} {st : Store} : kTup [.str s] st = .ok (.tup [.str s]) st := kTup_ok (Nat.le_trans (by simp : [W.str s].length ≤ 1) (by decide))
theorem star_plain : plainB ("*" : Str) = false := by decide +kernel
theorem labs_strs : ∀ {ws : List W}, ws.all labB = true → ∃ xs : List Str, ws = xs.map W.str
  | [], _ => ⟨[], rfl⟩
  | w :: ws, h => by
    rw [List.all_cons, Bool.and_eq_true] at h
    obtain ⟨xs, rfl⟩ := labs_strs h.2
    cases w with
    | str x => exact ⟨x :: xs, rfl⟩
    | _ => exact nomatch (show false = true from h.1)
theorem lab_split (x : Str) : (labB (.str x) && !(x == ("*" : Str))) = plainB x := by
  show ((x == ("*" : Str) || plainB x) && _) = _
  cases h : (x == ("*" : Str)) with
  | true =>
    have : x = "*" := beq_iff_eq.mp h
    subst this
    rw [star_plain]; rfl
  | false => simp
theorem range_all {β : Type} (l : List β) (f : Nat → Bool) (g : β → Bool) : (∀ i b, l[i]? = some b → f i = g b) → (List.range l.length).all f = l.all g := by
  intro h
  rw [Bool.eq_iff_iff, List.all_eq_true, List.all_eq_true]
  constructor
  · intro hf b hb
    obtain ⟨i, hi, rfl⟩ := List.getElem_of_mem hb
    rw [← h i _ (List.getElem?_eq_getElem hi)]
    exact hf i (List.mem_range.mpr hi)
  · intro hg i hi
    have hi := List.mem_range.mp hi
    rw [h i _ (List.getElem?_eq_getElem hi)]
    exact hg _ (List.getElem_mem hi)
theorem lt62 {n : Nat} (h : n ≤ 8192) : (n : Int) < 2 ^ 62 := Int.lt_of_le_of_lt (Int.ofNat_le.mpr h) (by decide)
theorem ints1 (n : Nat) : intsW 1 ((n : Int) - 1).toNat = (List.range (n - 1)).map fun i : Nat => W.int (1 + (i : Nat)) := by
  unfold intsW; rw [show ((n : Int) - 1).toNat = n - 1 by omega]
/-! copies -/
theorem rebuilt_pu : ∀ (n : Nat) (w : W), puB n w = true → n ≤ 5 → ∀ (m : Nat) (st : Store), n ≤ m → d_rebuilt m [w] st = .ok w st
  | 0, _, h, _, _, _, _ => nomatch (show false = true from h)
  | n + 1, w, h, hn, 0, st, hm => by omega
  | n + 1, w, h, hn, m + 1, st, hm => by
    have hp : pu w := puB_mono h hn
    unfold d_rebuilt; rw [fnDen_ap]; unfold b_rebuilt
    cases w with
    | tup ws =>
      have h' : (decide (ws.length ≤ 8192) && ws.all (puB n)) = true := h
      rw [Bool.and_eq_true, decide_eq_true_iff, List.all_eq_true] at h'
      have kl := kLc_mapB (env := [some (.tup ws), none]) (i := 1) (e := dCall 1 (d_rebuilt m) (dCons (dVar 1) dNil)) (st := st) (src := none) (fun w : W => w) (fun w => w) ws (by simp) (fun b hb => by
        simp [rebuilt_pu n b (h'.2 b hb) (by omega) m st (by omega)]) (line8 h'.1)
      rw [List.map_id'] at kl
      have hg : gc st (.tup ws) (st ++ [.lst ws]) = .ok (.tup ws) st := gc_app (cl_pu _ 5 _ hp)
      have ht : tupleW [.loc st.length] (st ++ [.lst ws]) = .ok (.tup ws) (st ++ [.lst ws]) := by
        unfold tupleW lstW; simp
      simp [pic_isL (.pu (st := st) _ hp), pic_isT (.pu (st := st) _ hp), isT, isL, wipeW, kl, ht, hg]
    | str x => simp [pic_isL (.pu (st := st) _ hp), pic_isT (.pu (st := st) _ hp), isT, isL]
    | bl x => simp [pic_isL (.pu (st := st) _ hp), pic_isT (.pu (st := st) _ hp), isT, isL]
    | int x => simp [pic_isL (.pu (st := st) _ hp), pic_isT (.pu (st := st) _ hp), isT, isL, gc_same]
    | non => simp [pic_isL (.pu (st := st) _ hp), pic_isT (.pu (st := st) _ hp), isT, isL]
    | _ => exact nomatch (show false = true from h)
/-- the copy of a value: the value itself, or a new list -/
theorem rebuilt_ok {w u : W} {st : Store} (h : Pic st w u) : ∃ w' g, d_rebuilt 8 [w] st = .ok w' (st ++ g) ∧ Pic (st ++ g) w' u ∧ (∀ ws, u = .fro ws → w' = .loc st.length ∧ g = [.lst ws]) := by
  cases h with
  | pu _ h => exact ⟨w, [], by rw [rebuilt_pu 5 w h (by decide) 8 st (by decide), List.append_nil], .pu _ h, fun ws e => by subst e; exact nomatch (show false = true from h)⟩
  | ls k ws h hl hw =>
    refine ⟨.loc st.length, [.lst ws], ?_, .ls _ ws (by simp) hl hw, fun ws' e => by cases e; exact ⟨rfl, rfl⟩⟩
    have hP : Pic st (.loc k) (.fro ws) := .ls k ws h hl hw
    show d_rebuilt (7 + 1) [.loc k] st = _
    unfold d_rebuilt; rw [fnDen_ap]; unfold b_rebuilt
    have kl := kLc_mapB (env := [some (.loc k), none]) (i := 1) (e := dCall 1 (d_rebuilt 7) (dCons (dVar 1) dNil)) (st := st) (src := some k) (fun w : W => w) (fun w => w) ws (by simpa using h) (fun b hb => by
      simp [rebuilt_pu 5 b (hw b hb) (by decide) 7 st (by decide)]) (line8 hl)
    rw [List.map_id'] at kl
    have hg : gc st (.loc st.length) (st ++ [.lst ws]) = .ok (.loc st.length) (st ++ [.lst ws]) := gc_newA (Nat.le_refl _) (by simp) (cls_pu _ 5 ws hw)
    simp [pic_isL hP, isL, wipeW, itOf_loc h, kl, hg]
/-! names shown -/
theorem name_strs {u : W} (h : nameB u = true) : ∃ xs : List Str, u = .tup (xs.map W.str) ∧ ∀ x ∈ xs, x.length ≤ 20 ∧ ¬ 46 ∈ x.cps.toList := by
  have pl : ∀ x, plainB x = true → x.length ≤ 20 ∧ ¬ 46 ∈ x.cps.toList := fun x hx => by
    unfold plainB at hx
    simp only [Bool.and_eq_true, decide_eq_true_eq, List.all_eq_true] at hx
    exact ⟨hx.1.1.1.2, fun z => by have := hx.1.1.2 46 z; revert this; decide +kernel⟩
  have all : ∀ ws : List W, ws.all plS = true → ∃ xs : List Str, ws = xs.map W.str ∧ ∀ x ∈ xs, x.length ≤ 20 ∧ ¬ 46 ∈ x.cps.toList := by
    intro ws
    induction ws with
    | nil => intro _; exact ⟨[], rfl, fun _ z => nomatch z⟩
    | cons w r ih =>
      intro h
      rw [List.all_cons, Bool.and_eq_true] at h
      obtain ⟨xs, rfl, hx⟩ := ih h.2
      cases w with
      | str x => exact ⟨x :: xs, rfl, fun y hy => by
          rcases List.mem_cons.mp hy with rfl | hy
          · exact pl _ h.1
          · exact hx y hy⟩
      | _ => exact nomatch (show false = true from h.1)
  cases u with
  | tup ws =>
    have h' : (if hdS ws = true then ws.drop 1 else ws).all plS = true := h
    by_cases hh : hdS ws = true
    · rw [if_pos hh] at h'
      obtain ⟨xs, e, hx⟩ := all _ h'
      cases ws with
      | nil => exact ⟨[], rfl, fun _ z => nomatch z⟩
      | cons w r =>
        cases w with
        | str x =>
          have hx' : x = c_WILD := beq_iff_eq.mp hh
          subst hx'
          refine ⟨c_WILD :: xs, ?_, fun y hy => ?_⟩
          · have e' : r = xs.map W.str := by simpa using e
            rw [e']; rfl
          · rcases List.mem_cons.mp hy with rfl | hy
            · decide +kernel
            · exact hx y hy
        | _ => exact nomatch (show false = true from hh)
    · rw [if_neg hh] at h'
      obtain ⟨xs, rfl, hx⟩ := all _ h'
      exact ⟨xs, rfl, hx⟩
  | _ => exact nomatch (show false = true from h)
def dotS : Str := "."
def showT (xs : List Str) : Str := Txt.join ("" : Str) (xs.map fun x => x ++ dotS)
def shownS (xs : List Str) : Str := if xs.isEmpty = true then dotS else showT xs
/-! texts -/
abbrev cl (x : Str) : List Nat := x.cps.toList
theorem str_ext {x y : Str} (h : cl x = cl y) : x = y := by
  obtain ⟨x⟩ := x; obtain ⟨y⟩ := y
  have : x = y := Array.toList_inj.mp h
  rw [this]
theorem cl_app (x y : Str) : cl (x ++ y) = cl x ++ cl y := by
  show (x.cps ++ y.cps).toList = _
  simp [cl]
theorem len_cl (x : Str) : x.length = (cl x).length := by simp [Str.length, cl]
theorem fold_cl (s : Array Nat) : ∀ (r : List Str) (a : Array Nat), (r.foldl (fun acc p => acc ++ s ++ p.cps) a).toList = a.toList ++ (r.map fun p => s.toList ++ cl p).flatten
  | [], a => by simp
  | p :: r, a => by
    rw [List.foldl_cons, fold_cl s r]; simp [cl]
theorem join_cl (s : Str) (p : Str) (r : List Str) : cl (Txt.join s (p :: r)) = cl p ++ (r.map fun p => cl s ++ cl p).flatten := by
  show (List.foldl _ p.cps r).toList = _
  exact fold_cl s.cps r p.cps
theorem join_nil (s : Str) : cl (Txt.join s []) = [] := rfl
theorem join0 (ys : List Str) : cl (Txt.join ("" : Str) ys) = (ys.map cl).flatten := by
  cases ys with
  | nil => rfl
  | cons p r =>
    rw [join_cl]
    have : cl ("" : Str) = [] := rfl
    simp [this]
theorem dot_cl : cl dotS = [46] := rfl
theorem show_cl (xs : List Str) : cl (showT xs) = (xs.map fun x => cl x ++ [46]).flatten := by
  unfold showT
  rw [join0, List.map_map]
  refine congrArg List.flatten (List.map_congr_left fun x _ => ?_)
  show cl (x ++ dotS) = _
  rw [cl_app, dot_cl]
theorem show_join {xs : List Str} (h : xs ≠ []) : cl (showT xs) = cl (Txt.join dotS xs) ++ [46] := by
  rw [show_cl]
  cases xs with
  | nil => exact absurd rfl h
  | cons p r =>
    rw [join_cl, dot_cl]
    have key : ∀ (r : List Str) (a : List Nat), (a ++ [46]) ++ (r.map fun x => cl x ++ [46]).flatten = a ++ (r.map fun p => [46] ++ cl p).flatten ++ [46] := by
      intro r
      induction r with
      | nil => intro a; simp
      | cons x r ih =>
        intro a
        have := ih (a ++ [46] ++ cl x)
        simp only [List.map_cons, List.flatten_cons, List.append_assoc] at this ⊢
        exact this
    rw [List.map_cons, List.flatten_cons]
    exact key r (cl p)
def cutT (t : Str) : Str := cutS t none (some (-1))
theorem cutT_cl (t : Str) : cl (cutT t) = (cl t).take (t.length - 1) := by
  unfold cutT cutS HT.sIx
  simp only [List.drop_zero, Nat.sub_zero]
  rw [if_pos (by decide)]
  have : ((-1 : Int) + (t.length : Int)).toNat = t.length - 1 := by omega
  rw [this]
theorem cutT_law {t : Str} (h : 1 ≤ t.length) : cutS t none (some ((t.length : Int) - 1)) = cutT t := by
  apply str_ext
  rw [cutT_cl]
  unfold cutS HT.sIx
  simp only [List.drop_zero, Nat.sub_zero]
  rw [if_neg (by omega)]
  have : ((t.length : Int) - 1).toNat = t.length - 1 := by omega
  rw [this, Nat.min_eq_left (by omega)]
def lastDot (t : Str) : Bool := decide (1 ≤ t.length) && (lst0 t == 46)
theorem ends_dot (t : Str) : Txt.endswith t dotS = lastDot t := by
  unfold Txt.endswith lastDot
  have h1 : dotS.length = 1 := rfl
  rw [h1, Nat.zero_add]
  by_cases h : 1 ≤ t.length
  · rw [decide_eq_true h, Bool.true_and, Bool.true_and]
    unfold Builtin.Str.subAt lst0
    rw [h1]
    have hl : t.length - 1 < t.cps.toList.length := by rw [show t.cps.toList.length = t.length from (len_cl t).symm]; omega
    rw [List.getElem?_eq_getElem hl, Option.getD_some, Bool.eq_iff_iff, beq_iff_eq, beq_iff_eq]
    have e : (t.cps.extract (t.length - 1) (t.length - 1 + 1)).toList = [t.cps.toList[t.length - 1]] := by
      rw [Array.toList_extract]
      unfold List.extract
      rw [show t.length - 1 + 1 - (t.length - 1) = 1 by omega, List.drop_eq_getElem_cons hl]; simp
    constructor
    · intro hx
      have := congrArg Array.toList hx
      rw [e] at this
      have h2 : [t.cps.toList[t.length - 1]] = [46] := this
      simpa using h2
    · intro hx
      apply Array.toList_inj.mp
      rw [e, hx]; rfl
  · rw [decide_eq_false h]; rfl
theorem last_cl {t : Str} (h : lastDot t = true) : cl t = cl (cutT t) ++ [46] := by
  unfold lastDot at h
  rw [Bool.and_eq_true, decide_eq_true_iff, beq_iff_eq] at h
  have hl : t.length - 1 < (cl t).length := by rw [← len_cl]; omega
  have h2 : (cl t)[t.length - 1] = 46 := by
    have := h.2
    unfold lst0 at this
    rw [List.getElem?_eq_getElem hl] at this
    simpa using this
  rw [cutT_cl]
  conv => lhs; rw [← List.take_append_drop (t.length - 1) (cl t)]
  rw [List.drop_eq_getElem_cons hl, h2, List.drop_of_length_le (by rw [← len_cl]; omega)]
def parts (t : Str) : List Str := Txt.split (cutT t) dotS
theorem parts_ne (t : Str) : parts t ≠ [] := fun h => by
  have := split_pos (cutT t) dotS
  rw [show Txt.split (cutT t) dotS = [] from h] at this
  simp at this
theorem parts_join (t : Str) : Txt.join dotS (parts t) = cutT t := (StrLaws.glued_eq_join dotS (parts t)).trans (StrLaws.join_split (cutT t) dotS)
theorem show_parts {t : Str} (h : lastDot t = true) : showT (parts t) = t := by
  apply str_ext
  rw [show_join (parts_ne t), parts_join, last_cl h]
theorem parts_show {xs : List Str} (h : xs ≠ []) (hd : ∀ x ∈ xs, ¬ 46 ∈ cl x) : parts (showT xs) = xs := by
  have e : cutT (showT xs) = Txt.join dotS xs := by
    apply str_ext
    rw [cutT_cl, show_join h, len_cl, show_join h]
    simp
  unfold parts
  rw [e]
  exact TL.split_join (y := dotS) (s := 46) (S := []) rfl (by decide +kernel) h hd
theorem show_last {xs : List Str} (h : xs ≠ []) : lastDot (showT xs) = true := by
  have e := show_join h
  unfold lastDot lst0
  have hl : (showT xs).length = (cl (Txt.join dotS xs)).length + 1 := by rw [len_cl, e]; simp
  rw [hl, decide_eq_true (by omega)]
  have e2 : (showT xs).cps.toList = cl (Txt.join dotS xs) ++ [46] := e
  rw [e2, Nat.add_sub_cancel]
  simp
theorem mem_join {s : Str} : ∀ {ys : List Str} {y : Str} {c : Nat}, y ∈ ys → c ∈ cl y → c ∈ cl (Txt.join s ys) := by
  intro ys y c hy hc
  cases ys with
  | nil => nomatch hy
  | cons p r =>
    rw [join_cl, List.mem_append]
    rcases List.mem_cons.mp hy with rfl | hy
    · exact .inl hc
    · exact .inr (List.mem_flatten.mpr ⟨_, List.mem_map_of_mem hy, List.mem_append.mpr (.inr hc)⟩)
theorem parts_ok {t : Str} (h : okS t = true) (hl : t.length ≤ 8000) : pu (.tup ((parts t).map W.str)) := by
  have hc : (cutT t).length ≤ t.length := by
    rw [len_cl, cutT_cl, len_cl]; simp
  show (decide (((parts t).map W.str).length ≤ 8192) && ((parts t).map W.str).all (puB 4)) = true
  rw [Bool.and_eq_true, decide_eq_true_iff, List.all_eq_true]
  refine ⟨?_, fun a ha => ?_⟩
  · have := split_le (cutT t) dotS
    rw [List.length_map]
    show (Txt.split (cutT t) dotS).length ≤ 8192
    omega
  · obtain ⟨p, hp, rfl⟩ := List.mem_map.mp ha
    show okS p = true
    rw [okS_iff]
    refine ⟨Nat.le_trans (part_short hp) (by omega), fun c hcp => (okS_iff.mp h).2 c ?_⟩
    have h1 : c ∈ cl (Txt.join dotS (parts t)) := mem_join hp hcp
    rw [parts_join, cutT_cl] at h1
    exact List.mem_of_mem_take h1
theorem show_len (xs : List Str) (h : ∀ x ∈ xs, x.length ≤ 20) : (showT xs).length ≤ 21 * xs.length := by
  rw [len_cl, show_cl]
  induction xs with
  | nil => simp
  | cons x r ih =>
    have h1 := h x List.mem_cons_self
    have h2 := ih fun y hy => h y (List.mem_cons_of_mem _ hy)
    rw [len_cl] at h1
    simp only [List.map_cons, List.flatten_cons, List.length_append, List.length_cons, List.length_nil] at h2 ⊢
    omega
theorem show_okS {xs : List Str} (h : ∀ x ∈ xs, okS x = true) (hl : (showT xs).length ≤ 8192) : okS (showT xs) = true := by
  rw [okS_iff]
  refine ⟨hl, fun c hc => ?_⟩
  have hc : c ∈ (xs.map fun x => cl x ++ [46]).flatten := by rw [← show_cl]; exact hc
  obtain ⟨l, hl, hcl⟩ := List.mem_flatten.mp hc
  obtain ⟨x, hx, rfl⟩ := List.mem_map.mp hl
  rcases List.mem_append.mp hcl with h1 | h1
  · exact (okS_iff.mp (h x hx)).2 c h1
  · have : c = 46 := by simpa using h1
    omega
theorem name_pu {st : Store} {w : W} {ws : List W} (h : Pic st w (.tup ws)) : w = .tup ws ∧ pu (.tup ws) := by
  cases h with
  | pu _ h => exact ⟨rfl, h⟩
theorem eq_empty {ws : List W} {st : Store} (h : pu (.tup ws)) : eqW (.tup ws) (.tup []) st = .ok (.bl ws.isEmpty) st := by
  rw [pic_eq (.pu _ h) (.pu _ rfl)]
  congr 2
  cases ws <;> rfl
theorem addW_s {x y : Str} {st : Store} (h : x.length + y.length ≤ sizeLine) : addW (.str x) (.str y) st = .ok (.str (x ++ y)) st := by
  show (if x.length + y.length ≤ sizeLine then _ else _) = _
  rw [if_pos h]
theorem join_here {st : Store} {ys : List Str} {z : Str} (h : (ys.map (·.length)).sum + ys.length * z.length ≤ 16777216) : joinW (.str z) [.loc st.length] (st ++ [.lst (ys.map W.str)]) = .ok (.str (Txt.join z ys)) (st ++ [.lst (ys.map W.str)]) := by
  have e : strsW (st ++ [.lst (ys.map W.str)]) (.loc st.length) = some ys := by
    unfold strsW seqW
    simp only [get_here, Option.bind_some, List.map_map]
    have := allO_of (stOf ∘ W.str) id ys (fun _ _ => rfl)
    rw [this]; simp
  show (match strsW (st ++ [.lst (ys.map W.str)]) (.loc st.length) with | some ys => _ | none => _) = _
  rw [e]
  exact if_pos h
theorem sum_le {xs : List Str} {f : Str → Nat} {k : Nat} (h : ∀ x ∈ xs, f x ≤ k) : (xs.map f).sum ≤ k * xs.length := by
  induction xs with
  | nil => simp
  | cons x r ih =>
    have h1 := h x List.mem_cons_self
    have h2 := ih fun y hy => h y (List.mem_cons_of_mem _ hy)
    simp only [List.map_cons, List.sum_cons, List.length_cons]
    rw [Nat.mul_add, Nat.mul_one]; omega
theorem len_add (x y : Str) : (x ++ y).length = x.length + y.length := by rw [len_cl, cl_app, List.length_append, ← len_cl, ← len_cl]
/-- (label + ".") of each, joined -/
theorem dots_ok {env : EnvW} {src : Option Nat} {i : Nat} {xs : List Str} {st : Store} (hi : i < env.length) (hc : (ItW.mk (xs.map W.str) src).Chk st) (hx : ∀ x ∈ xs, x.length ≤ 100) (hl : xs.length ≤ 8192) :
    kLc env (tName i) dYes (dOp addW (dVar i) (dC (.str "."))) ⟨xs.map W.str, src⟩ st = .ok (.loc st.length) (st ++ [.lst ((xs.map fun x => x ++ dotS).map W.str)]) ∧
    joinW (.str "") [.loc st.length] (st ++ [.lst ((xs.map fun x => x ++ dotS).map W.str)]) = .ok (.str (showT xs)) (st ++ [.lst ((xs.map fun x => x ++ dotS).map W.str)]) := by
  constructor
  · have := kLc_mapB (env := env) (i := i) (e := dOp addW (dVar i) (dC (.str ("." : Str)))) (st := st) (src := src) W.str (fun x => W.str (x ++ dotS)) xs hc (fun b hb => by
      have h1 := hx b hb
      have ha : addW (.str b) (.str ".") st = .ok (.str (b ++ dotS)) st := addW_s (Nat.le_trans (Nat.add_le_add_right h1 _) (by decide +kernel))
      simp -implicitDefEqProofs [hi, ha]) (line8 hl)
    rw [this, List.map_map]; rfl
  · refine join_here ?_
    have h1 : ((xs.map fun x => x ++ dotS).map (·.length)).sum ≤ 101 * xs.length := by
      rw [List.map_map]
      exact sum_le fun x hx' => by
        show (x ++ dotS).length ≤ 101
        rw [len_add]
        have := hx x hx'
        have h2 : dotS.length = 1 := rfl
        omega
    have h2 : ("" : Str).length = 0 := rfl
    rw [h2, Nat.mul_zero]
    omega
/-! names read -/
def readB (t : Str) : Bool := lastDot t && nameB (.tup ((parts t).map W.str))
theorem tuple_here {st : Store} {ws : List W} : tupleW [.loc st.length] (st ++ [.lst ws]) = .ok (.tup ws) (st ++ [.lst ws]) := by
  unfold tupleW lstW; simp
theorem split_here {t : Str} {st : Store} (h : (cutT t).length + 2 ≤ sizeLine) : splitW (.str (cutT t)) [.str "."] st = .ok (.loc st.length) (st ++ [.lst ((parts t).map W.str)]) := by
  show (if ((("." : Str).length == 0) = false ∧ (cutT t).length + 2 ≤ sizeLine) then _ else _) = _
  rw [if_pos ⟨rfl, h⟩]; rfl
theorem cut_len (t : Str) : (cutT t).length ≤ t.length := by
  rw [len_cl, cutT_cl, len_cl]; simp
theorem cut_okS {t : Str} (h : okS t = true) : okS (cutT t) = true := by
  rw [okS_iff]
  exact ⟨Nat.le_trans (cut_len t) (okS.len h), fun c hc => (okS_iff.mp h).2 c (by
    have : c ∈ cl (cutT t) := hc
    rw [cutT_cl] at this
    exact List.mem_of_mem_take this)⟩
theorem line2 {n : Nat} (h : n ≤ 8192) : n + 2 ≤ sizeLine := Nat.le_trans (Nat.add_le_add_right h 2) (by decide)
theorem sl_cut {t : Str} {st : Store} (h : okS t = true) : slW (.str t) none (some (-1)) st = .ok (.str (cutT t)) st := by
  show (if t.length ≤ sizeLine then _ else _) = _
  rw [if_pos (okS.line h)]; rfl
theorem sl_cutL {t : Str} {st : Store} (h : okS t = true) (h1 : 1 ≤ t.length) : slW (.str t) none (some ((t.length : Int) - 1)) st = .ok (.str (cutT t)) st := by
  show (if t.length ≤ sizeLine then _ else _) = _
  rw [if_pos (okS.line h), cutT_law h1]
theorem ends_ok {t : Str} {st : Store} : endswithW (.str t) [.str "."] st = .ok (.bl (lastDot t)) st := by
  show Res.ok (W.bl (Txt.endswith t dotS)) st = _
  rw [ends_dot]
/-- what the law reads: a list of at most one name -/
def lawR (t : Str) : List W := if t = "." then [.tup []] else if readB t = true then [.tup ((parts t).map W.str)] else []
theorem _root_.MP.Pic.app {st : Store} {w u : W} (g : Store) (h : Pic st w u) : Pic (st ++ g) w u := by
  cases h with
  | pu _ h => exact .pu _ h
  | ls k ws h hl hw => exact .ls k ws (get_app g h) hl hw
/-! alike -/
theorem same_bl {n : Nat} {a b : Bool} {st : Store} : d__law_same (n + 1) [.bl a, .bl b] st = .ok (.bl (a == b)) st := by
  unfold d__law_same; rw [fnDen_ap]; unfold b__law_same
  have h1 : isi2W "tuple" "list" (.bl b) st = .ok (.bl false) st := rfl
  have h2 : isNW (.bl b) .non st = .ok (.bl false) st := rfl
  have h3 : isiW [.bl b, .gl (.ty "bool")] st = .ok (.bl true) st := rfl
  have h4 : isiW [.bl a, .gl (.ty "bool")] st = .ok (.bl true) st := rfl
  simp -implicitDefEqProofs [h1, h2, h3, h4]
theorem same_seq {m : Nat} {a b : W} {T : String} {x y : Bool} {ws vs : List W} {st : Store} (ha : tyN st a = some T) (hb : tyN st b = some T) (hx : kitB T "tuple" = some x) (hy : kitB T "list" = some y) (hxy : (x || y) = true)
    (sa : seqW st a = some ws) (sb : seqW st b = some vs) (hl : ws.length = vs.length) (h8 : vs.length ≤ 8192) (hi : ∀ (i : Nat) (v w : W), ws[i]? = some v → vs[i]? = some w → d__law_same m [v, w] st = .ok (.bl true) st) :
    d__law_same (m + 1) [a, b] st = .ok (.bl true) st := by
  unfold d__law_same; rw [fnDen_ap]; unfold b__law_same
  have h1 : isi2W "tuple" "list" b st = .ok (.bl true) st := by rw [isi2_of hb hx hy, hxy]
  have h2 := isi_of hb hx
  have h3 := isi_of ha hx
  have h4 := isi_of hb hy
  have h5 := isi_of ha hy
  have h6 := len_seq sa
  have h7 := len_seq sb
  rw [hl] at h6
  have hk := kR1_ok (st := st) (j := (vs.length : Int)) (by have := Int.natCast_nonneg vs.length; exact Int.le_trans (by decide) this) (lt62 h8)
  rw [show intsW 0 ((vs.length : Int)).toNat = (List.range vs.length).map (fun i : Nat => W.int (0 + (i : Nat))) from rfl] at hk
  have kl := kLc_mapB (env := [some a, some b, none]) (i := 2) (e := dCall 2 (d__law_same m) (dCons (dOp ixW (dVar 0) (dVar 2)) (dCons (dOp ixW (dVar 1) (dVar 2)) dNil))) (st := st) (src := none) (fun i : Nat => W.int (0 + (i : Nat))) (fun _ => W.bl true) (List.range vs.length) (by simp) (fun i hm => by
    have hm := List.mem_range.mp hm
    obtain ⟨v, _, ev, e1⟩ := ix_mem (i := 0 + (i : Int)) sa (by omega) (by omega)
    obtain ⟨w, _, ew, e2⟩ := ix_mem (i := 0 + (i : Int)) sb (by omega) (by omega)
    have hr := hi _ v w ev ew
    simp only [dCall_ap, dCons_ap, dOp_ap, dVar_ap, List.set_cons_succ, List.set_cons_zero, List.getElem?_cons_zero, List.getElem?_cons_succ, Res.bind_ok, kOp1_ap, e1, e2, kCons1_ap, dNil_ap, kCons2_ap, kCall_2, hr]) (line8 (by simpa using h8))
  have hal := all_here (st := st) (l := List.range vs.length) (g := fun _ => true)
  have ht : (List.range vs.length).all (fun _ => true) = true := by simp
  rw [ht] at hal
  generalize List.map (fun x : Nat => W.bl true) (List.range vs.length) = LL at kl hal
  generalize List.map (fun i : Nat => W.int (0 + (i : Nat))) (List.range vs.length) = RR at kl hk
  simp -implicitDefEqProofs [h1, h2, h3, h4, h5, h6, h7, hk, wipeW, kl, hal]
theorem same_pu : ∀ (n : Nat) (w : W), puB n w = true → n ≤ 5 → ∀ (m : Nat) (st : Store), n ≤ m → d__law_same m [w, w] st = .ok (.bl true) st
  | 0, _, h, _, _, _, _ => nomatch (show false = true from h)
  | n + 1, w, h, hn, 0, st, hm => by omega
  | n + 1, w, h, hn, m + 1, st, hm => by
    have hp : pu w := puB_mono h hn
    cases w with
    | tup ws =>
      have h' : (decide (ws.length ≤ 8192) && ws.all (puB n)) = true := h
      rw [Bool.and_eq_true, decide_eq_true_iff, List.all_eq_true] at h'
      refine same_seq (T := "tuple") (x := true) (y := false) rfl rfl rfl rfl rfl rfl rfl rfl h'.1 fun i v w hv hw => ?_
      rw [hv] at hw; cases hw
      exact same_pu n v (h'.2 v (List.mem_of_getElem? hv)) (by omega) m st (by omega)
    | bl b => rw [same_bl]; simp
    | non =>
      unfold d__law_same; rw [fnDen_ap]; unfold b__law_same
      have h1 : isi2W "tuple" "list" .non st = .ok (.bl false) st := rfl
      have h2 : isNW .non .non st = .ok (.bl true) st := rfl
      simp -implicitDefEqProofs [h1, h2]
    | int i =>
      unfold d__law_same; rw [fnDen_ap]; unfold b__law_same
      have h1 : isi2W "tuple" "list" (.int i) st = .ok (.bl false) st := rfl
      have h2 : isNW (.int i) .non st = .ok (.bl false) st := rfl
      have h3 : isiW [.int i, .gl (.ty "bool")] st = .ok (.bl false) st := rfl
      have h4 : isiW [.int i, .gl (.ty "int")] st = .ok (.bl true) st := rfl
      simp -implicitDefEqProofs [h1, h2, h3, h4]
    | str s =>
      unfold d__law_same; rw [fnDen_ap]; unfold b__law_same
      have h1 : isi2W "tuple" "list" (.str s) st = .ok (.bl false) st := rfl
      have h2 : isNW (.str s) .non st = .ok (.bl false) st := rfl
      have h3 : isiW [.str s, .gl (.ty "bool")] st = .ok (.bl false) st := rfl
      have h4 : isiW [.str s, .gl (.ty "int")] st = .ok (.bl false) st := rfl
      have h5 : isiW [.str s, .gl (.ty "str")] st = .ok (.bl true) st := rfl
      simp -implicitDefEqProofs [h1, h2, h3, h4, h5, eqW_str hp hp]
    | _ => exact nomatch (show false = true from h)
theorem same_pic {a b u : W} {st : Store} {m : Nat} (h : Pic st a u) (h' : Pic st b u) (hm : 6 ≤ m) : d__law_same m [a, b] st = .ok (.bl true) st := by
  cases h with
  | pu _ hp =>
    cases h' with
    | pu => exact same_pu 5 _ hp (by decide) m st (by omega)
    | ls k ws => exact nomatch (show false = true from hp)
  | ls k ws hk hl hw =>
    cases h' with
    | pu _ hp => exact nomatch (show false = true from hp)
    | ls k' _ hk' =>
      obtain ⟨m, rfl⟩ : ∃ m', m = m' + 1 := ⟨m - 1, by omega⟩
      refine same_seq (T := "list") (x := false) (y := true) (ws := ws) (vs := ws) (by simp [tyN, hk]) (by simp [tyN, hk']) rfl rfl rfl (by simp [seqW, hk]) (by simp [seqW, hk']) rfl hl fun i v w hv hw' => ?_
      rw [hv] at hw'; cases hw'
      exact same_pu 5 v (hw v (List.mem_of_getElem? hv)) (by decide) m st (by omega)
theorem same_pair {a b u : W} {s : Str} {st : Store} {m : Nat} (hs : okS s = true) (h : Pic st a u) (h' : Pic st b u) (hm : 7 ≤ m) : d__law_same m [.tup [.str s, a], .tup [.str s, b]] st = .ok (.bl true) st := by
  obtain ⟨m, rfl⟩ : ∃ m', m = m' + 1 := ⟨m - 1, by omega⟩
  refine same_seq (T := "tuple") (x := true) (y := false) rfl rfl rfl rfl rfl rfl rfl rfl (by simp) fun i v w hv hw => ?_
  match i with
  | 0 => simp at hv hw; subst hv; subst hw; exact same_pu 5 _ (pu_str hs) (by decide) m st (by omega)
  | 1 => simp at hv hw; subst hv; subst hw; exact same_pic h h' (by omega)
  | n + 2 => simp at hv
theorem pair_data {a u : W} {s : Str} {st : Store} (h : Pic st a u) (hs : okS s = true) : datF st 66 (.tup [.str s, a]) = some (.tuple [.str s, dU u]) ∧ SeqAt.shaped (.tuple [.str s, dU u]) = true := by
  constructor
  · show ((allO [datF st 65 (.str s), datF st 65 a]).map PyData.tuple) = _
    rw [h.dat 65 (by decide)]; rfl
  · refine shaped_of ⟨?_, ?_⟩
    · show PyData.canLayAll0 [.str s, dU u] = true
      rw [PyData.canLayAll0.eq_2, PyData.canLayAll0.eq_2, h.shp.1]
      show (PyData.strOk s && _) = true
      rw [okS.ok hs]; rfl
    · rw [PyData.depth.eq_2, PyData.depthAll.eq_2, PyData.depthAll.eq_2]
      have := h.shp.2
      have h0 : PyData.depthAll [] = 0 := rfl
      have h1 : (PyData.str s).depth = 0 := rfl
      rw [h0, h1]; omega
theorem pair_eqv {d : PyData} {s : Str} (h : d.eqv d = true) : (PyData.tuple [.str s, d]).eqv (.tuple [.str s, d]) = true := by
  rw [PyData.eqv.eq_8, PyData.eqvAll.eq_2, PyData.eqvAll.eq_2, PyData.eqv.eq_6, h]
  show (s == s && (true && true)) = true
  simp
theorem pair_ne {a b u : W} {s : Str} {st : Store} (h : Pic st a u) (h' : Pic st b u) (hs : okS s = true) : neW (.tup [.str s, a]) (.tup [.str s, b]) st = .ok (.bl false) st := by
  rw [neW_of (pair_data h hs).1 (pair_data h' hs).1 (pair_data h hs).2 (pair_data h' hs).2, pair_eqv h.refl]; rfl
theorem pair_eq {a b u : W} {s : Str} {st : Store} (h : Pic st a u) (h' : Pic st b u) (hs : okS s = true) : eqW (.tup [.str s, a]) (.tup [.str s, b]) st = .ok (.bl true) st := by
  rw [eqW_of (pair_data h hs).1 (pair_data h' hs).1 (pair_data h hs).2 (pair_data h' hs).2, pair_eqv h.refl]
/-! what the law is told -/
theorem ok_text : okS ("text" : Str) = true := by decide +kernel
theorem ok_refused : okS ("refused" : Str) = true := by decide +kernel
theorem ok_namew : okS ("name" : Str) = true := by decide +kernel
theorem two {a b : W} {st : Store} : kTup [a, b] st = .ok (.tup [a, b]) st := kTup_ok (Nat.le_trans (by simp : [a, b].length ≤ 2) (by decide))
theorem pair_cl {n : Nat} {s : Str} {w : W} (h : clB n w = true) : clB n (.tup [.str s, w]) = true := by
  simp only [clB, clBs, h]; rfl
theorem set_here (st : Store) (a b c : Ob) : (st ++ [a, b]).set (st.length + 1) c = st ++ [a, c] := by simp
/-! pots -/
def PotA (p n : Nat) (st : Store) : Prop := ∃ a b c : Int, st[p]? = some (.lst [.int a, .int b, .int c]) ∧ 0 ≤ b ∧ b < 10 ^ 34 ∧ 0 ≤ c ∧ c ≤ n
theorem PotA.lt {p n : Nat} {st : Store} (h : PotA p n st) : p < st.length := by
  obtain ⟨a, b, c, h, _⟩ := h
  exact (List.getElem?_eq_some_iff.mp h).1
theorem PotA.mono {p n m : Nat} {st : Store} (h : PotA p n st) (hm : n ≤ m) : PotA p m st := by
  obtain ⟨a, b, c, h, h1, h2, h3, h4⟩ := h
  exact ⟨a, b, c, h, h1, h2, h3, by omega⟩
theorem PotA.of {p n : Nat} {st st' : Store} (h : PotA p n st) (e : st'[p]? = st[p]?) : PotA p n st' := by
  obtain ⟨a, b, c, h, h1, h2, h3, h4⟩ := h
  exact ⟨a, b, c, by rw [e]; exact h, h1, h2, h3, h4⟩
theorem PotA.app {p n : Nat} {st : Store} (g : Store) (h : PotA p n st) : PotA p n (st ++ g) := h.of (List.getElem?_append_left h.lt)
theorem PotA.take {p n k : Nat} {st : Store} (h : PotA p n st) (hk : p < k) : PotA p n (st.take k) := h.of (by rw [List.getElem?_take, if_pos hk])
theorem PotA.set {p n k : Nat} {st : Store} {o : Ob} (h : PotA p n st) (hk : p ≠ k) : PotA p n (st.set k o) := h.of (List.getElem?_set_ne (Ne.symm hk))
theorem PotA.flat {p n : Nat} {st : Store} (h : PotA p n st) : ∀ (k : Nat) (o : Ob), p < k → st[p]? = some o → flatO o := by
  obtain ⟨a, b, c, h, _⟩ := h
  intro k o _ e
  rw [h] at e; cases e
  exact fun _ => rfl
theorem _root_.MP.Ext.set {p k : Nat} {st st' : Store} {o : Ob} (h : Ext p st st') (hk : st.length ≤ k) : Ext p st (st'.set k o) :=
  ⟨by simp [h.le], fun i hi hp => by rw [List.getElem?_set_ne (by omega)]; exact h.keep i hi hp⟩
theorem gc_pot {p n : Nat} {st st' : Store} {v : W} (h : Ext p st st') (hp : PotA p n st') (hl : p < st.length) (hv : clB st.length v = true) : gc st v st' = .ok v (st'.take st.length) ∧ Kp p st (st'.take st.length) ∧ PotA p n (st'.take st.length) :=
  ⟨gcx_ok h (hp.flat _) hv, h.take, hp.take hl⟩
theorem gc_potL {p n m : Nat} {st st' : Store} {ws : List W} (h : Ext p st st') (hp : PotA p n st') (hl : p < st.length) (hm : st.length ≤ m) (e : st'[m]? = some (.lst ws)) (hw : clBs st.length ws = true) : gc st (.loc m) st' = .ok (.loc st.length) (st'.take st.length ++ [.lst ws]) ∧ Kp p st (st'.take st.length) ∧ PotA p n (st'.take st.length) :=
  ⟨gc_new h (hp.flat _) hm e hw, h.take, hp.take hl⟩
theorem kAsg_sub {env : EnvW} {st st3 : Store} {mo mi : D W} {o i v : W} (h1 : mo env st = .ok o st) (h2 : mi env st = .ok i st) (h3 : setW o i v st = some st3) : kAsg (MP.tSub mo mi) env v st = .go .nx env st3 := by
  have : MP.tSub mo mi v env st = some (env, st3) := by
    unfold MP.tSub; simp only [h1, h2, h3, Option.map_some]
  unfold kAsg; rw [this]
theorem setW_of {st : Store} {k : Nat} {i : Int} {j : Nat} {ws : List W} {v : W} (h : st[k]? = some (.lst ws)) (hi : ixN ws.length i = some j) : setW (.loc k) (.int i) v st = some (st.set k (.lst (ws.set j v))) := by
  unfold setW; simp only [h, hi]
theorem mod_ok {i j : Int} {st : Store} (h : 0 < j) : modW (.int i) (.int j) st = .ok (.int (i % j)) st := if_pos h
theorem div_okG {i j : Int} {st : Store} (h : 0 < j) (h' : j.natAbs.log2 < 9000) : fdivW (.int i) (.int j) st = .ok (.int (i / j)) st := if_pos ⟨h, h'⟩
theorem div_ok {i j : Int} {st : Store} (h : 0 < j) (h' : j < 9000) : fdivW (.int i) (.int j) st = .ok (.int (i / j)) st := div_okG h (Nat.lt_of_le_of_lt (Nat.log2_le_self _) (by omega))
theorem div_big {i : Int} {st : Store} : fdivW (.int i) (.int 65537) st = .ok (.int (i / 65537)) st := if_pos ⟨by decide, by decide +kernel⟩
theorem mul_ok {i j : Int} {st : Store} (h : IntMulOk i j) : mulW (.int i) (.int j) st = .ok (.int (i * j)) st := if_pos h
theorem pow_ok {i j : Int} {st : Store} (h : CPowW i j) : powW (.int i) (.int j) st = .ok (.int (i ^ j.toNat)) st := if_pos h
theorem small_mul {i j : Int} (h : -2 ^ 64 < i) (h' : i < 2 ^ 64) : IntMulOk i j := IntMulOk.of_left (intBits_le_64 h h')
theorem pow10 (k : Int) (h0 : 0 ≤ k) (h : k ≤ 100) : CPowW 10 k := ⟨h0, by
  have : (Builtin.Int.intBits 10 : Int) = 4 := by decide +kernel
  rw [this]; omega⟩
theorem take_okG {p n : Nat} {m : Int} {st : Store} (h : PotA p n st) (hn : n ≤ 1000000) (h0 : 0 < m) (h1 : m.natAbs.log2 < 9000) :
    ∃ (r : Int) (st' : Store), d__law_take [.loc p, .int m] st = .ok (.int r) st' ∧ 0 ≤ r ∧ r < m ∧ PotA p (n + 1) st' ∧ Kp p st st' := by
  have hl := h.lt
  obtain ⟨a, b, c, hp, hb0, hb, hc0, hc⟩ := h
  have kp : ∀ o, Kp p st (st.set p o) := fun o => ⟨by simp, fun i hi => List.getElem?_set_ne (Ne.symm hi)⟩
  have fin : ∀ (r x y z : Int), 0 ≤ y → y < 10 ^ 34 → 0 ≤ z → z ≤ ((n + 1 : Nat) : Int) → gc st (.int r) (st.set p (.lst [.int x, .int y, .int z])) = .ok (.int r) (st.set p (.lst [.int x, .int y, .int z])) ∧ PotA p (n + 1) (st.set p (.lst [.int x, .int y, .int z])) := fun r x y z hy hy' hz hz' => by
    have hP : PotA p (n + 1) (st.set p (.lst [.int x, .int y, .int z])) := ⟨x, y, z, by rw [List.getElem?_set_self hl], hy, hy', hz, hz'⟩
    have := (gc_pot (v := .int r) (kp (.lst [.int x, .int y, .int z])).ext hP hl rfl).1
    rw [List.take_of_length_le (by simp)] at this
    exact ⟨this, hP⟩
  have ix : ∀ (st : Store) (x y z : Int), st[p]? = some (.lst [.int x, .int y, .int z]) → ixW (.loc p) (.int 0) st = .ok (.int x) st ∧ ixW (.loc p) (.int 1) st = .ok (.int y) st ∧ ixW (.loc p) (.int 2) st = .ok (.int z) st := fun st x y z h => by
    refine ⟨?_, ?_, ?_⟩ <;> (unfold ixW seqW; simp only [h]; rfl)
  obtain ⟨i0, i1, i2⟩ := ix st a b c hp
  unfold d__law_take; rw [fnDen_ap]; unfold b__law_take
  by_cases ha : 0 < a
  · obtain ⟨f1, f2⟩ := fin (a % m) (a / m) b c hb0 hb hc0 (by omega)
    refine ⟨a % m, _, ?_, Int.emod_nonneg _ (by omega), Int.emod_lt_of_pos _ h0, f2, kp _⟩
    have hset := setW_of (v := .int (a / m)) (i := 0) (j := 0) hp rfl
    have hk := kAsg_sub (env := [some (.loc p), some (.int m), none, some (.int (a % m))]) (st := st) (mo := dVar 0) (mi := dC (.int 0)) (v := .int (a / m)) rfl rfl hset
    simp only [List.set_cons_zero] at hk
    simp -implicitDefEqProofs [i0, ha, mod_ok h0, div_okG h0 h1, hk, f1]
  · have hp1 : (st.set p (.lst [.int a, .int b, .int (c + 1)]))[p]? = some (.lst [.int a, .int b, .int (c + 1)]) := by rw [List.getElem?_set_self hl]
    obtain ⟨j0, j1, j2⟩ := ix _ a b (c + 1) hp1
    obtain ⟨S, hS⟩ : ∃ S, S = st.set p (.lst [.int a, .int b, .int (c + 1)]) := ⟨_, rfl⟩
    rw [← hS] at j0 j1 j2
    have hset := setW_of (v := .int (c + 1)) (i := 2) (j := 2) hp rfl
    have hk := kAsg_sub (env := [some (.loc p), some (.int m), none, none]) (st := st) (mo := dVar 0) (mi := dC (.int 2)) (v := .int (c + 1)) rfl rfl hset
    simp only [List.set_cons_succ, List.set_cons_zero] at hk
    rw [← hS] at hk
    have hy : Builtin.Int.intBits (b + 999983 * (c + 1)) ≤ 128 := by
      refine intBits_le ?_
      have : b + 999983 * (c + 1) < 2 ^ 128 := by
        have e1 : (10 : Int) ^ 34 = 10000000000000000000000000000000000 := by decide
        have e2 : (2 : Int) ^ 128 = 340282366920938463463374607431768211456 := by decide
        rw [e2]; rw [e1] at hb; omega
      have e3 : ((2 ^ 128 : Nat) : Int) = 2 ^ 128 := by decide
      omega
    have hpw : CPowW (b + 999983 * (c + 1)) 3 := ⟨by decide, by
      have : (Builtin.Int.intBits (b + 999983 * (c + 1)) : Int) ≤ ((128 : Nat) : Int) := Int.ofNat_le.mpr hy
      have e : (2 : Int) ^ 27 = 134217728 := by decide
      rw [e]; omega⟩
    have m1 : mulW (.int 999983) (.int (c + 1)) S = .ok (.int (999983 * (c + 1))) S := mul_ok (small_mul (by decide) (by decide))
    have m2 : mulW (.int 7) (.int (c + 1)) S = .ok (.int (7 * (c + 1))) S := mul_ok (small_mul (by decide) (by decide))
    have p1 : powW (.int (b + 999983 * (c + 1))) (.int 3) S = .ok (.int ((b + 999983 * (c + 1)) ^ (3 : Int).toNat)) S := pow_ok hpw
    have p2 : powW (.int 10) (.int 37) S = .ok (.int (10 ^ (37 : Int).toNat)) S := pow_ok (pow10 37 (by decide) (by decide))
    have d1 : ∀ x, modW (.int x) (.int (10 ^ (37 : Int).toNat + 43)) S = .ok (.int (x % (10 ^ (37 : Int).toNat + 43))) S := fun x => mod_ok (by decide)
    obtain ⟨f1, f2⟩ := fin ((((b + 999983 * (c + 1)) ^ (3 : Int).toNat + 7 * (c + 1)) % (10 ^ (37 : Int).toNat + 43)) / 65537 % m) a b (c + 1) hb0 hb (by omega) (by omega)
    rw [← hS] at f1 f2
    refine ⟨((((b + 999983 * (c + 1)) ^ (3 : Int).toNat + 7 * (c + 1)) % (10 ^ (37 : Int).toNat + 43)) / 65537) % m, S, ?_, Int.emod_nonneg _ (by omega), Int.emod_lt_of_pos _ h0, f2, by rw [hS]; exact kp _⟩
    · generalize (10 : Int) ^ (37 : Int).toNat = T at *
      generalize (b + 999983 * (c + 1)) ^ (3 : Int).toNat = Y at *
      simp -implicitDefEqProofs [i0, ha, i2, hk]
      simp -implicitDefEqProofs [j0, j1, j2, m1, m2, p1, p2, d1, div_big, mod_ok h0, f1]
/-! lists of texts -/
theorem take_ok {p n : Nat} {m : Int} {st : Store} (h : PotA p n st) (hn : n ≤ 1000000) (h0 : 0 < m) (h1 : m < 9000) :
    ∃ (r : Int) (st' : Store), d__law_take [.loc p, .int m] st = .ok (.int r) st' ∧ 0 ≤ r ∧ r < m ∧ PotA p (n + 1) st' ∧ Kp p st st' := take_okG h hn h0 (Nat.lt_of_le_of_lt (Nat.log2_le_self _) (by omega))
def StL (b : Nat) (ws : List W) : Prop := ∀ w ∈ ws, ∃ y : Str, w = .str y ∧ okS y = true ∧ y.length ≤ b
theorem StL.app {b : Nat} {ws vs : List W} (h : StL b ws) (h' : StL b vs) : StL b (ws ++ vs) := fun w m => by
  rcases List.mem_append.mp m with m | m
  · exact h w m
  · exact h' w m
theorem StL.one {b : Nat} {y : Str} (h : okS y = true) (h' : y.length ≤ b) : StL b [.str y] := fun w m => by
  have : w = .str y := by simpa using m
  exact ⟨y, this, h, h'⟩
theorem StL.nil {b : Nat} : StL b [] := fun _ m => nomatch m
theorem StL.mono {b c : Nat} {ws : List W} (h : StL b ws) (hc : b ≤ c) : StL c ws := fun w m => by
  obtain ⟨y, e, h1, h2⟩ := h w m
  exact ⟨y, e, h1, Nat.le_trans h2 hc⟩
theorem StL.set {b i : Nat} {ws : List W} {y : Str} (h : StL b ws) (hy : okS y = true) (hl : y.length ≤ b) : StL b (ws.set i (.str y)) := fun w m => by
  rcases List.mem_or_eq_of_mem_set m with m | m
  · exact h w m
  · exact ⟨y, m, hy, hl⟩
theorem StL.strs {b : Nat} : ∀ {ws : List W}, StL b ws → ∃ ys : List Str, ws = ys.map W.str ∧ ∀ y ∈ ys, okS y = true ∧ y.length ≤ b
  | [], _ => ⟨[], rfl, fun _ m => nomatch m⟩
  | w :: ws, h => by
    obtain ⟨y, rfl, h1, h2⟩ := h w List.mem_cons_self
    obtain ⟨ys, rfl, h3⟩ := StL.strs fun w m => h w (List.mem_cons_of_mem _ m)
    exact ⟨y :: ys, rfl, fun z m => by
      rcases List.mem_cons.mp m with rfl | m
      · exact ⟨h1, h2⟩
      · exact h3 z m⟩
theorem StL.cl {b n : Nat} : ∀ {ws : List W}, StL b ws → clBs n ws = true
  | [], _ => rfl
  | w :: ws, h => by
    obtain ⟨y, rfl, _⟩ := h w List.mem_cons_self
    simp only [clBs, clB, Bool.true_and]
    exact StL.cl fun w m => h w (List.mem_cons_of_mem _ m)
theorem join_at {st : Store} {k : Nat} {ys : List Str} {z : Str} (e : st[k]? = some (.lst (ys.map W.str))) (h : (ys.map (·.length)).sum + ys.length * z.length ≤ 16777216) : joinW (.str z) [.loc k] st = .ok (.str (Txt.join z ys)) st := by
  have e : strsW st (.loc k) = some ys := by
    unfold strsW seqW
    simp only [e, Option.bind_some, List.map_map]
    have := allO_of (stOf ∘ W.str) id ys (fun _ _ => rfl)
    rw [this]; simp
  show (match strsW st (.loc k) with | some ys => _ | none => _) = _
  rw [e]
  exact if_pos h
theorem join_good {ys : List Str} {b : Nat} (h : ∀ y ∈ ys, okS y = true ∧ y.length ≤ b) (hl : b * ys.length ≤ 8192) : okS (Txt.join ("" : Str) ys) = true ∧ (Txt.join ("" : Str) ys).length ≤ b * ys.length := by
  have hlen : (Txt.join ("" : Str) ys).length ≤ b * ys.length := by
    rw [len_cl, join0]
    clear hl
    induction ys with
    | nil => simp
    | cons y r ih =>
      have h1 := (h y List.mem_cons_self).2
      have h2 := ih fun z m => h z (List.mem_cons_of_mem _ m)
      rw [len_cl] at h1
      simp only [List.map_cons, List.flatten_cons, List.length_append, List.length_cons]
      rw [Nat.mul_add, Nat.mul_one]; omega
  refine ⟨okS_iff.mpr ⟨by omega, fun c hc => ?_⟩, hlen⟩
  have hc : c ∈ (ys.map cl).flatten := by rw [← join0]; exact hc
  obtain ⟨l, hl', hcl⟩ := List.mem_flatten.mp hc
  obtain ⟨y, hy, rfl⟩ := List.mem_map.mp hl'
  exact (okS_iff.mp (h y hy).1).2 c hcl
theorem join_StL {st : Store} {k b : Nat} {ws : List W} (e : st[k]? = some (.lst ws)) (h : StL b ws) (hl : b * ws.length ≤ 8192) : ∃ x : Str, joinW (.str "") [.loc k] st = .ok (.str x) st ∧ okS x = true ∧ x.length ≤ b * ws.length := by
  obtain ⟨ys, rfl, hy⟩ := h.strs
  rw [List.length_map] at hl ⊢
  obtain ⟨h1, h2⟩ := join_good hy hl
  refine ⟨_, join_at e ?_, h1, h2⟩
  have : ("" : Str).length = 0 := rfl
  rw [this, Nat.mul_zero]
  have := sum_le (f := (·.length)) (k := b) (xs := ys) fun y m => (hy y m).2
  omega
theorem ok_app {x y : Str} (h : okS x = true) (h' : okS y = true) (hl : x.length + y.length ≤ 8192) : okS (x ++ y) = true := by
  rw [okS_iff]
  refine ⟨by rw [len_add]; exact hl, fun c hc => ?_⟩
  have hc : c ∈ cl x ++ cl y := by rw [← cl_app]; exact hc
  rcases List.mem_append.mp hc with hc | hc
  · exact (okS_iff.mp h).2 c hc
  · exact (okS_iff.mp h').2 c hc
theorem cut_good {z : Str} {lo hi : Option Int} (h : okS z = true) : okS (cutS z lo hi) = true ∧ (cutS z lo hi).length ≤ z.length := by
  have hl : (cutS z lo hi).length ≤ z.length := by
    rw [len_cl, len_cl]
    show (List.take _ (List.drop _ (cl z))).length ≤ _
    rw [List.length_take, List.length_drop]; omega
  refine ⟨okS_iff.mpr ⟨Nat.le_trans hl (okS.len h), fun c hc => (okS_iff.mp h).2 c ?_⟩, hl⟩
  have hc : c ∈ List.take (HT.sIx z.length z.length hi - HT.sIx z.length 0 lo) (List.drop (HT.sIx z.length 0 lo) (cl z)) := hc
  exact List.mem_of_mem_drop (List.mem_of_mem_take hc)
/-- a sign of a text -/
theorem sign_of {x : Str} {i : Int} (hx : okS x = true) (h0 : 0 ≤ i) (hi : i < x.length) : ∃ y : Str, okS y = true ∧ y.length ≤ 1 ∧ ∀ st, ixW (.str x) (.int i) st = .ok (.str y) st := by
  obtain ⟨c, _, hm, e⟩ := ix_str (okS.line hx) h0 hi
  exact ⟨⟨#[c]⟩, ok_one ((okS_iff.mp hx).2 c hm), Nat.le_refl 1, e⟩
def AL : Str := "0123456789abcdefghijklmnopqrstuvwxyz"
def AL1 : Str := ("-" : Str) ++ AL
theorem ok_al : okS AL = true := by decide +kernel
theorem ok_al1 : okS AL1 = true := by decide +kernel
theorem al_len : AL.length = 36 := by decide +kernel
theorem al1_len : AL1.length = 37 := by decide +kernel
theorem al1_add {st : Store} : addW (.str "-") (.str AL) st = .ok (.str AL1) st := addW_s (by decide +kernel)
theorem lst5 {l : List W} {st : Store} (h : l.length ≤ 50) : kLst l st = .ok (.loc st.length) (st ++ [.lst l]) := kLst_ok (Nat.le_trans h (by decide))
theorem ints_len (k : Int) : (intsW 0 k.toNat).length = k.toNat := by simp [intsW]
theorem label_draw {p n : Nat} {st : Store} (h : PotA p n st) (hn : n + 30 ≤ 1000000) :
    ∃ (x : Str) (st' : Store), d__law_label [.loc p] st = .ok (.str x) st' ∧ okS x = true ∧ x.length ≤ 20 ∧ PotA p (n + 30) st' ∧ Kp p st st' := by
  have hl := h.lt
  obtain ⟨t1, s1, e1, a1, b1, P1, K1⟩ := take_ok (m := 20) h (by omega) (by decide) (by decide)
  obtain ⟨L1, hL1⟩ : ∃ L, L = [W.int 1, .int 2, .int 3, .int (1 + t1), .int 20] := ⟨_, rfl⟩
  obtain ⟨t2, s2, e2, a2, b2, P2, K2⟩ := take_ok (m := 5) (P1.app [.lst L1]) (by omega) (by decide) (by decide)
  have hp1 : p ≠ s1.length := by have := P1.lt; omega
  have g2 : s2[s1.length]? = some (.lst L1) := by rw [K2.keep _ (Ne.symm hp1)]; simp
  obtain ⟨w, wm, _, e3⟩ := ix_mem (st := s2) (a := .loc s1.length) (ws := L1) (i := t2) (by simp [seqW, g2]) a2 (by rw [hL1]; simpa using b2)
  obtain ⟨k, rfl, k1, k2⟩ : ∃ k : Int, w = .int k ∧ 1 ≤ k ∧ k ≤ 20 := by
    rw [hL1] at wm
    simp only [List.mem_cons, List.not_mem_nil, or_false] at wm
    rcases wm with rfl | rfl | rfl | rfl | rfl
    · exact ⟨1, rfl, by decide, by decide⟩
    · exact ⟨2, rfl, by decide, by decide⟩
    · exact ⟨3, rfl, by decide, by decide⟩
    · exact ⟨1 + t1, rfl, by omega, by omega⟩
    · exact ⟨20, rfl, by decide, by decide⟩
  have hr := kR1_ok (st := s2) (j := k) (Int.le_trans (by decide) k1) (Int.lt_of_le_of_lt k2 (by decide))
  obtain ⟨l, s3, e4, hll, P3, X3, SL3⟩ := kLc_ok (env := [some (.loc p), some (.str AL), some (.int k), none, none]) (i := 4) (e := dOp ixW (dOp addW (dC (.str "-")) (dVar 1)) (dCall 2 d__law_take (dCons (dVar 0) (dCons (dC (.int 37)) dNil)))) (st := s2) (ws := intsW 0 k.toNat)
    (fun i acc S => PotA p (n + 2 + i) S ∧ Ext p s2 S ∧ StL 1 acc) (fun i w acc S hw hJ => by
      obtain ⟨hP, hX, hS⟩ := hJ
      have hi : i < k.toNat := by rw [← ints_len]; exact (List.getElem?_eq_some_iff.mp hw).1
      obtain ⟨t, s', e, a, b, P, Kq⟩ := take_ok (m := 37) hP (by omega) (by decide) (by decide)
      obtain ⟨y, hy, hyl, ey⟩ := sign_of (i := t) ok_al1 a (by rw [al1_len]; exact b)
      refine ⟨.str y, s', ?_, P, hX.trans Kq.ext, hS.app (.one hy hyl)⟩
      simp -implicitDefEqProofs [al1_add, e, ey]) (by rw [ints_len]; exact line8 (by omega)) ⟨P2, .refl, .nil⟩
  rw [ints_len] at hll
  have hlk : l.length = k.toNat := hll
  have P4 := (P3.mono (m := n + 25) (by rw [ints_len]; omega)).app [.lst l]
  obtain ⟨t5, s5, e5, a5, b5, P5, K5⟩ := take_ok (m := 36) P4 (by omega) (by decide) (by decide)
  have hle : st.length ≤ s3.length := by
    have := X3.le; rw [K2.len] at this; simp at this; rw [K1.len] at this; omega
  have hp3 : s3.length ≠ p := by omega
  have g5 : s5[s3.length]? = some (.lst l) := by rw [K5.keep _ hp3]; simp
  obtain ⟨y5, hy5, hyl5, ey5⟩ := sign_of (i := t5) ok_al a5 (by rw [al_len]; exact b5)
  have st5 := setW_of (v := .str y5) (i := 0) (j := 0) g5 (by unfold ixN; rw [if_pos (by decide), if_pos (by omega)]; rfl)
  have k5 := kAsg_sub (env := [some (.loc p), some (.str AL), some (.int k), some (.loc s3.length), none]) (st := s5) (mo := dVar 3) (mi := dC (.int 0)) (v := .str y5) rfl rfl st5
  have P5' := P5.set (k := s3.length) (o := .lst (l.set 0 (.str y5))) (Ne.symm hp3)
  obtain ⟨t6, s6, e6, a6, b6, P6, K6⟩ := take_ok (m := 36) P5' (by omega) (by decide) (by decide)
  have hl5 : s3.length < s5.length := (List.getElem?_eq_some_iff.mp g5).1
  have g6 : s6[s3.length]? = some (.lst (l.set 0 (.str y5))) := by rw [K6.keep _ hp3, List.getElem?_set_self hl5]
  obtain ⟨y6, hy6, hyl6, ey6⟩ := sign_of (i := t6) ok_al a6 (by rw [al_len]; exact b6)
  have st6 := setW_of (v := .str y6) (i := -1) (j := l.length - 1) g6 (by unfold ixN; rw [if_neg (by decide), if_pos (by rw [List.length_set]; omega)]; congr 1; rw [List.length_set]; omega)
  have k6 := kAsg_sub (env := [some (.loc p), some (.str AL), some (.int k), some (.loc s3.length), none]) (st := s6) (mo := dVar 3) (mi := dUn negW (dC (.int 1))) (v := .str y6) rfl rfl st6
  have hl6 : s3.length < s6.length := (List.getElem?_eq_some_iff.mp g6).1
  obtain ⟨LL, hLL⟩ : ∃ LL, LL = (l.set 0 (.str y5)).set (l.length - 1) (.str y6) := ⟨_, rfl⟩
  rw [← hLL] at k6
  have SL : StL 1 LL := by rw [hLL]; exact (SL3.set hy5 hyl5).set hy6 hyl6
  have hlL : LL.length = k.toNat := by rw [hLL]; simp [hlk]
  have P7 := P6.set (k := s3.length) (o := .lst LL) (Ne.symm hp3)
  obtain ⟨x, ex, okx, lx⟩ := join_StL (st := s6.set s3.length (.lst LL)) (k := s3.length) (b := 1) (ws := LL) (by rw [List.getElem?_set_self hl6]) SL (by rw [hlL]; omega)
  have X : Ext p st (s6.set s3.length (.lst LL)) := by
    have x1 : Ext p st s2 := (K1.ext.trans (.app [.lst L1])).trans K2.ext
    have x2 : Ext p st s5 := ((x1.trans X3).trans (.app [.lst l])).trans K5.ext
    exact (((x2.set hle).trans K6.ext).set hle)
  obtain ⟨G1, G2, G3⟩ := gc_pot (v := .str x) X P7 hl rfl
  refine ⟨x, _, ?_, okx, by rw [hlL] at lx; omega, G3.mono (by omega), G2⟩
  unfold d__law_label; rw [fnDen_ap]; unfold b__law_label
  rw [show ("0123456789abcdefghijklmnopqrstuvwxyz" : Str) = AL from rfl]
  have lst1 : kLst [W.int 1, .int 2, .int 3, .int (1 + t1), .int 20] s1 = .ok (.loc s1.length) (s1 ++ [.lst L1]) := by rw [hL1]; exact lst5 (by simp)
  simp -implicitDefEqProofs [e1, lst1, e2, e3, hr, wipeW]
  rw [e4]
  simp -implicitDefEqProofs only [Res.then_ok, kAsg_n, List.set_cons_succ, List.set_cons_zero, RsS.next_nx, sSeq_ap, sAsg_ap, dOp_ap, dVar_ap, List.getElem?_cons_zero, List.getElem?_cons_succ, Res.bind_ok, kOp1_ap, dCall_ap, dCons_ap, kCons1_ap, dC_ap, dNil_ap, kCons2_ap, kCall_2, e5, ey5, k5, e6, ey6, k6, sRet_ap, dBm_ap, kBm_s, ex, kRet_ap, fnR_rt, G1]
theorem take_in {p n : Nat} {m : Int} {st : Store} (h : PotA p n st) (hn : n + 1 ≤ 1000000) (h0 : 0 < m) (h1 : m < 9000) :
    ∃ (r : Int) (st' : Store), d__law_take [.loc p, .int m] st = .ok (.int r) st' ∧ 0 ≤ r ∧ r < m ∧ PotA p (n + 1) st' ∧ Kp p st st' := take_ok h (by omega) h0 h1
def B10 : Str := "ab0-*._A ~"
def B7 : Str := "-*.Z _a"
theorem ok_b10 : okS B10 = true := by decide +kernel
theorem b10_len : B10.length = 10 := by decide +kernel
theorem ok_b7 : okS B7 = true := by decide +kernel
theorem b7_len : B7.length = 7 := by decide +kernel
theorem star_len : ("*" : Str).length = 1 := by decide +kernel
theorem sl_str {z : Str} {lo hi : Option Int} {st : Store} (h : okS z = true) : slW (.str z) lo hi st = .ok (.str (cutS z lo hi)) st := by
  show (if z.length ≤ sizeLine then _ else _) = _
  rw [if_pos (okS.line h)]
theorem rep_StL {b : Nat} {l : List W} (h : StL b l) : ∀ k, StL b (List.replicate k l).flatten
  | 0 => fun _ m => by simp at m
  | k + 1 => by
    rw [List.replicate_succ, List.flatten_cons]
    exact h.app (rep_StL h k)
theorem mulW_l {m : Nat} {k : Int} {xs : List W} {st : Store} (h : st[m]? = some (.lst xs)) (h0 : 0 ≤ k) (h1 : k ≤ 10) (hl : xs.length ≤ 100) : mulW (.loc m) (.int k) st = .ok (.loc st.length) (st ++ [.lst (List.replicate k.toNat xs).flatten]) := by
  show (match st[m]? with | some (.lst xs) => _ | _ => _) = _
  rw [h]
  refine if_pos ⟨Int.le_trans (by decide) h0, Int.lt_of_le_of_lt h1 (by decide), ?_⟩
  have h2 : k.toNat ≤ 10 := by omega
  exact line8 (Nat.le_trans (Nat.mul_le_mul hl h2) (by decide))
theorem addW_l {m k : Nat} {xs ys : List W} {st : Store} (h : st[m]? = some (.lst xs)) (h' : st[k]? = some (.lst ys)) (hl : xs.length + ys.length ≤ 8192) : addW (.loc m) (.loc k) st = .ok (.loc st.length) (st ++ [.lst (xs ++ ys)]) := by
  show (match lst2 st m k with | some (xs, ys) => _ | none => _) = _
  unfold lst2; rw [h, h']
  exact if_pos (line8 hl)
theorem rep_len (k : Nat) (l : List W) : (List.replicate k l).flatten.length = k * l.length := by simp
theorem ten {l : List W} {st : Store} (h : l.length ≤ 8192) : kTup l st = .ok (.tup l) st := kTup_ok (line8 h)
theorem a21 {st : Store} : mulW (.str "a") (.int 21) st = .ok (.str (repS "a" 21)) st := by
  refine if_pos (?_ : CRepS "a" 21)
  exact ⟨by decide, by decide, by decide +kernel, by decide +kernel, by decide +kernel⟩
theorem ok_a21 : okS (repS "a" 21) = true := by decide +kernel
theorem pu_one {a : W} (h : pu a) : ∀ w ∈ [a], pu w := fun w hw => by
  rw [List.mem_singleton.mp hw]; exact h
def oddP (u : W) : Bool := !labB u || (match u with | .str x => x == ("a" : Str) | _ => false)
/-- what is drawn: a value without a store, or a new list -/
structure Odd (p n : Nat) (st : Store) (r : Res W) : Prop where
  ex : ∃ (w u : W) (st' g : Store), r = .ok w (st' ++ g) ∧ Pic (st' ++ g) w u ∧ oddP u = true ∧ PotA p n st' ∧ Kp p st st' ∧ ((g = [] ∧ pu w) ∨ ∃ ws, g = [.lst ws] ∧ w = .loc st.length ∧ u = .fro ws)
theorem odd_draw {p n : Nat} {st : Store} (h : PotA p n st) (hn : n + 1 ≤ 1000000) : Odd p (n + 1) st (d__law_odd [.loc p] st) := by
  have hl := h.lt
  obtain ⟨L14, h14⟩ : ∃ L, L = [W.non, .bl true, .int 7, .int (-1), .str "", .str "a", .loc st.length, .loc (st.length + 1), .tup [.str "a", .int 5], .tup [.str "a", .str "*"], .tup [.tup [.str "a"]], .tup [.str ""], .tup [.str "*", .str "*"], .str "a."] := ⟨_, rfl⟩
  obtain ⟨L9, h9⟩ : ∃ L, L = [W.tup [.str "a-"], .tup [.str "-"], .tup [.str "A"], .tup [.str "a b"], .tup [.str "a", .non], .loc (st.length + 3), .tup [.str (repS "a" 21)], .tup [.str "a", .str "", .str "b"], .tup [.str "**"]] := ⟨_, rfl⟩
  obtain ⟨S, hS⟩ : ∃ S, S = st ++ [.lst [.str "a"], .lst [], .lst L14, .lst [.tup [.str "a"]], .lst L9, .lst (L14 ++ L9)] := ⟨_, rfl⟩
  have hle : st.length + 6 = S.length := by rw [hS]; simp
  have PS : PotA p n S := by rw [hS]; exact h.app _
  obtain ⟨t, s1, e, a, b, P, K⟩ := take_ok (m := 23) PS (by omega) (by decide) (by decide)
  have get : ∀ i : Nat, p ≠ st.length + i → s1[st.length + i]? = S[st.length + i]? := fun i hi => K.keep _ (Ne.symm hi)
  have X : Ext p st s1 := ⟨by rw [K.len, ← hle]; omega, fun i hi hp => by rw [K.keep _ hp, hS, List.getElem?_append_left hi]⟩
  have gF : s1[st.length + 5]? = some (.lst (L14 ++ L9)) := by rw [get 5 (by omega), hS]; simp
  have g0 : s1[st.length]? = some (.lst [.str "a"]) := by have := get 0 (by omega); rw [Nat.add_zero] at this; rw [this, hS]; simp
  have g1 : s1[st.length + 1]? = some (.lst []) := by rw [get 1 (by omega), hS]; simp
  have g3 : s1[st.length + 3]? = some (.lst [.tup [.str "a"]]) := by rw [get 3 (by omega), hS]; simp
  obtain ⟨w, wm, _, e3⟩ := ix_mem (st := s1) (a := .loc (st.length + 5)) (ws := L14 ++ L9) (i := t) (by simp [seqW, gF]) a (by rw [h14, h9]; simpa using b)
  have run : ∀ v st', gc st w s1 = .ok v st' → d__law_odd [.loc p] st = .ok v st' := fun v st' hg => by
    unfold d__law_odd; rw [fnDen_ap]; unfold b__law_odd
    have k1 : ∀ (l : List W) (st : Store), l.length ≤ 50 → kLst l st = .ok (.loc st.length) (st ++ [.lst l]) := fun l st h => lst5 h
    have k2 : ∀ (l : List W) (st : Store), l.length ≤ 50 → kTup l st = .ok (.tup l) st := fun l st h => ten (by omega)
    have c1 := k1 [.str "a"] st (by simp)
    have c2 := k1 [] (st ++ [.lst [.str "a"]]) (by simp)
    have c3 := k1 L14 (st ++ [.lst [.str "a"], .lst []]) (by rw [h14]; simp)
    have c4 := k1 [.tup [.str "a"]] (st ++ [.lst [.str "a"], .lst [], .lst L14]) (by simp)
    have c5 := k1 L9 (st ++ [.lst [.str "a"], .lst [], .lst L14, .lst [.tup [.str "a"]]]) (by rw [h9]; simp)
    have gA : (st ++ [Ob.lst [W.str "a"], .lst [], .lst L14, .lst [.tup [.str "a"]], .lst L9])[st.length + 2]? = some (.lst L14) := by simp
    have gB : (st ++ [Ob.lst [W.str "a"], .lst [], .lst L14, .lst [.tup [.str "a"]], .lst L9])[st.length + 4]? = some (.lst L9) := by simp
    have ad := addW_l gA gB (by rw [h14, h9]; simp)
    have eS : (st ++ [Ob.lst [W.str "a"], .lst [], .lst L14, .lst [.tup [.str "a"]], .lst L9] ++ [.lst (L14 ++ L9)]) = S := by rw [hS]; simp
    have eL : (st ++ [Ob.lst [W.str "a"], .lst [], .lst L14, .lst [.tup [.str "a"]], .lst L9]).length = st.length + 5 := by simp
    rw [eS, eL] at ad
    have gS : S[st.length + 5]? = some (.lst (L14 ++ L9)) := by rw [hS]; simp
    have hlen : lenW [.loc (st.length + 5)] S = .ok (.int 23) S := by
      rw [len_seq (ws := L14 ++ L9) (by simp [seqW, gS]), h14, h9]; rfl
    have c1' := c1
    simp only [List.length_append, List.length_cons, List.length_nil, List.append_assoc, List.cons_append, List.nil_append] at c2 c3 c4 c5
    simp -implicitDefEqProofs only [sSeq_ap, sAsg_ap, dLst_ap, dCons_ap, dC_ap, Res.bind_ok, kCons1_ap, dUn_ap, negW_i, dNil_ap, kCons2_ap, dTup_ap, k2, List.length_cons, List.length_nil, Nat.reduceAdd, Nat.reduceLeDiff, c1, c2]
    rw [← h14, c3]
    simp -implicitDefEqProofs only [Res.then_ok, kAsg_n, List.map_cons, List.map_nil, List.length_cons, List.length_nil, Nat.reduceAdd, Nat.reduceSub, List.replicate_succ, List.replicate_zero, List.cons_append, List.nil_append, List.set_cons_succ, List.set_cons_zero, RsS.next_nx, sSeq_ap, sAsg_ap, dOp_ap, dVar_ap, List.getElem?_cons_zero, List.getElem?_cons_succ, Res.bind_ok, kOp1_ap, dLst_ap, dCons_ap, dTup_ap, dC_ap, kCons1_ap, dNil_ap, kCons2_ap, k2, Nat.reduceLeDiff, c4, a21]
    rw [← h9, c5]
    simp -implicitDefEqProofs only [Res.bind_ok, ad, Res.then_ok, kAsg_n, List.set_cons_succ, List.set_cons_zero, RsS.next_nx, sRet_ap, dOp_ap, dVar_ap, List.getElem?_cons_zero, List.getElem?_cons_succ, kOp1_ap, dCall_ap, dCons_ap, dApp_ap, kCons1_ap, dNil_ap, kCons2_ap, hlen, kCall_2, e, e3, kRet_ap, fnR_rt, hg]
  have pure : pu w → oddP w = true → Odd p (n + 1) st (d__law_odd [.loc p] st) := fun hp hnb => by
    obtain ⟨G1, G2, G3⟩ := gc_pot (v := w) X P hl (cl_pu _ 5 _ hp)
    exact ⟨w, w, _, [], by rw [List.append_nil]; exact run _ _ G1, .pu _ hp, hnb, G3, G2, .inl ⟨rfl, hp⟩⟩
  have list : ∀ (k : Nat) (ws : List W), w = .loc k → st.length ≤ k → s1[k]? = some (.lst ws) → ws.length ≤ 8192 → (∀ w ∈ ws, pu w) → Odd p (n + 1) st (d__law_odd [.loc p] st) := fun k ws hw hk g hl' hp => by
    subst hw
    obtain ⟨G1, G2, G3⟩ := gc_potL X P hl hk g (cls_pu _ 5 _ hp)
    refine ⟨_, .fro ws, _, [.lst ws], run _ _ G1, .ls _ ws ?_ hl' hp, rfl, G3, G2, .inr ⟨ws, rfl, rfl, rfl⟩⟩
    rw [show st.length = (List.take st.length s1).length from G2.len.symm]
    simp
  rw [h14, h9] at wm
  simp only [List.mem_append, List.mem_cons, List.not_mem_nil, or_false] at wm
  rcases wm with (rfl | rfl | rfl | rfl | rfl | rfl | rfl | rfl | rfl | rfl | rfl | rfl | rfl | rfl) | (rfl | rfl | rfl | rfl | rfl | rfl | rfl | rfl | rfl)
  · exact pure (by decide +kernel) (by decide +kernel)
  · exact pure (by decide +kernel) (by decide +kernel)
  · exact pure (by decide +kernel) (by decide +kernel)
  · exact pure (by decide +kernel) (by decide +kernel)
  · exact pure (by decide +kernel) (by decide +kernel)
  · exact pure (by decide +kernel) (by decide +kernel)
  · exact list _ _ rfl (Nat.le_refl _) g0 (by simp) (pu_one (by decide +kernel))
  · exact list _ _ rfl (by omega) g1 (by simp) (fun w hw => nomatch hw)
  · exact pure (by decide +kernel) (by decide +kernel)
  · exact pure (by decide +kernel) (by decide +kernel)
  · exact pure (by decide +kernel) (by decide +kernel)
  · exact pure (by decide +kernel) (by decide +kernel)
  · exact pure (by decide +kernel) (by decide +kernel)
  · exact pure (by decide +kernel) (by decide +kernel)
  · exact pure (by decide +kernel) (by decide +kernel)
  · exact pure (by decide +kernel) (by decide +kernel)
  · exact pure (by decide +kernel) (by decide +kernel)
  · exact pure (by decide +kernel) (by decide +kernel)
  · exact pure (by decide +kernel) (by decide +kernel)
  · exact list _ _ rfl (by omega) g3 (by simp) (pu_one (by decide +kernel))
  · exact pure (by decide +kernel) (by decide +kernel)
  · exact pure (by decide +kernel) (by decide +kernel)
  · exact pure (by decide +kernel) (by decide +kernel)
/-- a pot anew -/
theorem pot_ok {ns : List Int} {i : Int} {st : Store} (hl : ns.length ≤ 63) (h0 : 0 ≤ i) (h1 : i ≤ 63) : ∃ st', d__law_pot [.fro (ns.map W.int), .int i] st = .ok (.loc st.length) st' ∧ PotA st.length 0 st' ∧ st'.length = st.length + 1 := by
  have m0 : mulW (.int 11) (.int i) st = .ok (.int (11 * i)) st := mul_ok (small_mul (by decide) (by decide))
  have hlen : lenW [.fro (ns.map W.int)] st = .ok (.int (ns.length : Int)) st := by rw [len_seq (ws := ns.map W.int) rfl]; simp
  obtain ⟨x, hx⟩ : ∃ x : Int, ∀ (k : EnvW → Store → RsS), (((dBool (dOp ltW (dVar 1) (dApp lenW (dCons (dVar 0) dNil)))) [some (.fro (ns.map W.int)), some (.int i), some (.int (29 + 11 * i)), none, none] st).then [some (.fro (ns.map W.int)), some (.int i), some (.int (29 + 11 * i)), none, none] (kSIf (sAsg (dOp ixW (dVar 0) (dVar 1)) (tName 2)) sNil [some (.fro (ns.map W.int)), some (.int i), some (.int (29 + 11 * i)), none, none])).next k = k [some (.fro (ns.map W.int)), some (.int i), some (.int x), none, none] st := by
    by_cases hi : i < (ns.length : Int)
    · obtain ⟨w, wm, _, e⟩ := ix_mem (st := st) (a := .fro (ns.map W.int)) (ws := ns.map W.int) (i := i) rfl h0 (by simpa using hi)
      obtain ⟨x, _, rfl⟩ := List.mem_map.mp wm
      exact ⟨x, fun k => by simp -implicitDefEqProofs [hlen, hi, e]⟩
    · exact ⟨29 + 11 * i, fun k => by simp -implicitDefEqProofs [hlen, hi]⟩
  have p33 : powW (.int 10) (.int 33) st = .ok (.int (10 ^ (33 : Int).toNat)) st := pow_ok (pow10 33 (by decide) (by decide))
  have p18 : powW (.int 10) (.int 18) st = .ok (.int (10 ^ (18 : Int).toNat)) st := pow_ok (pow10 18 (by decide) (by decide))
  have md : ∀ y, modW (.int y) (.int (10 ^ (33 : Int).toNat + 61)) st = .ok (.int (y % (10 ^ (33 : Int).toNat + 61))) st := fun y => mod_ok (by decide)
  have m1 : ∀ y, mulW (.int y) (.int 131) st = .ok (.int (y * 131)) st := fun y => mul_ok (IntMulOk.of_right (intBits_le_64 (by decide) (by decide)))
  have m2 : ∀ y, mulW (.int y) (.int 977) st = .ok (.int (y * 977)) st := fun y => mul_ok (IntMulOk.of_right (intBits_le_64 (by decide) (by decide)))
  have m3 : mulW (.int 13) (.int i) st = .ok (.int (13 * i)) st := mul_ok (small_mul (by decide) (by decide))
  have hT : (10 : Int) ^ (33 : Int).toNat + 61 ≤ 10 ^ 34 := by decide
  have hT0 : (0 : Int) < 10 ^ (33 : Int).toNat + 61 := by decide
  generalize (10 : Int) ^ (33 : Int).toNat = T at *
  generalize (10 : Int) ^ (18 : Int).toNat = T2 at *
  obtain ⟨env', st', e4, rfl, acc, v, rfl⟩ := forW_ok (chk := (ItW.mk (ns.map W.int) none).Chk) (t := tName 4) (b := sAsg (dOp modW (dApp intOfW (dCons (dOp addW (dOp mulW (dVar 3) (dC (.int 131))) (dVar 4)) dNil)) (dOp addW (dOp powW (dC (.int 10)) (dC (.int 33))) (dC (.int 61)))) (tName 3))
    (fun _ env S => S = st ∧ ∃ (acc : Int) (v : Option W), env = [some (.fro (ns.map W.int)), some (.int i), some (.int x), some (.int acc), v]) (fun _ _ _ _ => by simp) (ns.map W.int) 0 [some (.fro (ns.map W.int)), some (.int i), some (.int x), some (.int 1), none] st
    (fun j w env S hw hI => by
      obtain ⟨rfl, acc, v, rfl⟩ := hI
      obtain ⟨y, _, rfl⟩ := List.mem_map.mp (List.mem_of_getElem? hw)
      refine ⟨_, _, _, _, rfl, ?_, rfl, (acc * 131 + y) % (T + 61), some (.int y), rfl⟩
      simp -implicitDefEqProofs [m1, p33, md]) ⟨rfl, 1, none, rfl⟩
  obtain ⟨mx, hmx⟩ : ∃ q : Int, (if x - T2 > (0 : Int) then x - T2 else 0) = q := ⟨_, rfl⟩
  obtain ⟨ab, hab⟩ : ∃ q : Int, (if x < 0 then -x else x) = q := ⟨_, rfl⟩
  have hmax : maxW [.int 0, .int (x - T2)] st' = .ok (.int mx) st' := by rw [maxW_i, hmx]
  have habs : absW [.int x] st' = .ok (.int ab) st' := by rw [absW_i, hab]
  obtain ⟨c, hc⟩ : ∃ c : Int, c = (acc * 977 + ab + 13 * i) % (T + 61) := ⟨_, rfl⟩
  have c0 : 0 ≤ c := by rw [hc]; exact Int.emod_nonneg _ (by omega)
  have c1 : c < T + 61 := by rw [hc]; exact Int.emod_lt_of_pos _ hT0
  have kl : kLst [.int mx, .int c, .int 0] st' = .ok (.loc st'.length) (st' ++ [.lst [.int mx, .int c, .int 0]]) := lst5 (by simp)
  have hg : gc st' (.loc st'.length) (st' ++ [.lst [.int mx, .int c, .int 0]]) = .ok (.loc st'.length) (st' ++ [.lst [.int mx, .int c, .int 0]]) := gc_newA (Nat.le_refl _) (by simp) rfl
  refine ⟨st' ++ [.lst [.int mx, .int c, .int 0]], ?_, ⟨mx, c, 0, by simp, c0, Int.lt_of_lt_of_le c1 hT, by decide, by decide⟩, by simp⟩
  unfold d__law_pot; rw [fnDen_ap]; unfold b__law_pot
  simp -implicitDefEqProofs only [sSeq_ap, sAsg_ap, dOp_ap, dC_ap, Res.bind_ok, kOp1_ap, dVar_ap, List.map_cons, List.map_nil, List.length_cons, List.length_nil, Nat.reduceAdd, Nat.reduceSub, List.replicate_succ, List.replicate_zero, List.cons_append, List.nil_append, List.getElem?_cons_zero, List.getElem?_cons_succ, m0, addW_i, Res.then_ok, kAsg_n, List.set_cons_succ, List.set_cons_zero, RsS.next_nx, sIf_ap]
  have hx' := hx
  simp -implicitDefEqProofs only [dBool_ap, dOp_ap, dVar_ap, List.getElem?_cons_zero, List.getElem?_cons_succ, Res.bind_ok, kOp1_ap, dApp_ap, dCons_ap, kCons1_ap, dNil_ap, kCons2_ap] at hx' ⊢
  rw [hx']
  simp -implicitDefEqProofs only [sSeq_ap, sAsg_ap, dC_ap, Res.then_ok, kAsg_n, List.set_cons_succ, List.set_cons_zero, RsS.next_nx, sFor_ap, dIt_ap, dVar_ap, List.getElem?_cons_zero, List.getElem?_cons_succ, Res.bind_ok, itOf_fro, kFor]
  rw [e4]
  simp -implicitDefEqProofs only [RsS.next_nx, sRet_ap, dLst_ap, dCons_ap, dApp_ap, dC_ap, Res.bind_ok, kCons1_ap, dOp_ap, dVar_ap, List.getElem?_cons_zero, List.getElem?_cons_succ, kOp1_ap, p18, subW_i, dNil_ap, kCons2_ap, hmax, m2, habs, addW_i, m3, intOf_i, p33, md, ← hc, kl, Res.then_ok, kRet_ap, fnR_rt, hg]
end
end K03
namespace K03
open PySem PySem.Spec PyProof.Rows L2 MP
open Classical
noncomputable section
/-! how many labels a length has -/
def manyZ (L : Int) : Int := if L < 1 ∨ L > 20 then 0 else if L = 1 then 36 else 36 * 36 * 37 ^ (L - 2).toNat
theorem ends_len {st : Store} : lenW [.str c_ENDS] st = .ok (.int 36) st := by
  rw [MP.len_str (by decide +kernel)]
  have : c_ENDS.length = 36 := by decide +kernel
  rw [this]; rfl
theorem inner_len {st : Store} : lenW [.str c_INNER] st = .ok (.int 37) st := by
  rw [MP.len_str (by decide +kernel)]
  have : c_INNER.length = 37 := by decide +kernel
  rw [this]; rfl
theorem mul_small {i j : Int} {st : Store} (h : -2 ^ 64 < j) (h' : j < 2 ^ 64) : mulW (.int i) (.int j) st = .ok (.int (i * j)) st := mul_ok (IntMulOk.of_right (intBits_le_64 h h'))
theorem mul_loop {t : DT} {b : DS} {f : Int} {n : Nat} {st : Store} {E : Option W → Int → EnvW} {k : Int} (ht : ∀ w v a s, ∃ v', t w (E v a) s = some (E v' a, s))
    (hb : ∀ v a s, b (E v a) s = .go .nx (E v (a * k)) s) (v : Option W) : ∃ v', forW (ItW.mk (intsW 0 n) none).Chk t b (intsW 0 n) (E v f) st = .go .nx (E v' (f * k ^ n)) st := by
  obtain ⟨env', st', e, v', rfl, rfl⟩ := forW_ok (chk := (ItW.mk (intsW 0 n) none).Chk) (t := t) (b := b) (fun i env S => ∃ v, env = E v (f * k ^ i) ∧ S = st) (fun _ _ _ _ => by simp) (intsW 0 n) 0 (E v f) st
    (fun i w env S hw hI => by
      obtain ⟨v, rfl, rfl⟩ := hI
      obtain ⟨v', e⟩ := ht w v (f * k ^ (0 + i)) S
      refine ⟨_, _, _, _, e, hb _ _ _, v', ?_, rfl⟩
      rw [Int.pow_succ, Int.mul_assoc]) ⟨v, by simp, rfl⟩
  refine ⟨v', ?_⟩
  rw [e]
  simp [intsW]
theorem labels_of_ok {L : Int} {st : Store} (h : 0 ≤ L) : d_labels_of [.int L] st = .ok (.int (manyZ L)) st := by
  unfold d_labels_of; rw [fnDen_ap]; unfold b_labels_of
  have l0 : decide (L < 0) = false := decide_eq_false (by omega)
  by_cases h0 : L = 0
  · subst h0
    have : manyZ 0 = 0 := rfl
    rw [this]
    simp -implicitDefEqProofs
  · have q0 : (L == 0) = false := beq_false_of_ne h0
    by_cases h1 : 20 < L
    · have l1 : decide (20 < L) = true := decide_eq_true h1
      have : manyZ L = 0 := if_pos (.inr h1)
      rw [this]
      simp -implicitDefEqProofs [l0, q0, l1]
    · have l1 : decide (20 < L) = false := decide_eq_false h1
      have hr := kR1_ok (st := st) (j := L - 2) (Int.le_trans (by decide) (show (-1 : Int) ≤ L - 2 by omega)) (Int.lt_of_le_of_lt (show L - 2 ≤ 18 by omega) (by decide))
      have lp := fun f => mul_loop (t := tName 2) (b := sAsg (dOp mulW (dVar 1) (dApp lenW (dCons (dC (.str c_INNER)) dNil))) (tName 1)) (f := f) (n := (L - 2).toNat) (st := st) (E := fun v a => [some (.int L), some (.int a), v]) (k := 37)
        (fun w v a s => ⟨some w, rfl⟩) (fun v a s => by simp -implicitDefEqProofs [inner_len, mul_small (i := a) (j := 37) (by decide) (by decide)]) none
      by_cases h2 : L = 1
      · subst h2
        obtain ⟨v', e⟩ := lp 36
        rw [show ((1 : Int) - 2) = -1 from rfl] at hr e
        have : manyZ 1 = 36 := rfl
        rw [this]
        simp -implicitDefEqProofs [ends_len]
        rw [hr]
        simp -implicitDefEqProofs only [Res.then_ok, kFor]
        rw [e]
        simp -implicitDefEqProofs
      · have l2 : decide (1 < L) = true := decide_eq_true (by omega)
        obtain ⟨v', e⟩ := lp (36 * 36)
        have : manyZ L = 36 * 36 * 37 ^ (L - 2).toNat := by unfold manyZ; rw [if_neg (by omega), if_neg h2]
        rw [this]
        simp -implicitDefEqProofs only [sSeq_ap, sIf_ap, dBool_ap, dOp_ap, dVar_ap, dC_ap, List.map_cons, List.map_nil, List.length_cons, List.length_nil, Nat.reduceAdd, Nat.reduceSub, List.replicate_succ, List.replicate_zero, List.cons_append, List.nil_append, List.getElem?_cons_zero, List.getElem?_cons_succ, Res.bind_ok, kOp1_ap, ltW_i, gtW_i, eqW_int, kBool_ap, l0, l1, l2, q0, Res.then_ok, kSIf_f, kSIf_t, sNil_ap, RsS.next_nx, dOr_ap, kOr_f, sAsg_ap, dApp_ap, dCons_ap, kCons1_ap, dNil_ap, kCons2_ap, ends_len, kAsg_n, List.set_cons_succ, List.set_cons_zero, mul_small (i := 36) (j := 36) (st := st) (by decide) (by decide), sFor_ap, dRange1_ap, subW_i, hr, kFor]
        rw [e]
        simp -implicitDefEqProofs
theorem law_many_ok {L : Int} {st : Store} : d__law_many [.int L] st = .ok (.int (manyZ L)) st := by
  unfold d__law_many; rw [fnDen_ap]; unfold b__law_many
  by_cases h0 : L < 1
  · have l0 : decide (L < 1) = true := decide_eq_true h0
    have : manyZ L = 0 := if_pos (.inl h0)
    rw [this]
    simp -implicitDefEqProofs [l0]
  · have l0 : decide (L < 1) = false := decide_eq_false h0
    by_cases h1 : 20 < L
    · have l1 : decide (20 < L) = true := decide_eq_true h1
      have : manyZ L = 0 := if_pos (.inr h1)
      rw [this]
      simp -implicitDefEqProofs [l0, l1]
    · have l1 : decide (20 < L) = false := decide_eq_false h1
      have hr := kR1_ok (st := st) (j := L - 1) (Int.le_trans (by decide) (show (0 : Int) ≤ L - 1 by omega)) (Int.lt_of_le_of_lt (show L - 1 ≤ 19 by omega) (by decide))
      obtain ⟨v', e⟩ := mul_loop (t := tName 2) (b := sAsg (dOp mulW (dVar 1) (dC (.int 37))) (tName 1)) (f := 36) (n := (L - 1).toNat) (st := st) (E := fun v a => [some (.int L), some (.int a), v]) (k := 37)
        (fun w v a s => ⟨some w, rfl⟩) (fun v a s => by simp -implicitDefEqProofs [mul_small (i := a) (j := 37) (by decide) (by decide)]) none
      have dv : ∀ a, fdivW (.int a) (.int 37) st = .ok (.int (a / 37)) st := fun a => div_ok (by decide) (by decide)
      have m36 : ∀ a, mulW (.int a) (.int 36) st = .ok (.int (a * 36)) st := fun a => mul_small (by decide) (by decide)
      obtain ⟨R, hR⟩ : ∃ R : Int, R = 36 * 37 ^ (L - 1).toNat := ⟨_, rfl⟩
      rw [← hR] at e
      simp -implicitDefEqProofs [l0, l1]
      rw [hr]
      simp -implicitDefEqProofs only [Res.then_ok, kFor]
      rw [e]
      by_cases h2 : L = 1
      · subst h2
        have : manyZ 1 = 36 := rfl
        rw [this]
        have hR1 : R = 36 := by rw [hR]; rfl
        simp -implicitDefEqProofs [hR1]
      · have q1 : (L == 1) = false := beq_false_of_ne h2
        have hm : R / 37 * 36 = manyZ L := by
          unfold manyZ
          rw [if_neg (by omega), if_neg h2, hR]
          have : (L - 1).toNat = (L - 2).toNat + 1 := by omega
          rw [this, Int.pow_succ, ← Int.mul_assoc, Int.mul_ediv_cancel _ (by decide)]
          rw [Int.mul_assoc, Int.mul_comm (37 ^ _) 36, ← Int.mul_assoc]
        simp -implicitDefEqProofs [q1, dv, m36, hm]
end
end K03
namespace K03
open PySem PySem.Spec PyProof.Rows L2 MP
open Classical
noncomputable section
/-! spelled labels -/
def ec (i : Nat) : Nat := EN.getD i 0
def ic (i : Nat) : Nat := IN.getD i 0
def eN (c : Nat) : Nat := EN.idxOf c
def iN (c : Nat) : Nat := IN.idxOf c
theorem eN_ec : ∀ i, i < 36 → eN (ec i) = i := by decide +kernel
theorem iN_ic : ∀ i, i < 37 → iN (ic i) = i := by decide +kernel
theorem ec_in : ∀ i, i < 36 → ec i ∈ EN := by decide +kernel
theorem ic_in : ∀ i, i < 37 → ic i ∈ IN := by decide +kernel
theorem en_sub : ∀ c ∈ EN, c ∈ IN := by decide +kernel
theorem ec_eN : ∀ c ∈ EN, ec (eN c) = c ∧ eN c < 36 := by decide +kernel
theorem ic_iN : ∀ c ∈ IN, ic (iN c) = c ∧ iN c < 37 := by decide +kernel
theorem ec_lt : ∀ i, i < 36 → ∀ j, j < i → ec j < ec i := by decide +kernel
theorem ic_lt : ∀ i, i < 37 → ∀ j, j < i → ic j < ic i := by decide +kernel
def mid : Nat → Nat → List Nat
  | 0, _ => []
  | n + 1, q => ic (q % 37) :: mid n (q / 37)
theorem mid_len : ∀ n q, (mid n q).length = n
  | 0, _ => rfl
  | n + 1, q => by simp [mid, mid_len n]
theorem mid_snoc : ∀ n q, mid (n + 1) q = mid n q ++ [ic (q / 37 ^ n % 37)]
  | 0, q => by simp [mid]
  | n + 1, q => by
    rw [mid, mid_snoc n (q / 37), mid]
    rw [Nat.div_div_eq_div_mul, ← Nat.pow_add_one', List.cons_append]
theorem mid_in : ∀ n q, ∀ c ∈ mid n q, c ∈ IN
  | 0, _, c, h => nomatch h
  | n + 1, q, c, h => by
    simp only [mid, List.mem_cons] at h
    rcases h with rfl | h
    · exact ic_in _ (Nat.mod_lt _ (by decide))
    · exact mid_in n _ c h
def fm (a c : Nat) : Nat := a * 37 + iN c
def pre (n q : Nat) : List Nat := ec (q / 37 ^ n) :: (mid n q).reverse
theorem pre_succ (n q : Nat) : pre (n + 1) q = pre n (q / 37) ++ [ic (q % 37)] := by
  unfold pre
  rw [mid, List.reverse_cons, Nat.div_div_eq_div_mul, ← Nat.pow_add_one', List.cons_append]
theorem pre_len (n q : Nat) : (pre n q).length = n + 1 := by simp [pre, mid_len]
def vP : List Nat → Nat
  | [] => 0
  | c :: ms => ms.foldl fm (eN c)
theorem vP_snoc (c : Nat) (ms : List Nat) (d : Nat) : vP (c :: ms ++ [d]) = vP (c :: ms) * 37 + iN d := by
  simp [vP, fm]
theorem vP_pre : ∀ n q, q < 36 * 37 ^ n → vP (pre n q) = q
  | 0, q, h => by simp only [pre, mid, vP, List.reverse_nil, List.foldl_nil, Nat.pow_zero, Nat.div_one]; exact eN_ec q (by simpa using h)
  | n + 1, q, h => by
    have h' : q / 37 < 36 * 37 ^ n := by
      rw [Nat.div_lt_iff_lt_mul (by decide)]; rw [Nat.pow_succ, ← Nat.mul_assoc] at h; exact h
    have := vP_pre n (q / 37) h'
    rw [pre_succ]
    unfold pre at this ⊢
    rw [vP_snoc, this, iN_ic _ (Nat.mod_lt _ (by decide))]
    omega
theorem pre_vP (c : Nat) (hc : c ∈ EN) : ∀ rs : List Nat, (∀ d ∈ rs, d ∈ IN) → pre rs.length (vP (c :: rs.reverse)) = c :: rs.reverse ∧ vP (c :: rs.reverse) < 36 * 37 ^ rs.length
  | [], _ => by
    simp only [List.reverse_nil, vP, List.foldl_nil, List.length_nil, Nat.pow_zero, Nat.mul_one]
    exact ⟨by simp [pre, mid, (ec_eN c hc).1], (ec_eN c hc).2⟩
  | d :: rs, h => by
    obtain ⟨h1, h2⟩ := pre_vP c hc rs fun x m => h x (List.mem_cons_of_mem _ m)
    obtain ⟨d1, d2⟩ := ic_iN d (h d List.mem_cons_self)
    rw [List.reverse_cons, ← List.cons_append, vP_snoc, List.length_cons]
    refine ⟨?_, ?_⟩
    · rw [pre_succ, Nat.mul_comm, Nat.mul_add_div (by decide), Nat.div_eq_of_lt d2, Nat.add_zero, h1, Nat.mul_add_mod, Nat.mod_eq_of_lt d2, d1]
    · rw [Nat.pow_succ, ← Nat.mul_assoc]; omega
def spell (L r : Nat) : List Nat := if L = 1 then [ec r] else pre (L - 2) (r / 36) ++ [ec (r % 36)]
def vL (l : List Nat) : Nat := if l.length = 1 then eN (l.getD 0 0) else vP (l.take (l.length - 1)) * 36 + eN (l.getD (l.length - 1) 0)
def mN (L : Nat) : Nat := if L < 1 ∨ L > 20 then 0 else if L = 1 then 36 else 36 * 36 * 37 ^ (L - 2)
def aN : Nat → Nat
  | 0 => 0
  | L + 1 => aN L + mN L
theorem spell_len {L r : Nat} (h : 1 ≤ L) : (spell L r).length = L := by
  unfold spell
  split
  · subst L; rfl
  · simp [pre_len]; omega
theorem mN_big {L : Nat} (h : 2 ≤ L) (h' : L ≤ 20) : mN L = 36 * 37 ^ (L - 2) * 36 := by
  unfold mN; rw [if_neg (by omega), if_neg (by omega)]
  generalize 37 ^ (L - 2) = x
  omega
theorem vL_spell {L r : Nat} (h : 1 ≤ L) (h' : L ≤ 20) (hr : r < mN L) : vL (spell L r) = r := by
  unfold vL
  rw [spell_len h]
  unfold spell
  by_cases h1 : L = 1
  · subst h1
    rw [if_pos rfl, if_pos rfl]
    exact eN_ec r hr
  · rw [if_neg h1, if_neg h1]
    rw [mN_big (by omega) h'] at hr
    have hq : r / 36 < 36 * 37 ^ (L - 2) := by rw [Nat.div_lt_iff_lt_mul (by decide)]; exact hr
    have hl : (pre (L - 2) (r / 36)).length = L - 1 := by rw [pre_len]; omega
    have e1 : (pre (L - 2) (r / 36) ++ [ec (r % 36)]).take (L - 1) = pre (L - 2) (r / 36) := by rw [← hl, List.take_left]
    have e2 : (pre (L - 2) (r / 36) ++ [ec (r % 36)]).getD (L - 1) 0 = ec (r % 36) := by
      rw [← hl, List.getD_eq_getElem?_getD, List.getElem?_append_right (Nat.le_refl _)]; simp
    rw [e1, e2, vP_pre _ _ hq, eN_ec _ (Nat.mod_lt _ (by decide))]
    omega
theorem spell_vL {l : List Nat} (h : 1 ≤ l.length) (h' : l.length ≤ 20) (h0 : l.getD 0 0 ∈ EN) (hz : l.getD (l.length - 1) 0 ∈ EN) (ha : ∀ c ∈ l, c ∈ IN) : spell l.length (vL l) = l ∧ vL l < mN l.length := by
  cases l with
  | nil => simp at h
  | cons c ms =>
    rcases List.eq_nil_or_concat ms with rfl | ⟨rs, z, rfl⟩
    · simp only [List.getD_cons_zero] at h0
      simp only [vL, spell, List.length_cons, List.length_nil, List.getD_cons_zero]
      obtain ⟨a, b⟩ := ec_eN c h0
      refine ⟨by simpa using a, by simpa [mN] using b⟩
    · have hl : (c :: (rs ++ [z])).length = rs.length + 2 := by simp
      simp only [List.concat_eq_append] at *
      simp only [List.getD_cons_zero] at h0
      have ez : (c :: (rs ++ [z])).getD (rs.length + 1) 0 = z := by simp
      rw [hl] at hz h' ⊢
      rw [show rs.length + 2 - 1 = rs.length + 1 from rfl, ez] at hz
      have et : (c :: (rs ++ [z])).take (rs.length + 1) = c :: rs := by simp
      have ev : vL (c :: (rs ++ [z])) = vP (c :: rs) * 36 + eN z := by
        unfold vL
        rw [hl, if_neg (by omega), show rs.length + 2 - 1 = rs.length + 1 from rfl, ez, et]
      obtain ⟨p1, p2⟩ := pre_vP c h0 rs.reverse fun d hd => ha d (by simp at hd; simp [hd])
      rw [List.reverse_reverse, List.length_reverse] at p1 p2
      obtain ⟨z1, z2⟩ := ec_eN z hz
      rw [ev]
      refine ⟨?_, ?_⟩
      · unfold spell
        rw [if_neg (by omega), show rs.length + 2 - 2 = rs.length from rfl, Nat.mul_comm, Nat.mul_add_div (by decide), Nat.div_eq_of_lt z2, Nat.add_zero, p1, Nat.mul_add_mod, Nat.mod_eq_of_lt z2, z1, List.cons_append]
      · rw [mN_big (by omega) h', show rs.length + 2 - 2 = rs.length from rfl]; omega
theorem lex_app : ∀ {a b : List Nat} (c d : List Nat), a < b → a.length = b.length → a ++ c < b ++ d
  | [], [], _, _, h, _ => absurd h (List.lt_irrefl _)
  | [], _ :: _, _, _, _, e => by simp at e
  | _ :: _, [], _, _, _, e => by simp at e
  | x :: a, y :: b, c, d, h, e => by
    rw [List.cons_lt_cons_iff] at h
    rw [List.cons_append, List.cons_append, List.cons_lt_cons_iff]
    rcases h with h | ⟨h1, h2⟩
    · exact .inl h
    · exact .inr ⟨h1, lex_app c d h2 (by simpa using e)⟩
theorem pre_lt : ∀ n q q', q < q' → q' < 36 * 37 ^ n → pre n q < pre n q'
  | 0, q, q', h, h' => by
    simp only [pre, mid, List.reverse_nil, Nat.pow_zero, Nat.div_one]
    rw [List.cons_lt_cons_iff]
    exact .inl (ec_lt q' (by simpa using h') q h)
  | n + 1, q, q', h, h' => by
    rw [pre_succ, pre_succ]
    have hq : q' / 37 < 36 * 37 ^ n := by
      rw [Nat.div_lt_iff_lt_mul (by decide)]; rw [Nat.pow_succ, ← Nat.mul_assoc] at h'; exact h'
    by_cases e : q / 37 = q' / 37
    · rw [e]
      refine List.append_left_lt ?_
      rw [List.cons_lt_cons_iff]
      exact .inl (ic_lt _ (Nat.mod_lt _ (by decide)) _ (by omega))
    · exact lex_app _ _ (pre_lt n _ _ (by omega) hq) (by rw [pre_len, pre_len])
theorem spell_lt {L r r' : Nat} (h : 1 ≤ L) (h' : L ≤ 20) (hr : r < r') (hr' : r' < mN L) : spell L r < spell L r' := by
  unfold spell
  by_cases h1 : L = 1
  · subst h1
    rw [if_pos rfl, if_pos rfl, List.cons_lt_cons_iff]
    exact .inl (ec_lt r' hr' r hr)
  · rw [if_neg h1, if_neg h1]
    rw [mN_big (by omega) h'] at hr'
    have hq : r' / 36 < 36 * 37 ^ (L - 2) := by rw [Nat.div_lt_iff_lt_mul (by decide)]; exact hr'
    by_cases e : r / 36 = r' / 36
    · rw [e]
      refine List.append_left_lt ?_
      rw [List.cons_lt_cons_iff]
      exact .inl (ec_lt _ (Nat.mod_lt _ (by decide)) _ (by omega))
    · exact lex_app _ _ (pre_lt _ _ _ (by omega) hq) (by rw [pre_len, pre_len])
theorem spell_plain {L r : Nat} (h : 1 ≤ L) (h' : L ≤ 20) (hr : r < mN L) : (∀ c ∈ spell L r, c ∈ IN) ∧ (spell L r).getD 0 0 ∈ EN ∧ (spell L r).getD (L - 1) 0 ∈ EN := by
  unfold spell
  by_cases h1 : L = 1
  · subst h1
    have := ec_in r hr
    rw [if_pos rfl]
    refine ⟨fun c hc => ?_, this, this⟩
    simp only [List.mem_cons, List.not_mem_nil, or_false] at hc
    subst hc; exact en_sub _ this
  · rw [if_neg h1]
    rw [mN_big (by omega) h'] at hr
    have hq : r / 36 < 36 * 37 ^ (L - 2) := by rw [Nat.div_lt_iff_lt_mul (by decide)]; exact hr
    have he : ec (r / 36 / 37 ^ (L - 2)) ∈ EN := ec_in _ (by rw [Nat.div_lt_iff_lt_mul (Nat.pow_pos (by decide))]; exact hq)
    have hz : ec (r % 36) ∈ EN := ec_in _ (Nat.mod_lt _ (by decide))
    have hl : (pre (L - 2) (r / 36)).length = L - 1 := by rw [pre_len]; omega
    refine ⟨fun c hc => ?_, ?_, ?_⟩
    · unfold pre at hc
      simp only [List.cons_append, List.mem_cons, List.mem_append, List.mem_reverse, List.not_mem_nil, or_false] at hc
      rcases hc with rfl | hc | rfl
      · exact en_sub _ he
      · exact mid_in _ _ c hc
      · exact en_sub _ hz
    · unfold pre; rw [List.cons_append]; exact he
    · rw [← hl, List.getD_eq_getElem?_getD, List.getElem?_append_right (Nat.le_refl _)]; simpa using hz
theorem aN_mono {i : Nat} : ∀ {j : Nat}, i ≤ j → aN i ≤ aN j
  | 0, h => by have : i = 0 := by omega
               subst this; exact Nat.le_refl _
  | j + 1, h => by
    by_cases e : i = j + 1
    · subst e; exact Nat.le_refl _
    · have := aN_mono (i := i) (j := j) (by omega)
      simp only [aN]; omega
theorem aN_step {i L : Nat} (h : i < L) : aN i + mN i ≤ aN L := aN_mono (i := i + 1) (j := L) h
end
end K03
namespace K03
open PySem PySem.Spec PyProof.Rows L2 MP
open Classical
noncomputable section
/-! how many names a size has -/
theorem manyZ_nat (L : Nat) : manyZ (L : Int) = (mN L : Int) := by
  unfold manyZ mN
  by_cases h : L < 1 ∨ L > 20
  · rw [if_pos (by omega), if_pos h]; rfl
  · rw [if_neg (by omega), if_neg h]
    by_cases h1 : L = 1
    · rw [if_pos (by omega), if_pos h1]; rfl
    · rw [if_neg (by omega), if_neg h1, show ((L : Int) - 2).toNat = L - 2 by omega]
      simp
theorem mN_lt (L : Nat) : mN L < 2 ^ 105 := by
  unfold mN
  split
  · decide
  · split
    · decide
    · rename_i h _
      have : 37 ^ (L - 2) ≤ 37 ^ 18 := Nat.pow_le_pow_right (by decide) (by omega)
      have e : 36 * 36 * 37 ^ 18 < 2 ^ 105 := by decide +kernel
      exact Nat.lt_of_le_of_lt (Nat.mul_le_mul_left _ this) e
def numsW (l : List Int) : List W := l.map W.int
theorem sum_at {S : Store} {q : Nat} {l : List Int} (h : S[q]? = some (.lst (l.map W.int))) : sumW [.loc q] S = .ok (.int l.sum) S := by
  unfold sumW nums lstW
  simp only [h, Option.bind_some, List.map_map]
  have e : allO (l.map (inOf ∘ W.int)) = some (l.map id) := allO_of _ id _ fun _ _ => rfl
  rw [e]
  simp
theorem ix_nums {S : Store} {q : Nat} {l : List Int} (h : S[q]? = some (.lst (l.map W.int))) {j : Nat} (hj : j < l.length) : ixW (.loc q) (.int (j : Int)) S = .ok (.int (l.getD j 0)) S := by
  unfold ixW seqW
  simp only [h]
  rw [atI_nat (by simpa using hj), List.getElem?_map, List.getElem?_eq_getElem hj]
  simp [hj]
theorem len_nums {S : Store} {q : Nat} {l : List Int} (h : S[q]? = some (.lst (l.map W.int))) : lenW [.loc q] S = .ok (.int (l.length : Int)) S := by
  rw [len_seq (ws := l.map W.int) (by simp [seqW, h])]; simp
theorem app_nums {S : Store} {q : Nat} {ws : List W} {w : W} (h : S[q]? = some (.lst ws)) (hl : ws.length < sizeLine) : appendW (.loc q) [w] S = .ok .non (S.set q (.lst (ws ++ [w]))) := by
  unfold appendW; simp only [h, if_pos hl]
def MANYZ : List Int := (List.range 21).map fun i : Nat => manyZ (i : Int)
theorem MANYZ_len : MANYZ.length = 21 := by simp [MANYZ]
theorem MANYZ_get {j : Nat} (h : j < 21) : MANYZ.getD j 0 = (mN j : Int) := by
  unfold MANYZ
  rw [List.getD_eq_getElem?_getD, List.getElem?_map, List.getElem?_range h]
  simp only [Option.map_some, Option.getD_some]
  rw [manyZ_nat]
def term (ns : List Int) (i : Nat) : Int := (mN (1 + i) : Int) * ns.getD (ns.length - 1 - (1 + i)) 0
def nextN (ns : List Int) : Int := ((List.range (min 20 (ns.length - 1))).map (term ns)).sum
def NN : Nat → List Int
  | 0 => [0, 1]
  | k + 1 => NN k ++ [nextN (NN k)]
theorem NN_len : ∀ k, (NN k).length = k + 2
  | 0 => rfl
  | k + 1 => by rw [NN, List.length_append, NN_len k]; rfl
theorem sum_bound {M : Int} : ∀ {l : List Int}, (∀ x ∈ l, 0 ≤ x ∧ x ≤ M) → 0 ≤ l.sum ∧ l.sum ≤ (l.length : Int) * M
  | [], _ => by simp
  | a :: l, h => by
    obtain ⟨h1, h2⟩ := h a List.mem_cons_self
    obtain ⟨h3, h4⟩ := sum_bound fun x m => h x (List.mem_cons_of_mem _ m)
    rw [List.sum_cons, List.length_cons]
    have : ((l.length + 1 : Nat) : Int) * M = (l.length : Int) * M + M := by rw [Int.natCast_succ, Int.add_mul, Int.one_mul]
    rw [this]
    omega
theorem getD_mem {l : List Int} {j : Nat} : l.getD j 0 ∈ l ∨ l.getD j 0 = 0 := by
  by_cases h : j < l.length
  · left; rw [List.getD_eq_getElem?_getD, List.getElem?_eq_getElem h]; exact List.getElem_mem h
  · right; rw [List.getD_eq_getElem?_getD, List.getElem?_eq_none (by omega)]; rfl
theorem NN_bound : ∀ k, ∀ x ∈ NN k, 0 ≤ x ∧ x < 2 ^ (110 * (k + 1))
  | 0, x, h => by
    simp only [NN, List.mem_cons, List.not_mem_nil, or_false] at h
    rcases h with rfl | rfl <;> decide
  | k + 1, x, h => by
    have ih := NN_bound k
    have hpos : (0 : Int) < 2 ^ (110 * (k + 1)) := Int.pow_pos (by decide)
    have hstep : (2 : Int) ^ (110 * (k + 1 + 1)) = 2 ^ (110 * (k + 1)) * 2 ^ 110 := by rw [← Int.pow_add]; congr 1
    rw [hstep]
    have e110 : (2 : Int) ^ 110 = 2 ^ 105 * 32 := by decide
    have p105 : (0 : Int) < 2 ^ 105 := by decide
    simp only [NN, List.mem_append, List.mem_cons, List.not_mem_nil, or_false] at h
    generalize (2 : Int) ^ (110 * (k + 1)) = B at *
    rw [e110]
    rcases h with h | rfl
    · obtain ⟨h1, h2⟩ := ih x h
      refine ⟨h1, Int.lt_of_lt_of_le h2 ?_⟩
      have : B * 1 ≤ B * (2 ^ 105 * 32) := Int.mul_le_mul_of_nonneg_left (by decide) (by omega)
      omega
    · have key : ∀ x ∈ (List.range (min 20 ((NN k).length - 1))).map (term (NN k)), 0 ≤ x ∧ x ≤ 2 ^ 105 * B := fun x hx => by
        obtain ⟨i, _, rfl⟩ := List.mem_map.mp hx
        have hm : (mN (1 + i) : Int) < 2 ^ 105 := by
          have := mN_lt (1 + i)
          have e : ((2 ^ 105 : Nat) : Int) = 2 ^ 105 := by decide
          omega
        have hg : 0 ≤ (NN k).getD ((NN k).length - 1 - (1 + i)) 0 ∧ (NN k).getD ((NN k).length - 1 - (1 + i)) 0 < B := by
          rcases getD_mem (l := NN k) (j := (NN k).length - 1 - (1 + i)) with h | h
          · exact ih _ h
          · rw [h]; exact ⟨Int.le_refl _, hpos⟩
        unfold term
        generalize (NN k).getD ((NN k).length - 1 - (1 + i)) 0 = y at *
        refine ⟨Int.mul_nonneg (by omega) hg.1, ?_⟩
        exact Int.mul_le_mul (by omega) (by omega) hg.1 (by omega)
      obtain ⟨s1, s2⟩ := sum_bound key
      refine ⟨s1, Int.lt_of_le_of_lt s2 ?_⟩
      have hl : (((List.range (min 20 ((NN k).length - 1))).map (term (NN k))).length : Int) ≤ 20 := by simp; omega
      have hq : (0 : Int) ≤ 2 ^ 105 * B := Int.mul_nonneg (by omega) (by omega)
      have h1 := Int.mul_le_mul_of_nonneg_right hl hq
      have h2 : B * (2 ^ 105 * 32) = 32 * (2 ^ 105 * B) := by
        rw [Int.mul_comm (2 ^ 105) 32, ← Int.mul_assoc, Int.mul_comm B 32, Int.mul_assoc, Int.mul_comm B]
      have hq' : (0 : Int) < 2 ^ 105 * B := Int.mul_pos p105 hpos
      rw [h2]
      generalize (2 : Int) ^ 105 * B = C at *
      omega
theorem mul_term {k L j : Nat} {st : Store} (hk : k ≤ 400) : mulW (.int (mN L : Int)) (.int ((NN k).getD j 0)) st = .ok (.int ((mN L : Int) * (NN k).getD j 0)) st := by
  refine mul_ok (IntMulOk.of_le (m := 105) (n := 110 * 401) (intBits_le ?_) (intBits_le ?_) (by decide))
  · have := mN_lt L; rw [Int.natAbs_natCast]; exact this
  · have hb : 0 ≤ (NN k).getD j 0 ∧ (NN k).getD j 0 < 2 ^ (110 * (k + 1)) := by
      rcases getD_mem (l := NN k) (j := j) with h | h
      · exact NN_bound k _ h
      · rw [h]; exact ⟨Int.le_refl _, Int.pow_pos (by decide)⟩
    generalize (NN k).getD j 0 = y at *
    have e : (2 : Int) ^ (110 * (k + 1)) = ((2 ^ (110 * (k + 1)) : Nat) : Int) := by simp
    rw [e] at hb
    have : (2 : Nat) ^ (110 * (k + 1)) ≤ 2 ^ (110 * 401) := Nat.pow_le_pow_right (by decide) (by omega)
    generalize (2 : Nat) ^ (110 * (k + 1)) = u at *
    generalize (2 : Nat) ^ (110 * 401) = v at *
    omega
theorem Ext.takeEq {p : Nat} {st st' : Store} (h : Ext p st st') (hp : st.length ≤ p) : st'.take st.length = st := by
  apply List.ext_getElem?
  intro i
  rw [List.getElem?_take]
  split
  · rename_i hi; exact h.keep i hi (by omega)
  · rename_i hi; rw [List.getElem?_eq_none (by omega)]
theorem nums_cl {n : Nat} {l : List Int} : clBs n (l.map W.int) = true := by
  induction l with
  | nil => rfl
  | cons a l ih => simpa [clBs, clB] using ih
theorem ints_map (lo : Int) (n : Nat) : intsW lo n = (List.range n).map fun i : Nat => W.int (lo + (i : Int)) := rfl
/-- the store while the numbers are made -/
structure NSt (st : Store) (k : Nat) (S : Store) : Prop where
  ext : Ext (st.length + 1) st S
  le : st.length + 1 < S.length
  m : S[st.length]? = some (.lst (MANYZ.map W.int))
  n : S[st.length + 1]? = some (.lst ((NN k).map W.int))
theorem NSt.zero (st : Store) : NSt st 0 (st ++ [.lst (MANYZ.map W.int), .lst [.int 0, .int 1]]) :=
  ⟨.app _, by simp, by simp, by simp [NN]⟩
theorem NSt.step {st S : Store} {k : Nat} (h : NSt st k S) (P : Ob) : NSt st (k + 1) ((S ++ [P]).set (st.length + 1) (.lst ((NN k).map W.int ++ [.int (nextN (NN k))]))) := by
  have hl := h.le
  refine ⟨(h.ext.trans (.app [P])).set (by omega), by simp; omega, ?_, ?_⟩
  · rw [List.getElem?_set_ne (by omega), List.getElem?_append_left (by omega)]; exact h.m
  · rw [List.getElem?_set_self (by simp; omega)]; simp [NN]
/-- the products -/
theorem prods {st S : Store} {k : Nat} {env : EnvW} {i : Nat} {e : D W} (h : NSt st k S) (hk : k ≤ 399)
    (he : ∀ j : Nat, j < min 20 (k + 1) → e (env.set i (some (.int (1 + (j : Int))))) S = (ixW (.loc st.length) (.int (1 + (j : Int))) S).bind (fun a s => (ixW (.loc (st.length + 1)) (.int ((k : Int) + 1 - (1 + (j : Int)))) s).bind (mulW a))) :
    kLc env (tName i) dYes e ⟨intsW 1 (min 20 (k + 1)), none⟩ S = .ok (.loc S.length) (S ++ [.lst (((List.range (min 20 (k + 1))).map (term (NN k))).map W.int)]) := by
  have := kLc_mapB (env := env) (i := i) (e := e) (st := S) (src := none) (fun j : Nat => W.int (1 + (j : Int))) (fun j : Nat => W.int (term (NN k) j)) (List.range (min 20 (k + 1))) (by simp) (fun j hj => by
    have hj : j < min 20 (k + 1) := by simpa using hj
    rw [he j hj]
    have i1 : ixW (.loc st.length) (.int (1 + (j : Int))) S = .ok (.int (mN (1 + j))) S := by
      have := ix_nums h.m (j := 1 + j) (by rw [MANYZ_len]; omega)
      rw [MANYZ_get (by omega)] at this
      rw [← this]; congr 2 <;> omega
    have i2 : ixW (.loc (st.length + 1)) (.int ((k : Int) + 1 - (1 + (j : Int)))) S = .ok (.int ((NN k).getD (k + 1 - (1 + j)) 0)) S := by
      have := ix_nums h.n (j := k + 1 - (1 + j)) (by rw [NN_len]; omega)
      rw [← this]; congr 2 <;> omega
    rw [i1, Res.bind_ok, i2, Res.bind_ok, mul_term (by omega)]
    unfold term
    rw [NN_len]; rfl) (by simp; exact Nat.le_trans (Nat.min_le_left _ _) (by decide))
  rw [List.map_map]
  exact this
end
end K03
namespace K03
open PySem PySem.Spec PyProof.Rows L2 MP
open Classical
noncomputable section
theorem while_inv {c : D Bool} {b : DS} (I : Nat → EnvW → Store → Prop) (n : Nat) (hs : ∀ i env st, i < n → I i env st → ∃ env2 st2, c env st = .ok true st ∧ b env st = .go .nx env2 st2 ∧ I (i + 1) env2 st2)
    (he : ∀ env st, I n env st → c env st = .ok false st) {env : EnvW} {st : Store} (h0 : I 0 env st) : ∃ env' st', sWhile c b env st = .go .nx env' st' ∧ I n env' st' := by
  have key : ∀ m i env st, i + m = n → I i env st → ∃ env' st', whileF c b (m + 1) env st = .go .nx env' st' ∧ I n env' st' := by
    intro m
    induction m with
    | zero =>
      intro i env st hi h
      have : i = n := by omega
      subst this
      refine ⟨env, st, ?_, h⟩
      unfold whileF
      rw [he env st h]; rfl
    | succ m ih =>
      intro i env st hi h
      obtain ⟨env2, st2, e1, e2, h2⟩ := hs i env st (by omega) h
      obtain ⟨env', st', e3, h3⟩ := ih (i + 1) env2 st2 (by omega) h2
      refine ⟨env', st', ?_, h3⟩
      unfold whileF
      rw [e1]
      simp only [Res.then_ok, if_true]
      rw [e2]; exact e3
  obtain ⟨env', st', e, h⟩ := key n 0 env st (by omega) h0
  exact ⟨env', st', sWhile_eq _ e (by simp), h⟩
@[simp] theorem rngW_i {i j : Int} {st : Store} : rngW [.int i, .int j] st = .ok (.rng i j) st := rfl
theorem itOf_rng {i j : Int} {st : Store} (h0 : 0 ≤ i) (h1 : i < 2 ^ 62) (h : 0 ≤ j) (h' : j < 2 ^ 62) : itOf (.rng i j) st = .ok ⟨intsW i (j - i).toNat, none⟩ st := by
  show (if _ then _ else _) = _
  rw [if_pos ⟨by omega, h1, by omega, h'⟩]
theorem sl_take {S : Store} {k n : Nat} {ws : List W} (h : S[k]? = some (.lst ws)) : slW (.loc k) none (some (n : Int)) S = .ok (.loc S.length) (S ++ [.lst (ws.take n)]) := by
  unfold slW lstW
  simp only [h]
  rw [cut_to]
theorem min20 (k : Nat) : (if (k : Int) + 1 < 20 then (k : Int) + 1 else 20) = ((min 20 (k + 1) : Nat) : Int) := by
  split <;> omega
theorem p1_toNat (n : Nat) : ((n : Int) + 1 - 1).toNat = n := by omega
theorem nums_end {st S : Store} {n : Nat} {k : Nat} (h : NSt st k S) : gc st (.loc S.length) (S ++ [.lst (((NN k).map W.int).take n)]) = .ok (.loc st.length) (st ++ [.lst (((NN k).take n).map W.int)]) := by
  have hl := h.le
  have := gc_new (p := st.length + 1) (st := st) (st' := S ++ [.lst (((NN k).map W.int).take n)]) (m := S.length) (ws := ((NN k).take n).map W.int) (h.ext.trans (.app _)) (fun o hp _ => absurd hp (by omega)) (by omega) (by rw [List.map_take]; simp) nums_cl
  rw [this, Ext.takeEq (h.ext.trans (.app _)) (by omega)]
theorem numbers_ok {most : Nat} {st : Store} (h : most ≤ 400) : d_numbers_of_names [.int (most : Int)] st = .ok (.loc st.length) (st ++ [.lst (((NN (most - 1)).take (most + 1)).map W.int)]) := by
  have hr : kR1 [.int 21] st = .ok ⟨(List.range 21).map fun j : Nat => W.int (j : Int), none⟩ st := by rw [kR1_ok (by decide) (by decide)]; simp [intsW]
  have hm := kLc_mapB (env := [some (.int (most : Int)), none, none, none, none, none]) (i := 5) (e := dCall 1 d_labels_of (dCons (dVar 5) dNil)) (st := st) (src := none) (fun j : Nat => W.int (j : Int)) (fun j : Nat => W.int (manyZ (j : Int))) (List.range 21) (by simp)
    (fun j hj => by simp -implicitDefEqProofs [labels_of_ok (L := (j : Int)) (st := st) (by omega)]) (by simp; decide)
  have eM : ((List.range 21).map fun j : Nat => W.int (manyZ (j : Int))) = MANYZ.map W.int := by unfold MANYZ; rw [List.map_map]; rfl
  rw [eM] at hm
  have kl : kLst [W.int 0, .int 1] (st ++ [.lst (MANYZ.map W.int)]) = .ok (.loc (st.length + 1)) (st ++ [.lst (MANYZ.map W.int), .lst [.int 0, .int 1]]) := by
    rw [lst5 (by simp)]; simp
  obtain ⟨env', S, e, ⟨c3, c4, c5, rfl⟩, hS⟩ := while_inv (c := dBool (dOp leW (dApp lenW (dCons (dVar 2) dNil)) (dVar 0)))
    (b := sSeq (sAsg (dOp subW (dApp lenW (dCons (dVar 2) dNil)) (dC (.int 1))) (tName 3))
    (sSeq (sAsg (dApp rngW (dCons (dC (.int 1)) (dCons (dOp addW (dApp minW (dCons (dC (.int 20)) (dCons (dVar 3) dNil))) (dC (.int 1))) dNil))) (tName 4))
    (sExpr (dBm tyL appendW (dVar 2) (dCons (dApp sumW (dCons (dLc (dIt (dVar 4)) [5] (tName 5) dYes (dOp mulW (dOp ixW (dVar 1) (dVar 5)) (dOp ixW (dVar 2) (dOp subW (dVar 3) (dVar 5))))) dNil)) dNil)))))
    (fun k env S => (∃ c3 c4 c5, env = [some (.int (most : Int)), some (.loc st.length), some (.loc (st.length + 1)), c3, c4, c5]) ∧ NSt st k S) (most - 1)
    (fun k env S hk hI => by
      obtain ⟨⟨c3, c4, c5, rfl⟩, hS⟩ := hI
      have hl := len_nums hS.n
      rw [NN_len] at hl
      have hl' : lenW [.loc (st.length + 1)] S = .ok (.int ((k : Int) + 2)) S := hl
      have e1 : (k : Int) + 2 - 1 = (k : Int) + 1 := by omega
      have hc : decide ((k : Int) + 2 ≤ (most : Int)) = true := decide_eq_true (by omega)
      have hit := itOf_rng (i := 1) (j := ((min 20 (k + 1) : Nat) : Int) + 1) (st := S) (by decide) (by decide) (by omega) (Int.lt_of_le_of_lt (show ((min 20 (k + 1) : Nat) : Int) + 1 ≤ 21 by omega) (by decide))
      rw [p1_toNat] at hit
      have hp := prods (env := [some (.int (most : Int)), some (.loc st.length), some (.loc (st.length + 1)), some (.int ((k : Int) + 1)), some (.rng 1 (((min 20 (k + 1) : Nat) : Int) + 1)), none]) (i := 5) (e := dOp mulW (dOp ixW (dVar 1) (dVar 5)) (dOp ixW (dVar 2) (dOp subW (dVar 3) (dVar 5)))) hS (by omega)
        (fun j hj => by
          simp -implicitDefEqProofs
          cases ixW (.loc st.length) (.int (1 + (j : Int))) S <;> rfl)
      obtain ⟨T, hT⟩ : ∃ T, T = S ++ [Ob.lst (((List.range (min 20 (k + 1))).map (term (NN k))).map W.int)] := ⟨_, rfl⟩
      have hsum : sumW [.loc S.length] T = .ok (.int (nextN (NN k))) T := by
        rw [sum_at (l := (List.range (min 20 (k + 1))).map (term (NN k))) (by rw [hT]; simp)]
        unfold nextN
        rw [NN_len]; rfl
      have hTn : T[st.length + 1]? = some (.lst ((NN k).map W.int)) := by rw [hT]; exact get_app _ hS.n
      have ha := app_nums (w := .int (nextN (NN k))) hTn (by rw [List.length_map, NN_len]; exact Nat.lt_of_le_of_lt (show k + 2 ≤ 1000 by omega) (by decide))
      have hN := hS.step (.lst (((List.range (min 20 (k + 1))).map (term (NN k))).map W.int))
      rw [← hT] at hN hp
      have kb : ∀ r env, kBm tyL appendW r env (.loc (st.length + 1)) S = (r env S).bind (appendW (.loc (st.length + 1))) := fun r env => kBm_l appendW hS.n
      refine ⟨_, _, ?_, ?_, ⟨some (.int ((k : Int) + 1)), some (.rng 1 (((min 20 (k + 1) : Nat) : Int) + 1)), c5, rfl⟩, hN⟩
      · simp -implicitDefEqProofs [hl', hc]
      · simp -implicitDefEqProofs [hl', e1, min20, kb, hit, wipeW, hp, hsum, ha])
    (fun env S hI => by
      obtain ⟨⟨c3, c4, c5, rfl⟩, hS⟩ := hI
      have hl := len_nums hS.n
      rw [NN_len] at hl
      have hl' : lenW [.loc (st.length + 1)] S = .ok (.int (((most - 1 : Nat) : Int) + 2)) S := hl
      have hc : decide (((most - 1 : Nat) : Int) + 2 ≤ (most : Int)) = false := decide_eq_false (by omega)
      simp -implicitDefEqProofs only [dBool_ap, dOp_ap, dApp_ap, dCons_ap, dVar_ap, List.getElem?_cons_zero, List.getElem?_cons_succ, Res.bind_ok, kCons1_ap, dNil_ap, kCons2_ap, kOp1_ap, hl', leW_i, kBool_ap, hc])
    (env := [some (.int (most : Int)), some (.loc st.length), some (.loc (st.length + 1)), none, none, none]) (st := st ++ [.lst (MANYZ.map W.int), .lst [.int 0, .int 1]]) ⟨⟨_, _, _, rfl⟩, .zero st⟩
  have hsl := sl_take (n := most + 1) hS.n
  have hg := nums_end (n := most + 1) hS
  have c1 : ((most + 1 : Nat) : Int) = (most : Int) + 1 := by omega
  rw [c1] at hsl
  unfold d_numbers_of_names; rw [fnDen_ap]; unfold b_numbers_of_names
  simp -implicitDefEqProofs [hr, wipeW, hm, kl]
  rw [e]
  simp -implicitDefEqProofs [hsl, hg]
end
end K03
namespace K03
open PySem PySem.Spec PyProof.Rows L2 MP
open Classical
noncomputable section
theorem law_names_ok {most : Nat} {st : Store} (h : most ≤ 400) : d__law_names_of [.int (most : Int)] st = .ok (.loc st.length) (st ++ [.lst (((NN (most - 1)).take (most + 1)).map W.int)]) := by
  have hr : kR1 [.int 21] st = .ok ⟨(List.range 21).map fun j : Nat => W.int (j : Int), none⟩ st := by rw [kR1_ok (by decide) (by decide)]; simp [intsW]
  have hm := kLc_mapB (env := [some (.int (most : Int)), none, none, none, none]) (i := 4) (e := dCall 1 d__law_many (dCons (dVar 4) dNil)) (st := st) (src := none) (fun j : Nat => W.int (j : Int)) (fun j : Nat => W.int (manyZ (j : Int))) (List.range 21) (by simp)
    (fun j hj => by simp -implicitDefEqProofs [law_many_ok (L := (j : Int)) (st := st)]) (by simp; decide)
  have eM : ((List.range 21).map fun j : Nat => W.int (manyZ (j : Int))) = MANYZ.map W.int := by unfold MANYZ; rw [List.map_map]; rfl
  rw [eM] at hm
  have kl : kLst [W.int 0, .int 1] (st ++ [.lst (MANYZ.map W.int)]) = .ok (.loc (st.length + 1)) (st ++ [.lst (MANYZ.map W.int), .lst [.int 0, .int 1]]) := by
    rw [lst5 (by simp)]; simp
  obtain ⟨T0, hT0⟩ : ∃ T0, T0 = st ++ [Ob.lst (MANYZ.map W.int), .lst [.int 0, .int 1]] := ⟨_, rfl⟩
  have hr2 := kR2_ok (st := T0) (i := 2) (j := (most : Int) + 1) (by decide) (by decide) (by omega) (Int.lt_of_le_of_lt (show (most : Int) + 1 ≤ 401 by omega) (by decide))
  have en : ((most : Int) + 1 - 2).toNat = most - 1 := by omega
  rw [en] at hr2
  obtain ⟨env', S, e, ⟨c3, c4, rfl⟩, hS⟩ := forW_ok (chk := (ItW.mk (intsW 2 (most - 1)) none).Chk) (t := tName 3)
    (b := sExpr (dBm tyL appendW (dVar 2) (dCons (dApp sumW (dCons (dLc (dRange2 (dCons (dC (.int 1)) (dCons (dOp addW (dApp minW (dCons (dC (.int 20)) (dCons (dOp subW (dVar 3) (dC (.int 1))) dNil))) (dC (.int 1))) dNil))) [4] (tName 4) dYes (dOp mulW (dOp ixW (dVar 1) (dVar 4)) (dOp ixW (dVar 2) (dOp subW (dOp subW (dVar 3) (dC (.int 1))) (dVar 4))))) dNil)) dNil)))
    (fun k env S => (∃ c3 c4, env = [some (.int (most : Int)), some (.loc st.length), some (.loc (st.length + 1)), c3, c4]) ∧ NSt st k S) (fun _ _ _ _ => by simp) (intsW 2 (most - 1)) 0 [some (.int (most : Int)), some (.loc st.length), some (.loc (st.length + 1)), none, none] T0
    (fun k w env S hw hI => by
      obtain ⟨⟨c3, c4, rfl⟩, hS⟩ := hI
      rw [Nat.zero_add] at hS ⊢
      have hk : k < most - 1 := by have := (List.getElem?_eq_some_iff.mp hw).1; simpa [intsW] using this
      have ew : w = .int (2 + (k : Int)) := by
        unfold intsW at hw
        rw [List.getElem?_map, List.getElem?_range hk] at hw
        simpa using hw.symm
      subst ew
      have e1 : (2 : Int) + (k : Int) - 1 = (k : Int) + 1 := by omega
      have hit := kR2_ok (i := 1) (j := ((min 20 (k + 1) : Nat) : Int) + 1) (st := S) (by decide) (by decide) (by omega) (Int.lt_of_le_of_lt (show ((min 20 (k + 1) : Nat) : Int) + 1 ≤ 21 by omega) (by decide))
      rw [p1_toNat] at hit
      have hp := prods (env := [some (.int (most : Int)), some (.loc st.length), some (.loc (st.length + 1)), some (.int (2 + (k : Int))), none]) (i := 4) (e := dOp mulW (dOp ixW (dVar 1) (dVar 4)) (dOp ixW (dVar 2) (dOp subW (dOp subW (dVar 3) (dC (.int 1))) (dVar 4)))) hS (by omega)
        (fun j hj => by
          simp -implicitDefEqProofs [e1]
          cases ixW (.loc st.length) (.int (1 + (j : Int))) S with
          | ok a s => simp -implicitDefEqProofs [e1]
          | err => rfl
          | stuck => rfl)
      obtain ⟨T, hT⟩ : ∃ T, T = S ++ [Ob.lst (((List.range (min 20 (k + 1))).map (term (NN k))).map W.int)] := ⟨_, rfl⟩
      have hsum : sumW [.loc S.length] T = .ok (.int (nextN (NN k))) T := by
        rw [sum_at (l := (List.range (min 20 (k + 1))).map (term (NN k))) (by rw [hT]; simp)]
        unfold nextN
        rw [NN_len]; rfl
      have hTn : T[st.length + 1]? = some (.lst ((NN k).map W.int)) := by rw [hT]; exact get_app _ hS.n
      have ha := app_nums (w := .int (nextN (NN k))) hTn (by rw [List.length_map, NN_len]; exact Nat.lt_of_le_of_lt (show k + 2 ≤ 1000 by omega) (by decide))
      have hN := hS.step (.lst (((List.range (min 20 (k + 1))).map (term (NN k))).map W.int))
      rw [← hT] at hN hp
      have kb : ∀ r env, kBm tyL appendW r env (.loc (st.length + 1)) S = (r env S).bind (appendW (.loc (st.length + 1))) := fun r env => kBm_l appendW hS.n
      refine ⟨_, _, _, _, rfl, ?_, ⟨some (.int (2 + (k : Int))), c4, rfl⟩, hN⟩
      simp -implicitDefEqProofs [e1, min20, kb, hit, wipeW, hp, hsum, ha]) ⟨⟨_, _, rfl⟩, by rw [hT0]; exact .zero st⟩
  have hlen : (intsW 2 (most - 1)).length = most - 1 := by simp [intsW]
  rw [hlen, Nat.zero_add] at hS
  have hsl := sl_take (n := most + 1) hS.n
  have hg := nums_end (n := most + 1) hS
  have c1 : ((most + 1 : Nat) : Int) = (most : Int) + 1 := by omega
  rw [c1] at hsl
  unfold d__law_names_of; rw [fnDen_ap]; unfold b__law_names_of
  simp -implicitDefEqProofs [hr, wipeW, hm, kl]
  rw [← hT0, hr2]
  simp -implicitDefEqProofs only [Res.then_ok, kFor]
  rw [e]
  simp -implicitDefEqProofs [hsl, hg]
/-- the number of names of a size -/
def nnS (s : Nat) : Int := (NN (s - 1)).getD s 0
theorem NN_stable {i : Nat} : ∀ {k m : Nat}, i < k + 2 → k ≤ m → (NN m).getD i 0 = (NN k).getD i 0
  | k, 0, h, hm => by have : k = 0 := by omega
                      subst this; rfl
  | k, m + 1, h, hm => by
    by_cases e : k = m + 1
    · subst e; rfl
    · rw [← NN_stable (k := k) (m := m) h (by omega), NN, List.getD_eq_getElem?_getD, List.getElem?_append_left (by rw [NN_len]; omega), List.getD_eq_getElem?_getD]
theorem due_get {most s : Nat} (h : s ≤ most) : ((NN (most - 1)).take (most + 1)).getD s 0 = nnS s := by
  rw [List.getD_eq_getElem?_getD, List.getElem?_take, if_pos (by omega), ← List.getD_eq_getElem?_getD]
  exact NN_stable (by omega) (by omega)
theorem due_len (most : Nat) : ((NN (most - 1)).take (most + 1)).length = most + 1 := by
  rw [List.length_take, NN_len]; omega
theorem names_of_ok {s : Nat} {st : Store} (h : s ≤ 400) : d_names_of [.int (s : Int)] st = .ok (.int (nnS s)) st := by
  have hn := numbers_ok (most := s) (st := st) h
  have l0 : decide ((s : Int) < 0) = false := decide_eq_false (by omega)
  obtain ⟨T, hT⟩ : ∃ T, T = st ++ [Ob.lst (((NN (s - 1)).take (s + 1)).map W.int)] := ⟨_, rfl⟩
  have hi := ix_nums (S := T) (q := st.length) (l := (NN (s - 1)).take (s + 1)) (by rw [hT]; simp) (j := s) (by rw [due_len]; omega)
  rw [due_get (Nat.le_refl _)] at hi
  rw [← hT] at hn
  have hg : gc st (.int (nnS s)) T = .ok (.int (nnS s)) st := by rw [hT]; exact gc_app rfl
  unfold d_names_of; rw [fnDen_ap]; unfold b_names_of
  simp -implicitDefEqProofs [l0, hn, hi, hg]
end
end K03
namespace K03
open PySem PySem.Spec PyProof.Rows L2 MP
open Classical
noncomputable section
/-! spelled, nth_label, label_index -/
def sgn (c : Nat) : W := .str ⟨#[c]⟩
def txt (l : List Nat) : Str := ⟨l.toArray⟩
theorem cl_txt (l : List Nat) : cl (txt l) = l := rfl
theorem txt_len (l : List Nat) : (txt l).length = l.length := rfl
theorem txt_one (c : Nat) : txt [c] = ⟨#[c]⟩ := rfl
theorem in128 {c : Nat} (h : c ∈ IN) : c < 128 := len_in h
theorem ok_txt {l : List Nat} (h : ∀ c ∈ l, c ∈ IN) (hl : l.length ≤ 8192) : okS (txt l) = true :=
  okS_iff.mpr ⟨hl, fun c hc => in128 (h c hc)⟩
theorem ends_at {d : Nat} {st : Store} (h : d < 36) : ixW (.str c_ENDS) (.int (d : Int)) st = .ok (sgn (ec d)) st := by
  unfold ixW
  have hl : c_ENDS.length ≤ sizeLine := by decide +kernel
  have hn : d < c_ENDS.cps.toList.length := by have : c_ENDS.cps.toList.length = 36 := by decide +kernel
                                               omega
  simp only [if_pos hl, atI_nat hn, List.getElem?_eq_getElem hn]
  unfold sgn ec EN
  rw [List.getD_eq_getElem?_getD, List.getElem?_eq_getElem hn]; rfl
theorem inner_at {d : Nat} {st : Store} (h : d < 37) : ixW (.str c_INNER) (.int (d : Int)) st = .ok (sgn (ic d)) st := by
  unfold ixW
  have hl : c_INNER.length ≤ sizeLine := by decide +kernel
  have hn : d < c_INNER.cps.toList.length := by have : c_INNER.cps.toList.length = 37 := by decide +kernel
                                                omega
  simp only [if_pos hl, atI_nat hn, List.getElem?_eq_getElem hn]
  unfold sgn ic IN
  rw [List.getD_eq_getElem?_getD, List.getElem?_eq_getElem hn]; rfl
theorem dm_ok {n m : Nat} {st : Store} (h : 0 < m) (h' : m < 100) : divmodW [.int (n : Int), .int (m : Int)] st = .ok (.tup [.int ((n / m : Nat) : Int), .int ((n % m : Nat) : Int)]) st := by
  have : CDiv (n : Int) (m : Int) := ⟨by omega, by omega⟩
  unfold divmodW
  simp only [if_pos this]
  rfl
theorem dm36 {n : Nat} {st : Store} : divmodW [.int (n : Int), .int 36] st = .ok (.tup [.int ((n / 36 : Nat) : Int), .int ((n % 36 : Nat) : Int)]) st := dm_ok (m := 36) (by decide) (by decide)
theorem dm37 {n : Nat} {st : Store} : divmodW [.int (n : Int), .int 37] st = .ok (.tup [.int ((n / 37 : Nat) : Int), .int ((n % 37 : Nat) : Int)]) st := dm_ok (m := 37) (by decide) (by decide)
theorem kAsg_2 {i j : Nat} {a b : W} {env : EnvW} {st : Store} : kAsg (tTupT [tName i, tName j]) env (.tup [a, b]) st = .go .nx ((env.set i (some a)).set j (some b)) st := rfl
theorem sgn_join {S : Store} {q : Nat} {l : List Nat} (h : S[q]? = some (.lst (l.map sgn))) (hl : l.length ≤ 8192) : joinW (.str "") [.loc q] S = .ok (.str (txt l)) S := by
  have e : l.map sgn = (l.map fun c => (⟨#[c]⟩ : Str)).map W.str := by rw [List.map_map]; rfl
  rw [e] at h
  have hs : ((l.map fun c => (⟨#[c]⟩ : Str)).map (·.length)).sum + (l.map fun c => (⟨#[c]⟩ : Str)).length * ("" : Str).length ≤ 16777216 := by
    have h0 : ("" : Str).length = 0 := rfl
    rw [h0, Nat.mul_zero, Nat.add_zero]
    have := sum_le (xs := l.map fun c => (⟨#[c]⟩ : Str)) (f := (·.length)) (k := 1) (fun x hx => by
      obtain ⟨c, _, rfl⟩ := List.mem_map.mp hx
      exact Nat.le_refl 1)
    rw [List.length_map] at this
    omega
  rw [join_at h hs]
  congr 2
  apply str_ext
  rw [join0, cl_txt, List.map_map]
  clear h e hs hl
  induction l with
  | nil => rfl
  | cons a l ih => simpa [cl] using ih
theorem sgn_cl {n : Nat} {c : Nat} : clB n (sgn c) = true := rfl
theorem spelled_ok {L r : Nat} {st : Store} (h : 1 ≤ L) (h' : L ≤ 20) (hr : r < mN L) : d__spelled [.int (r : Int), .int (L : Int)] st = .ok (.str (txt (spell L r))) st := by
  unfold d__spelled; rw [fnDen_ap]; unfold b__spelled
  by_cases h1 : L = 1
  · subst h1
    have hs : spell 1 r = [ec r] := if_pos rfl
    have hx := ends_at (d := r) (st := st) hr
    rw [hs]
    simp -implicitDefEqProofs [hx, sgn, txt]
  · have q1 : ((L : Int) == 1) = false := beq_false_of_ne (by omega)
    have hL : L = (L - 2) + 2 := by omega
    rw [mN_big (by omega) h'] at hr
    have hq : r / 36 < 36 * 37 ^ (L - 2) := by rw [Nat.div_lt_iff_lt_mul (by decide)]; exact hr
    have hs : spell L r = pre (L - 2) (r / 36) ++ [ec (r % 36)] := if_neg h1
    rw [hs]
    have hx := fun S => ends_at (d := r % 36) (st := S) (Nat.mod_lt _ (by decide))
    have kl : kLst [sgn (ec (r % 36))] st = .ok (.loc st.length) (st ++ [.lst [sgn (ec (r % 36))]]) := lst5 (by simp)
    obtain ⟨n, hn⟩ : ∃ n, n = L - 2 := ⟨_, rfl⟩
    have hnL : (L : Int) - 2 = (n : Int) := by omega
    obtain ⟨S0, hS0⟩ : ∃ S0, S0 = st ++ [Ob.lst [sgn (ec (r % 36))]] := ⟨_, rfl⟩
    have hr1 := kR1_ok (st := S0) (j := (n : Int)) (Int.le_trans (by decide) (show (0 : Int) ≤ n by omega)) (Int.lt_of_le_of_lt (show (n : Int) ≤ 18 by omega) (by decide))
    rw [Int.toNat_natCast] at hr1
    obtain ⟨env', S, e, ⟨c3, c5, rfl⟩, hS⟩ := forW_ok (chk := (ItW.mk (intsW 0 n) none).Chk) (t := tName 3)
      (b := sSeq (sAsg (dApp divmodW (dCons (dVar 4) (dCons (dApp lenW (dCons (dC (.str c_INNER)) dNil)) dNil))) (tTupT [(tName 4), (tName 5)]))
        (sExpr (dBm tyL appendW (dVar 2) (dCons (dOp ixW (dC (.str c_INNER)) (dVar 5)) dNil))))
      (fun k env S => (∃ c3 c5, env = [some (.int (r : Int)), some (.int (L : Int)), some (.loc st.length), c3, some (.int ((r / 36 / 37 ^ k : Nat) : Int)), c5]) ∧ S = st ++ [.lst ((ec (r % 36) :: mid k (r / 36)).map sgn)]) (fun _ _ _ _ => by simp) (intsW 0 n) 0
      [some (.int (r : Int)), some (.int (L : Int)), some (.loc st.length), none, some (.int ((r / 36 : Nat) : Int)), some (.int ((r % 36 : Nat) : Int))] S0
      (fun k w env S hw hI => by
        obtain ⟨⟨c3, c5, rfl⟩, rfl⟩ := hI
        rw [Nat.zero_add] at *
        have hk : k < n := by have := (List.getElem?_eq_some_iff.mp hw).1; simpa [intsW] using this
        obtain ⟨T, hT⟩ : ∃ T, T = st ++ [Ob.lst ((ec (r % 36) :: mid k (r / 36)).map sgn)] := ⟨_, rfl⟩
        have hg : T[st.length]? = some (.lst ((ec (r % 36) :: mid k (r / 36)).map sgn)) := by rw [hT]; simp
        have ha := app_nums (w := sgn (ic (r / 36 / 37 ^ k % 37))) hg (by simp [mid_len]; exact Nat.lt_of_le_of_lt (show k + 1 ≤ 100 by omega) (by decide))
        have hi := inner_at (d := r / 36 / 37 ^ k % 37) (st := T) (Nat.mod_lt _ (by decide))
        have kb : ∀ r env, kBm tyL appendW r env (.loc st.length) T = (r env T).bind (appendW (.loc st.length)) := fun r env => kBm_l appendW hg
        have ed : r / 36 / 37 ^ k / 37 = r / 36 / 37 ^ (k + 1) := by rw [Nat.div_div_eq_div_mul, ← Nat.pow_succ]
        rw [← hT]
        refine ⟨_, _, [some (.int (r : Int)), some (.int (L : Int)), some (.loc st.length), some w, some (.int ((r / 36 / 37 ^ (k + 1) : Nat) : Int)), some (.int ((r / 36 / 37 ^ k % 37 : Nat) : Int))], _, rfl, ?_, ⟨_, _, rfl⟩, rfl⟩
        simp -implicitDefEqProofs only [tName_ap, List.set_cons_succ, List.set_cons_zero, sSeq_ap, sAsg_ap, dApp_ap, dCons_ap, dVar_ap, List.getElem?_cons_zero, List.getElem?_cons_succ, Res.bind_ok, kCons1_ap, dNil_ap, kCons2_ap, dC_ap, inner_len, dm37, Res.then_ok, kAsg_2, RsS.next_nx, sExpr_ap, dBm_ap, kb, dOp_ap, kOp1_ap, hi, ha, kExpr_ap, ed]
        have eT : T.set st.length (.lst ((ec (r % 36) :: mid k (r / 36)).map sgn ++ [sgn (ic (r / 36 / 37 ^ k % 37))])) = st ++ [.lst ((ec (r % 36) :: mid (k + 1) (r / 36)).map sgn)] := by
          rw [hT, mid_snoc]; simp
        rw [eT]) ⟨⟨none, some (.int ((r % 36 : Nat) : Int)), by simp⟩, by rw [hS0]; simp [mid]⟩
    have hlen : (intsW 0 n).length = n := by simp [intsW]
    rw [hlen, Nat.zero_add] at hS e
    have hrest : r / 36 / 37 ^ n < 36 := by rw [Nat.div_lt_iff_lt_mul (Nat.pow_pos (by decide)), hn]; exact hq
    have hg : S[st.length]? = some (.lst ((ec (r % 36) :: mid n (r / 36)).map sgn)) := by rw [hS]; simp
    have hi := ends_at (d := r / 36 / 37 ^ n) (st := S) hrest
    have ha := app_nums (w := sgn (ec (r / 36 / 37 ^ n))) hg (by simp [mid_len]; exact Nat.lt_of_le_of_lt (show n + 1 ≤ 100 by omega) (by decide))
    have kb : ∀ r env, kBm tyL appendW r env (.loc st.length) S = (r env S).bind (appendW (.loc st.length)) := fun r env => kBm_l appendW hg
    obtain ⟨A, hA⟩ : ∃ A, A = (ec (r % 36) :: mid n (r / 36)).map sgn ++ [sgn (ec (r / 36 / 37 ^ n))] := ⟨_, rfl⟩
    obtain ⟨T, hT⟩ : ∃ T, T = S.set st.length (.lst A) := ⟨_, rfl⟩
    rw [← hA, ← hT] at ha
    have hTs : T = st ++ [.lst A] := by rw [hT, hS]; simp
    have hrev : revW (.loc st.length) T = .ok (.loc T.length) (T ++ [.lst A.reverse]) := by
      unfold revW lstW
      have : T[st.length]? = some (.lst A) := by rw [hTs]; simp
      simp only [this]
    have hAr : A.reverse = (pre n (r / 36) ++ [ec (r % 36)]).map sgn := by
      rw [hA]; unfold pre; simp
    have hj := sgn_join (S := T ++ [.lst A.reverse]) (q := T.length) (l := pre n (r / 36) ++ [ec (r % 36)]) (by rw [hAr]; simp) (by simp [pre_len]; omega)
    have hgc : gc st (.str (txt (pre n (r / 36) ++ [ec (r % 36)]))) (T ++ [.lst A.reverse]) = .ok (.str (txt (pre n (r / 36) ++ [ec (r % 36)]))) st := by
      rw [hTs, List.append_assoc]; exact gc_app rfl
    rw [← hn]
    simp -implicitDefEqProofs only [sSeq_ap, sIf_ap, dBool_ap, dOp_ap, dVar_ap, dC_ap, List.map_cons, List.map_nil, List.length_cons, List.length_nil, Nat.reduceAdd, Nat.reduceSub, List.replicate_succ, List.replicate_zero, List.cons_append, List.nil_append, List.getElem?_cons_zero, List.getElem?_cons_succ, Res.bind_ok, kOp1_ap, eqW_int, q1, kBool_ap, Res.then_ok, kSIf_f, sNil_ap, RsS.next_nx, sAsg_ap, dApp_ap, dCons_ap, kCons1_ap, dNil_ap, kCons2_ap, ends_len, dm36, kAsg_2, List.set_cons_succ, List.set_cons_zero, dLst_ap, hx, kl, kAsg_n, sFor_ap, dRange1_ap, subW_i, hnL]
    rw [← hS0, hr1]
    simp -implicitDefEqProofs only [Res.then_ok, kFor]
    rw [e]
    simp -implicitDefEqProofs only [RsS.next_nx, sSeq_ap, sExpr_ap, dBm_ap, dVar_ap, List.getElem?_cons_zero, List.getElem?_cons_succ, Res.bind_ok, kb, dCons_ap, dOp_ap, dC_ap, kOp1_ap, hi, kCons1_ap, dNil_ap, kCons2_ap, ha, Res.then_ok, kExpr_ap, sRet_ap, kBm_s, dUn_ap, hrev, hj, kRet_ap, fnR_rt, hgc]
end
end K03
namespace K03
open PySem PySem.Spec PyProof.Rows L2 MP
open Classical
noncomputable section
theorem forW_pre {chk : Store → Prop} {t : DT} {b : DS} (I : Nat → EnvW → Store → Prop) (hc : ∀ i env st, I i env st → chk st) : ∀ (ws : List W) (k : Nat) (env : EnvW) (st : Store),
    (∀ i w env st, ws[i]? = some w → I (k + i) env st → ∃ env1 st1 env2 st2, t w env st = some (env1, st1) ∧ b env1 st1 = .go .nx env2 st2 ∧ I (k + i + 1) env2 st2) → I k env st →
    ∃ env' st', (∀ vs, forW chk t b (ws ++ vs) env st = forW chk t b vs env' st') ∧ I (k + ws.length) env' st'
  | [], k, env, st, _, h => ⟨env, st, fun _ => rfl, h⟩
  | w :: ws, k, env, st, hs, h => by
    obtain ⟨env1, st1, env2, st2, e1, e2, h2⟩ := hs 0 w env st rfl h
    obtain ⟨env', st', e3, h3⟩ := forW_pre I hc ws (k + 1) env2 st2 (fun i w env st hw hI => by
      have := hs (i + 1) w env st (by simpa using hw) (by rwa [show k + (i + 1) = k + 1 + i by omega])
      rwa [show k + (i + 1) + 1 = k + 1 + i + 1 by omega] at this) h2
    refine ⟨env', st', fun vs => ?_, ?_⟩
    · rw [List.cons_append]
      conv => lhs; unfold forW
      rw [if_pos (hc _ _ _ h), e1]
      dsimp only
      rw [e2]; exact e3 vs
    · rw [List.length_cons, show k + (ws.length + 1) = k + 1 + ws.length by omega]; exact h3
theorem ints_get {lo : Int} {n i : Nat} {w : W} (h : (intsW lo n)[i]? = some w) : i < n ∧ w = .int (lo + (i : Int)) := by
  have hi : i < n := by have := (List.getElem?_eq_some_iff.mp h).1; simpa [intsW] using this
  unfold intsW at h
  rw [List.getElem?_map, List.getElem?_range hi] at h
  exact ⟨hi, by simpa using h.symm⟩
def nB : DS := (sSeq (sIf (dBool (dOp ltW (dVar 1) (dCall 1 d_labels_of (dCons (dVar 2) dNil))))
    (sRet (dCall 2 d__spelled (dCons (dVar 1) (dCons (dVar 2) dNil))))
    sNil)
    (sAsg (dOp subW (dVar 1) (dCall 1 d_labels_of (dCons (dVar 2) dNil))) (tName 1)))
theorem nth_eq : b_nth_label = sSeq (sIf (dBool (dOp ltW (dVar 0) (dC (.int 0)))) (sRaise "InvalidNumber" (dCons (dVar 0) dNil)) sNil)
    (sSeq (sAsg (dVar 0) (tName 1)) (sSeq (sFor (dRange2 (dCons (dC (.int 1)) (dCons (dOp addW (dC (.int 20)) (dC (.int 1))) dNil))) (tName 2) nB) (sRaise "InvalidNumber" (dCons (dVar 0) dNil)))) := rfl
theorem lab_nat {L : Nat} {st : Store} : d_labels_of [.int (L : Int)] st = .ok (.int (mN L : Int)) st := by
  rw [labels_of_ok (by omega), manyZ_nat]
/-- a length whose labels are all ahead -/
theorem nB_go {i : Int} {r L : Nat} {c : Option W} {st : Store} (h : mN L ≤ r) : nB [some (.int i), some (.int (r : Int)), some (.int (L : Int))] st = .go .nx [some (.int i), some (.int ((r - mN L : Nat) : Int)), some (.int (L : Int))] st := by
  have l0 : decide (r < mN L) = false := decide_eq_false (by omega)
  have e : (r : Int) - (mN L : Int) = ((r - mN L : Nat) : Int) := by omega
  unfold nB
  simp -implicitDefEqProofs [lab_nat, l0, e]
theorem nB_ret {i : Int} {r L : Nat} {st : Store} (h : r < mN L) (h1 : 1 ≤ L) (h2 : L ≤ 20) : nB [some (.int i), some (.int (r : Int)), some (.int (L : Int))] st = .go (.rt (.str (txt (spell L r)))) [some (.int i), some (.int (r : Int)), some (.int (L : Int))] st := by
  have l0 : decide (r < mN L) = true := decide_eq_true (by omega)
  unfold nB
  simp -implicitDefEqProofs [lab_nat, l0, spelled_ok h1 h2 h]
/-- the first lengths -/
theorem nth_pre {n m : Nat} {st : Store} (hm : m ≤ 20) (h : aN (m + 1) ≤ n) : ∃ c, ∀ vs, forW (ItW.mk (intsW 1 20) none).Chk (tName 2) nB ((intsW 1 20).take m ++ vs) [some (.int (n : Int)), some (.int (n : Int)), none] st = forW (ItW.mk (intsW 1 20) none).Chk (tName 2) nB vs [some (.int (n : Int)), some (.int ((n - aN (m + 1) : Nat) : Int)), c] st := by
  obtain ⟨env', st', e, ⟨c, rfl⟩, rfl⟩ := forW_pre (chk := (ItW.mk (intsW 1 20) none).Chk) (t := tName 2) (b := nB) (fun k env S => (∃ c, env = [some (.int (n : Int)), some (.int ((n - aN (k + 1) : Nat) : Int)), c]) ∧ S = st) (fun _ _ _ _ => by simp) ((intsW 1 20).take m) 0 [some (.int (n : Int)), some (.int (n : Int)), none] st
    (fun k w env S hw hI => by
      obtain ⟨⟨c, rfl⟩, rfl⟩ := hI
      rw [Nat.zero_add] at *
      rw [List.getElem?_take] at hw
      split at hw
      · rename_i hk
        obtain ⟨hk20, rfl⟩ := ints_get hw
        have e1 : (1 : Int) + (k : Int) = ((k + 1 : Nat) : Int) := by omega
        have hs := aN_step (i := k + 1) (L := m + 1) (by omega)
        have e2 : n - aN (k + 1) - mN (k + 1) = n - aN (k + 1 + 1) := by simp only [aN]; omega
        have := nB_go (i := (n : Int)) (r := n - aN (k + 1)) (L := k + 1) (c := c) (st := S) (by omega)
        rw [e2] at this
        rw [e1]
        exact ⟨_, _, _, _, rfl, this, ⟨_, rfl⟩, rfl⟩
      · cases hw) ⟨⟨none, by simp [aN, mN]⟩, rfl⟩
  refine ⟨c, fun vs => ?_⟩
  have hl : ((intsW 1 20).take m).length = m := by simp [intsW]; omega
  rw [e vs, hl, Nat.zero_add]
theorem nth_ok {L r : Nat} {st : Store} (h : 1 ≤ L) (h' : L ≤ 20) (hr : r < mN L) : d_nth_label [.int ((aN L + r : Nat) : Int)] st = .ok (.str (txt (spell L r))) st := by
  have l0 : decide (((aN L + r : Nat) : Int) < 0) = false := decide_eq_false (by omega)
  have hrg := kR2_ok (st := st) (i := 1) (j := 21) (by decide) (by decide) (by decide) (by decide)
  have e20 : ((21 : Int) - 1).toNat = 20 := rfl
  rw [e20] at hrg
  obtain ⟨m, rfl⟩ : ∃ m, L = m + 1 := ⟨L - 1, by omega⟩
  obtain ⟨c, hp⟩ := nth_pre (n := aN (m + 1) + r) (m := m) (st := st) (by omega) (by omega)
  have hn : aN (m + 1) + r - aN (m + 1) = r := by omega
  rw [hn] at hp
  have hs : intsW 1 20 = (intsW 1 20).take m ++ (.int ((m + 1 : Nat) : Int) :: (intsW 1 20).drop (m + 1)) := by
    have hl : m < (intsW 1 20).length := by simp [intsW]; omega
    have : (intsW 1 20)[m] = .int ((m + 1 : Nat) : Int) := by
      obtain ⟨_, e⟩ := ints_get (List.getElem?_eq_getElem hl)
      rw [e]; congr 1; omega
    rw [← this, ← List.drop_eq_getElem_cons, List.take_append_drop]
  have hrun : forW (ItW.mk (intsW 1 20) none).Chk (tName 2) nB (intsW 1 20) [some (.int ((aN (m + 1) + r : Nat) : Int)), some (.int ((aN (m + 1) + r : Nat) : Int)), none] st = .go (.rt (.str (txt (spell (m + 1) r)))) [some (.int ((aN (m + 1) + r : Nat) : Int)), some (.int (r : Int)), some (.int ((m + 1 : Nat) : Int))] st := by
    have := hp (.int ((m + 1 : Nat) : Int) :: (intsW 1 20).drop (m + 1))
    rw [← hs] at this
    rw [this]
    unfold forW
    rw [if_pos (by simp)]
    simp -implicitDefEqProofs only [tName_ap, List.set_cons_succ, List.set_cons_zero, nB_ret hr h h']
  generalize ((aN (m + 1) + r : Nat) : Int) = N at *
  unfold d_nth_label; rw [fnDen_ap, nth_eq]
  simp -implicitDefEqProofs [l0, hrg]
  simp -implicitDefEqProofs only [Res.then_ok, kFor]
  rw [hrun]
  simp -implicitDefEqProofs
theorem nth_over {n : Nat} {st : Store} (h : aN 21 ≤ n) : d_nth_label [.int (n : Int)] st = .err "InvalidNumber" (.int (n : Int)) st := by
  have l0 : decide ((n : Int) < 0) = false := decide_eq_false (by omega)
  have hrg := kR2_ok (st := st) (i := 1) (j := 21) (by decide) (by decide) (by decide) (by decide)
  have e20 : ((21 : Int) - 1).toNat = 20 := rfl
  rw [e20] at hrg
  obtain ⟨c, hp⟩ := nth_pre (n := n) (m := 20) (st := st) (by omega) h
  have hrun := hp []
  rw [List.append_nil, List.take_of_length_le (by simp [intsW])] at hrun
  generalize (n - aN (20 + 1)) = q at *
  have hend : forW (ItW.mk (intsW 1 20) none).Chk (tName 2) nB [] [some (.int (n : Int)), some (.int (q : Int)), c] st = .go .nx [some (.int (n : Int)), some (.int (q : Int)), c] st := by
    unfold forW; rw [if_pos (by simp)]
  rw [hend] at hrun
  generalize (n : Int) = N at *
  unfold d_nth_label; rw [fnDen_ap, nth_eq]
  simp -implicitDefEqProofs [l0, hrg]
  simp -implicitDefEqProofs only [Res.then_ok, kFor]
  rw [hrun]
  simp -implicitDefEqProofs
theorem nth_neg {i : Int} {st : Store} (h : i < 0) : d_nth_label [.int i] st = .err "InvalidNumber" (.int i) st := by
  have l0 : decide (i < 0) = true := decide_eq_true h
  unfold d_nth_label; rw [fnDen_ap, nth_eq]
  simp -implicitDefEqProofs [l0]
theorem labels_neg {i : Int} {st : Store} (h : i < 0) : d_labels_of [.int i] st = .err "InvalidNumber" (.int i) st := by
  have l0 : decide (i < 0) = true := decide_eq_true h
  unfold d_labels_of; rw [fnDen_ap]; unfold b_labels_of
  simp -implicitDefEqProofs [l0]
theorem names_neg {i : Int} {st : Store} (h : i < 0) : d_names_of [.int i] st = .err "InvalidNumber" (.int i) st := by
  have l0 : decide (i < 0) = true := decide_eq_true h
  unfold d_names_of; rw [fnDen_ap]; unfold b_names_of
  simp -implicitDefEqProofs [l0]
/-! label_index -/
structure PlainL (l : List Nat) : Prop where
  one : 1 ≤ l.length
  most : l.length ≤ 20
  fst : l.getD 0 0 ∈ EN
  lst : l.getD (l.length - 1) 0 ∈ EN
  all : ∀ c ∈ l, c ∈ IN
theorem PlainL.okS {l : List Nat} (h : PlainL l) : okS (txt l) = true := ok_txt h.all (by have := h.most; omega)
theorem PlainL.plain {l : List Nat} (h : PlainL l) : plainB (txt l) = true := by
  have h1 : fst0 (txt l) = l.getD 0 0 := (List.getD_eq_getElem?_getD).symm
  have h2 : lst0 (txt l) = l.getD (l.length - 1) 0 := (List.getD_eq_getElem?_getD).symm
  unfold plainB
  rw [h1, h2, txt_len]
  have := h.one; have := h.most; have := h.fst; have := h.lst; have := h.all
  simp only [Bool.and_eq_true, decide_eq_true_eq, List.all_eq_true]
  exact ⟨⟨⟨⟨by assumption, by assumption⟩, h.all⟩, h.fst⟩, h.lst⟩
theorem PlainL.star {l : List Nat} (h : PlainL l) : (txt l == c_WILD) = false := by
  rw [Bool.eq_false_iff]
  intro z
  have : txt l = c_WILD := beq_iff_eq.mp z
  have hp := h.plain
  rw [this] at hp
  revert hp; decide +kernel
theorem PlainL.spell {L r : Nat} (h : 1 ≤ L) (h' : L ≤ 20) (hr : r < mN L) : PlainL (spell L r) := by
  obtain ⟨a, b, c⟩ := spell_plain h h' hr
  have hl := spell_len (r := r) h
  exact ⟨by omega, by omega, b, by rw [hl]; exact c, a⟩
theorem ends_occ : ∀ c ∈ EN, Builtin.Str.occurrences c_ENDS ⟨#[c]⟩ 0 c_ENDS.length 1 = [eN c] := by decide +kernel
theorem inner_occ : ∀ c ∈ IN, Builtin.Str.occurrences c_INNER ⟨#[c]⟩ 0 c_INNER.length 1 = [iN c] := by decide +kernel
theorem ends_ix {c : Nat} {st : Store} (h : c ∈ EN) : sIndexW (.str c_ENDS) [sgn c] st = .ok (.int (eN c : Int)) st := by
  unfold sIndexW sgn
  simp only [ends_occ c h]
theorem inner_ix {c : Nat} {st : Store} (h : c ∈ IN) : sIndexW (.str c_INNER) [sgn c] st = .ok (.int (iN c : Int)) st := by
  unfold sIndexW sgn
  simp only [inner_occ c h]
theorem ahead_sum : ∀ n : Nat, ((List.range n).map fun i : Nat => ((mN (1 + i) : Nat) : Int)).sum = (aN (n + 1) : Int)
  | 0 => rfl
  | n + 1 => by
    rw [List.range_succ, List.map_append, List.sum_append, ahead_sum n]
    simp only [List.map_cons, List.map_nil, List.sum_cons, List.sum_nil]
    rw [show aN (n + 1 + 1) = aN (n + 1) + mN (n + 1) from rfl, Nat.add_comm 1 n]
    omega
/-- what of range(1, L) is summed up -/
theorem ahead_lc {st : Store} {env : EnvW} {i L : Nat} {e : D W} (h1 : 1 ≤ L) (h2 : L ≤ 21) (he : ∀ j : Nat, e (env.set i (some (.int (1 + (j : Int))))) st = .ok (.int (manyZ (1 + (j : Int)))) st) :
    ∃ g, kLc env (tName i) dYes e ⟨intsW 1 (L - 1), none⟩ st = .ok (.loc st.length) (st ++ [g]) ∧ sumW [.loc st.length] (st ++ [g]) = .ok (.int (aN L : Int)) (st ++ [g]) := by
  have := kLc_mapB (env := env) (i := i) (e := e) (st := st) (src := none) (fun j : Nat => W.int (1 + (j : Int))) (fun j : Nat => W.int ((mN (1 + j) : Nat) : Int)) (List.range (L - 1)) (by simp) (fun j hj => by
    rw [he j, show (1 : Int) + (j : Int) = ((1 + j : Nat) : Int) by omega, manyZ_nat]) (by simp; exact Nat.le_trans (show L ≤ 100 by omega) (by decide))
  refine ⟨_, this, ?_⟩
  rw [sum_at (l := (List.range (L - 1)).map fun i : Nat => ((mN (1 + i) : Nat) : Int)) (by rw [List.map_map]; simp), ahead_sum, show L - 1 + 1 = L by omega]
end
end K03
namespace K03
open PySem PySem.Spec PyProof.Rows L2 MP
open Classical
noncomputable section
theorem txt_lenW {l : List Nat} {st : Store} (h : okS (txt l) = true) : lenW [.str (txt l)] st = .ok (.int (l.length : Int)) st := by
  rw [len_str (okS.line h), txt_len]
theorem txt_first {l : List Nat} {st : Store} (h : okS (txt l) = true) (h1 : 1 ≤ l.length) : ixW (.str (txt l)) (.int 0) st = .ok (sgn (l.getD 0 0)) st := by
  obtain ⟨c, e, _, q⟩ := ix_str (x := txt l) (i := 0) (okS.line h) (by decide) (by rw [txt_len]; omega)
  rw [q st]
  have : l.getD 0 0 = c := by rw [List.getD_eq_getElem?_getD]; have e' : l[0]? = some c := e; rw [e']; rfl
  rw [this]; rfl
theorem txt_last {l : List Nat} {st : Store} (h : okS (txt l) = true) (h1 : 1 ≤ l.length) : ixW (.str (txt l)) (.int (-1)) st = .ok (sgn (l.getD (l.length - 1) 0)) st := by
  obtain ⟨c, e, _, q⟩ := ix_strL (x := txt l) (okS.line h) (by rw [txt_len]; omega)
  rw [q st]
  have : l.getD (l.length - 1) 0 = c := by rw [List.getD_eq_getElem?_getD]; have e' : l[l.length - 1]? = some c := e; rw [e']; rfl
  rw [this]; rfl
theorem cut_mid {l : List Nat} (h1 : 2 ≤ l.length) : cutS (txt l) (some 1) (some (-1)) = txt ((l.drop 1).take (l.length - 2)) := by
  apply str_ext
  show List.take _ (List.drop _ l) = _
  have e1 : HT.sIx (txt l).length 0 (some 1) = 1 := by
    unfold HT.sIx
    simp only
    rw [if_neg (by decide), txt_len]
    have : (1 : Int).toNat = 1 := rfl
    rw [this]; omega
  have e2 : HT.sIx (txt l).length (txt l).length (some (-1)) = l.length - 1 := by
    unfold HT.sIx
    simp only
    rw [if_pos (by decide), txt_len]; omega
  rw [e1, e2]
  rfl
def xB : DS := (sAsg (dOp addW (dOp mulW (dVar 2) (dApp lenW (dCons (dC (.str c_INNER)) dNil))) (dBm tyS sIndexW (dC (.str c_INNER)) (dCons (dVar 3) dNil))) (tName 2))
theorem mids_loop {a b c d : Option W} {c0 : Nat} {ms : List Nat} {st : Store} (h : ∀ c ∈ ms, c ∈ IN) : ∃ c3, forW (ItW.mk (ms.map sgn) none).Chk (tName 3) xB (ms.map sgn) [a, b, some (.int (eN c0 : Int)), c, d] st = .go .nx [a, b, some (.int ((vP (c0 :: ms) : Nat) : Int)), c3, d] st := by
  obtain ⟨env', st', e, ⟨c3, rfl⟩, rfl⟩ := forW_ok (chk := (ItW.mk (ms.map sgn) none).Chk) (t := tName 3) (b := xB) (fun k env S => (∃ c3, env = [a, b, some (.int ((vP (c0 :: ms.take k) : Nat) : Int)), c3, d]) ∧ S = st) (fun _ _ _ _ => by simp) (ms.map sgn) 0 [a, b, some (.int (eN c0 : Int)), c, d] st
    (fun k w env S hw hI => by
      obtain ⟨⟨c3, rfl⟩, rfl⟩ := hI
      rw [Nat.zero_add] at *
      rw [List.getElem?_map] at hw
      cases hk : ms[k]? with
      | none => rw [hk] at hw; cases hw
      | some z =>
        rw [hk] at hw
        have ew : w = sgn z := by simpa using hw.symm
        subst ew
        have hz : z ∈ IN := h z (List.mem_of_getElem? hk)
        have et : ms.take (k + 1) = ms.take k ++ [z] := by rw [List.take_add_one, hk]; rfl
        have ev : vP (c0 :: ms.take (k + 1)) = vP (c0 :: ms.take k) * 37 + iN z := by rw [et, ← List.cons_append, vP_snoc]
        refine ⟨_, _, _, _, rfl, ?_, ⟨some (sgn z), rfl⟩, rfl⟩
        rw [ev]
        have m37 : ∀ q : Int, mulW (.int q) (.int 37) S = .ok (.int (q * 37)) S := fun q => mul_small (by decide) (by decide)
        generalize vP (c0 :: ms.take k) = q at *
        have eq : ((q * 37 + iN z : Nat) : Int) = (q : Int) * 37 + (iN z : Int) := by omega
        rw [eq]
        unfold xB
        simp -implicitDefEqProofs [inner_len, m37, inner_ix hz]) ⟨⟨c, by simp [vP]⟩, rfl⟩
  refine ⟨c3, ?_⟩
  rw [e]
  simp
theorem signs_txt (l : List Nat) : MP.signs (txt l) = l.map sgn := rfl
theorem index_ok {l : List Nat} {st : Store} (h : PlainL l) : d_label_index [.str (txt l)] st = .ok (.int ((aN l.length + vL l : Nat) : Int)) st := by
  have ho := h.okS
  have h1 := h.one
  have h2 := h.most
  have hb : d_is_label [.str (txt l)] st = .ok (.bl true) st := by
    rw [label_ok (.pu _ (pu_str ho))]
    unfold labB
    simp only [h.plain, Bool.or_true]
  have hw : eqW (.str (txt l)) (.str c_WILD) st = .ok (.bl false) st := by rw [eqW_str ho ok_wild, h.star]
  have hlen := fun S => txt_lenW (st := S) ho
  obtain ⟨n, hn⟩ : ∃ n : Int, n = (l.length : Int) := ⟨_, rfl⟩
  have hr := kR2_ok (st := st) (i := 1) (j := (l.length : Int)) (by decide) (by decide) (by omega) (Int.lt_of_le_of_lt (show (l.length : Int) ≤ 20 by omega) (by decide))
  rw [show ((l.length : Int) - 1).toNat = l.length - 1 by omega] at hr
  obtain ⟨g, e1, e2⟩ := ahead_lc (st := st) (env := [some (.str (txt l)), none, none, none, none]) (i := 4) (L := l.length) (e := dCall 1 d_labels_of (dCons (dVar 4) dNil)) h1 (by omega)
    (fun j => by simp -implicitDefEqProofs [labels_of_ok (L := 1 + (j : Int)) (st := st) (by omega)])
  obtain ⟨T, hT⟩ : ∃ T, T = st ++ [g] := ⟨_, rfl⟩
  rw [← hT] at e1 e2
  have hg : ∀ z : Int, gc st (.int z) T = .ok (.int z) st := fun z => by rw [hT]; exact gc_app rfl
  rw [← hn] at hlen hr
  unfold d_label_index; rw [fnDen_ap]; unfold b_label_index
  by_cases q1 : l.length = 1
  · have q : (n == 1) = true := by rw [hn, q1]; rfl
    obtain ⟨c, rfl⟩ : ∃ c, l = [c] := by
      match l, q1 with
      | [c], _ => exact ⟨c, rfl⟩
    have hi : sIndexW (.str c_ENDS) [.str (txt [c])] T = .ok (.int (eN c : Int)) T := ends_ix h.fst
    have ev : aN [c].length + vL [c] = eN c := by simp [vL, aN, mN]
    rw [ev]
    simp -implicitDefEqProofs only [sSeq_ap, sIf_ap, dOr_ap, dNot_ap, dBool_ap, dCall_ap, dCons_ap, dVar_ap, List.map_cons, List.map_nil, List.length_cons, List.length_nil, Nat.reduceAdd, Nat.reduceSub, List.replicate_succ, List.replicate_zero, List.cons_append, List.nil_append, List.getElem?_cons_zero, List.getElem?_cons_succ, Res.bind_ok, kCons1_ap, dNil_ap, kCons2_ap, kCall_1, hb, kBool_ap, kNot_ap, Bool.not_true, kOr_f, dOp_ap, kOp1_ap, dC_ap, hw, Res.then_ok, kSIf_f, sNil_ap, RsS.next_nx, sAsg_ap, dApp_ap, dLc_ap, dRange2_ap, hlen, hr, wipeW, List.set_cons_succ, List.set_cons_zero]
    simp only [List.length_cons, List.length_nil, Nat.reduceAdd, Nat.reduceSub] at e1
    rw [e1]
    simp -implicitDefEqProofs only [Res.bind_ok, kCons1_ap, dNil_ap, kCons2_ap, e2, Res.then_ok, kAsg_n, List.set_cons_succ, List.set_cons_zero, RsS.next_nx, sSeq_ap, sIf_ap, dBool_ap, dOp_ap, dApp_ap, dCons_ap, dVar_ap, List.getElem?_cons_zero, List.getElem?_cons_succ, hlen, kOp1_ap, dC_ap, eqW_int, q, kBool_ap, kSIf_t, sRet_ap, dBm_ap, kBm_s, hi, kRet_ap, RsS.next_rt, fnR_rt, hg]
  · have q : (n == 1) = false := beq_false_of_ne (by omega)
    have f0 := fun S => txt_first (st := S) ho h1
    have fz := fun S => txt_last (st := S) ho h1
    have sl : ∀ S, slW (.str (txt l)) (some 1) (some (-1)) S = .ok (.str (txt ((l.drop 1).take (l.length - 2)))) S := fun S => by rw [sl_str ho, cut_mid (by omega)]
    have i0 := fun S => ends_ix (st := S) h.fst
    have iz := fun S => ends_ix (st := S) h.lst
    obtain ⟨c0, hc0⟩ : ∃ c0, c0 = l.getD 0 0 := ⟨_, rfl⟩
    obtain ⟨ms, hms⟩ : ∃ ms, ms = (l.drop 1).take (l.length - 2) := ⟨_, rfl⟩
    have hmi : ∀ c ∈ ms, c ∈ IN := fun c hc => by
      rw [hms] at hc
      exact h.all c (List.mem_of_mem_drop (List.mem_of_mem_take hc))
    have hl : l.take (l.length - 1) = c0 :: ms := by
      cases l with
      | nil => simp at h1
      | cons a r =>
        rw [hc0, hms]
        simp only [List.length_cons] at q1 ⊢
        have : r.length + 1 - 1 = (r.length - 1) + 1 := by omega
        rw [this, List.take_succ_cons]
        rfl
    have ev : vL l = vP (c0 :: ms) * 36 + eN (l.getD (l.length - 1) 0) := by
      unfold vL; rw [if_neg q1, hl]
    rw [← hc0] at f0 i0
    rw [← hms] at sl
    rw [ev]
    obtain ⟨c3, e3⟩ := mids_loop (a := some (.str (txt l))) (b := some (.int (aN l.length : Int))) (c := none) (d := none) (c0 := c0) (st := T) hmi
    have m36 : ∀ q : Int, mulW (.int q) (.int 36) T = .ok (.int (q * 36)) T := fun q => mul_small (by decide) (by decide)
    generalize l.getD (l.length - 1) 0 = z at *
    generalize aN l.length = A at *
    generalize vP (c0 :: ms) = V at *
    have eq : ((A + (V * 36 + eN z) : Nat) : Int) = (A : Int) + (V : Int) * 36 + (eN z : Int) := by omega
    rw [eq]
    simp -implicitDefEqProofs only [sSeq_ap, sIf_ap, dOr_ap, dNot_ap, dBool_ap, dCall_ap, dCons_ap, dVar_ap, List.map_cons, List.map_nil, List.length_cons, List.length_nil, Nat.reduceAdd, Nat.reduceSub, List.replicate_succ, List.replicate_zero, List.cons_append, List.nil_append, List.getElem?_cons_zero, List.getElem?_cons_succ, Res.bind_ok, kCons1_ap, dNil_ap, kCons2_ap, kCall_1, hb, kBool_ap, kNot_ap, Bool.not_true, kOr_f, dOp_ap, kOp1_ap, dC_ap, hw, Res.then_ok, kSIf_f, sNil_ap, RsS.next_nx, sAsg_ap, dApp_ap, dLc_ap, dRange2_ap, hlen, hr, wipeW, List.set_cons_succ, List.set_cons_zero, e1]
    simp -implicitDefEqProofs only [Res.bind_ok, kCons1_ap, dNil_ap, kCons2_ap, e2, Res.then_ok, kAsg_n, List.set_cons_succ, List.set_cons_zero, RsS.next_nx, sSeq_ap, sIf_ap, dBool_ap, dOp_ap, dApp_ap, dCons_ap, dVar_ap, List.getElem?_cons_zero, List.getElem?_cons_succ, hlen, kOp1_ap, dC_ap, eqW_int, q, kBool_ap, kSIf_f, sNil_ap, sAsg_ap, dBm_ap, kBm_s, f0, i0, sFor_ap, dIt_ap, dSl_ap, dPart_ap, dUn_ap, negW_i, kPart_ap, kSl1_ap, kSl2_ap, sl, itOf_str, signs_txt, kFor]
    have e3' : forW (ItW.mk (ms.map sgn) none).Chk (tName 3) (sAsg (dOp addW (dOp mulW (dVar 2) (dApp lenW (dCons (dC (.str c_INNER)) dNil))) (dBm tyS sIndexW (dC (.str c_INNER)) (dCons (dVar 3) dNil))) (tName 2)) (ms.map sgn) [some (.str (txt l)), some (.int (A : Int)), some (.int (eN c0 : Int)), none, none] T = _ := e3
    rw [e3']
    simp -implicitDefEqProofs only [RsS.next_nx, sRet_ap, dOp_ap, dVar_ap, dC_ap, dApp_ap, dCons_ap, List.getElem?_cons_zero, List.getElem?_cons_succ, Res.bind_ok, kOp1_ap, kCons1_ap, dNil_ap, kCons2_ap, ends_len, m36, addW_i, dBm_ap, kBm_s, dUn_ap, negW_i, fz, iz, Res.then_ok, kRet_ap, fnR_rt, hg]
/-- what label_index refuses -/
theorem index_bad {w u : W} {st : Store} (h : Pic st w u) (hb : labB u = false ∨ u = .str "*") : ∃ w' g, d_label_index [w] st = .err "InvalidLabel" w' (st ++ g) ∧ Pic (st ++ g) w' u := by
  obtain ⟨w', g, e, hp, _⟩ := rebuilt_ok h
  refine ⟨w', g, ?_, hp⟩
  have hl := label_ok h
  unfold d_label_index; rw [fnDen_ap]; unfold b_label_index
  rcases hb with hb | rfl
  · rw [hb] at hl
    simp -implicitDefEqProofs [hl, e]
  · obtain ⟨rfl, ho⟩ := Pic.str h
    have hw : eqW (.str "*") (.str c_WILD) st = .ok (.bl true) st := by
      rw [eqW_str ok_star ok_wild]
      have : (("*" : Str) == c_WILD) = true := by decide +kernel
      rw [this]
    have ht : labB (.str "*") = true := by decide +kernel
    rw [ht] at hl
    simp -implicitDefEqProofs [hl, hw, e]
end
end K03
namespace K03
open PySem PySem.Spec PyProof.Rows L2 MP
open Classical
noncomputable section
/-! a drawn label -/
theorem al_en : AL.cps.toList = EN := by decide +kernel
theorem al1_in : AL1.cps.toList = IN := by decide +kernel
theorem al_sign {i : Int} (h0 : 0 ≤ i) (hi : i < 36) : ∃ c, c ∈ EN ∧ ∀ st, ixW (.str AL) (.int i) st = .ok (sgn c) st := by
  obtain ⟨c, _, hm, e⟩ := ix_str (okS.line ok_al) h0 (by rw [al_len]; exact hi)
  exact ⟨c, by rw [← al_en]; exact hm, e⟩
theorem al1_sign {i : Int} (h0 : 0 ≤ i) (hi : i < 37) : ∃ c, c ∈ IN ∧ ∀ st, ixW (.str AL1) (.int i) st = .ok (sgn c) st := by
  obtain ⟨c, _, hm, e⟩ := ix_str (okS.line ok_al1) h0 (by rw [al1_len]; exact hi)
  exact ⟨c, by rw [← al1_in]; exact hm, e⟩
theorem sgn_set {l : List Nat} {i c : Nat} : (l.map sgn).set i (sgn c) = (l.set i c).map sgn := by rw [List.map_set]
theorem set_plain {l : List Nat} {a b : Nat} (h1 : 1 ≤ l.length) (h2 : l.length ≤ 20) (hl : ∀ c ∈ l, c ∈ IN) (ha : a ∈ EN) (hb : b ∈ EN) : PlainL ((l.set 0 a).set (l.length - 1) b) := by
  have hlen : ((l.set 0 a).set (l.length - 1) b).length = l.length := by simp
  refine ⟨by omega, by omega, ?_, ?_, fun c hc => ?_⟩
  · rw [List.getD_eq_getElem?_getD]
    by_cases e : l.length - 1 = 0
    · rw [e, List.getElem?_set_self (by simp; omega)]; exact hb
    · rw [List.getElem?_set_ne e, List.getElem?_set_self (by omega)]; exact ha
  · rw [hlen, List.getD_eq_getElem?_getD, List.getElem?_set_self (by simp; omega)]; exact hb
  · rcases List.mem_or_eq_of_mem_set hc with hc | rfl
    · rcases List.mem_or_eq_of_mem_set hc with hc | rfl
      · exact hl c hc
      · exact en_sub _ ha
    · exact en_sub _ hb
theorem label_drawP {p n : Nat} {st : Store} (h : PotA p n st) (hn : n + 30 ≤ 1000000) :
    ∃ (x : List Nat) (st' : Store), d__law_label [.loc p] st = .ok (.str (txt x)) st' ∧ PlainL x ∧ PotA p (n + 30) st' ∧ Kp p st st' := by
  have hl := h.lt
  obtain ⟨t1, s1, e1, a1, b1, P1, K1⟩ := take_ok (m := 20) h (by omega) (by decide) (by decide)
  obtain ⟨L1, hL1⟩ : ∃ L, L = [W.int 1, .int 2, .int 3, .int (1 + t1), .int 20] := ⟨_, rfl⟩
  obtain ⟨t2, s2, e2, a2, b2, P2, K2⟩ := take_ok (m := 5) (P1.app [.lst L1]) (by omega) (by decide) (by decide)
  have hp1 : p ≠ s1.length := by have := P1.lt; omega
  have g2 : s2[s1.length]? = some (.lst L1) := by rw [K2.keep _ (Ne.symm hp1)]; simp
  obtain ⟨w, wm, _, e3⟩ := ix_mem (st := s2) (a := .loc s1.length) (ws := L1) (i := t2) (by simp [seqW, g2]) a2 (by rw [hL1]; simpa using b2)
  obtain ⟨k, rfl, k1, k2⟩ : ∃ k : Int, w = .int k ∧ 1 ≤ k ∧ k ≤ 20 := by
    rw [hL1] at wm
    simp only [List.mem_cons, List.not_mem_nil, or_false] at wm
    rcases wm with rfl | rfl | rfl | rfl | rfl
    · exact ⟨1, rfl, by decide, by decide⟩
    · exact ⟨2, rfl, by decide, by decide⟩
    · exact ⟨3, rfl, by decide, by decide⟩
    · exact ⟨1 + t1, rfl, by omega, by omega⟩
    · exact ⟨20, rfl, by decide, by decide⟩
  have hr := kR1_ok (st := s2) (j := k) (Int.le_trans (by decide) k1) (Int.lt_of_le_of_lt k2 (by decide))
  obtain ⟨l, s3, e4, hll, P3, X3, cs, rfl, SL3⟩ := kLc_ok (env := [some (.loc p), some (.str AL), some (.int k), none, none]) (i := 4) (e := dOp ixW (dOp addW (dC (.str "-")) (dVar 1)) (dCall 2 d__law_take (dCons (dVar 0) (dCons (dC (.int 37)) dNil)))) (st := s2) (ws := intsW 0 k.toNat)
    (fun i acc S => PotA p (n + 2 + i) S ∧ Ext p s2 S ∧ ∃ cs : List Nat, acc = cs.map sgn ∧ ∀ c ∈ cs, c ∈ IN) (fun i w acc S hw hJ => by
      obtain ⟨hP, hX, cs, rfl, hS⟩ := hJ
      have hi : i < k.toNat := by rw [← ints_len]; exact (List.getElem?_eq_some_iff.mp hw).1
      obtain ⟨t, s', e, a, b, P, Kq⟩ := take_ok (m := 37) hP (by omega) (by decide) (by decide)
      obtain ⟨c, hc, ec⟩ := al1_sign (i := t) a b
      refine ⟨sgn c, s', ?_, P, hX.trans Kq.ext, cs ++ [c], by simp, fun d hd => ?_⟩
      · simp -implicitDefEqProofs [al1_add, e, ec]
      · rcases List.mem_append.mp hd with hd | hd
        · exact hS d hd
        · have : d = c := by simpa using hd
          rw [this]; exact hc) (by rw [ints_len]; exact line8 (by omega)) ⟨P2, .refl, [], rfl, fun _ h => nomatch h⟩
  rw [ints_len, List.length_map] at hll
  have P4 := (P3.mono (m := n + 25) (by rw [ints_len]; omega)).app [.lst (cs.map sgn)]
  obtain ⟨t5, s5, e5, a5, b5, P5, K5⟩ := take_ok (m := 36) P4 (by omega) (by decide) (by decide)
  have hle : st.length ≤ s3.length := by
    have := X3.le; rw [K2.len] at this; simp at this; rw [K1.len] at this; omega
  have hp3 : s3.length ≠ p := by omega
  have g5 : s5[s3.length]? = some (.lst (cs.map sgn)) := by rw [K5.keep _ hp3]; simp
  obtain ⟨y5, hy5, ey5⟩ := al_sign (i := t5) a5 b5
  have st5 := setW_of (v := sgn y5) (i := 0) (j := 0) g5 (by unfold ixN; rw [if_pos (by decide), if_pos (by rw [List.length_map]; omega)]; rfl)
  have k5 := kAsg_sub (env := [some (.loc p), some (.str AL), some (.int k), some (.loc s3.length), none]) (st := s5) (mo := dVar 3) (mi := dC (.int 0)) (v := sgn y5) rfl rfl st5
  rw [sgn_set] at k5
  have P5' := P5.set (k := s3.length) (o := .lst ((cs.set 0 y5).map sgn)) (Ne.symm hp3)
  obtain ⟨t6, s6, e6, a6, b6, P6, K6⟩ := take_ok (m := 36) P5' (by omega) (by decide) (by decide)
  have hl5 : s3.length < s5.length := (List.getElem?_eq_some_iff.mp g5).1
  have g6 : s6[s3.length]? = some (.lst ((cs.set 0 y5).map sgn)) := by rw [K6.keep _ hp3, List.getElem?_set_self hl5]
  obtain ⟨y6, hy6, ey6⟩ := al_sign (i := t6) a6 b6
  have st6 := setW_of (v := sgn y6) (i := -1) (j := cs.length - 1) g6 (by unfold ixN; rw [if_neg (by decide), if_pos (by rw [List.length_map, List.length_set]; omega)]; congr 1; rw [List.length_map, List.length_set]; omega)
  have k6 := kAsg_sub (env := [some (.loc p), some (.str AL), some (.int k), some (.loc s3.length), none]) (st := s6) (mo := dVar 3) (mi := dUn negW (dC (.int 1))) (v := sgn y6) rfl rfl st6
  rw [sgn_set] at k6
  have hl6 : s3.length < s6.length := (List.getElem?_eq_some_iff.mp g6).1
  obtain ⟨LL, hLL⟩ : ∃ LL, LL = (cs.set 0 y5).set (cs.length - 1) y6 := ⟨_, rfl⟩
  rw [← hLL] at k6
  have hPL : PlainL LL := by rw [hLL]; exact set_plain (by omega) (by omega) SL3 hy5 hy6
  have P7 := P6.set (k := s3.length) (o := .lst (LL.map sgn)) (Ne.symm hp3)
  have ex := sgn_join (S := s6.set s3.length (.lst (LL.map sgn))) (q := s3.length) (l := LL) (by rw [List.getElem?_set_self hl6]) (by have := hPL.most; omega)
  have X : Ext p st (s6.set s3.length (.lst (LL.map sgn))) := by
    have x1 : Ext p st s2 := (K1.ext.trans (.app [.lst L1])).trans K2.ext
    have x2 : Ext p st s5 := ((x1.trans X3).trans (.app [.lst (cs.map sgn)])).trans K5.ext
    exact (((x2.set hle).trans K6.ext).set hle)
  obtain ⟨G1, G2, G3⟩ := gc_pot (v := .str (txt LL)) X P7 hl rfl
  refine ⟨LL, _, ?_, hPL, G3.mono (by omega), G2⟩
  unfold d__law_label; rw [fnDen_ap]; unfold b__law_label
  rw [show ("0123456789abcdefghijklmnopqrstuvwxyz" : Str) = AL from rfl]
  have lst1 : kLst [W.int 1, .int 2, .int 3, .int (1 + t1), .int 20] s1 = .ok (.loc s1.length) (s1 ++ [.lst L1]) := by rw [hL1]; exact lst5 (by simp)
  simp -implicitDefEqProofs [e1, lst1, e2, e3, hr, wipeW]
  rw [e4]
  simp -implicitDefEqProofs only [Res.then_ok, kAsg_n, List.set_cons_succ, List.set_cons_zero, RsS.next_nx, sSeq_ap, sAsg_ap, dOp_ap, dVar_ap, List.getElem?_cons_zero, List.getElem?_cons_succ, Res.bind_ok, kOp1_ap, dCall_ap, dCons_ap, kCons1_ap, dC_ap, dNil_ap, kCons2_ap, kCall_2, e5, ey5, k5, e6, ey6, k6, sRet_ap, dBm_ap, kBm_s, ex, kRet_ap, fnR_rt, G1]
/-! what is refused -/
@[simp] theorem sTryEach_ap (b : DS) (l : List ClD) (env : EnvW) (st : Store) : sTryEach b l env st = kEach l (b env st) := rfl
theorem gc_any {st g : Store} {m : Nat} {ws : List W} (hm : st.length ≤ m) (e : (st ++ g)[m]? = some (.lst ws)) : ∃ q g', gc st (.loc m) (st ++ g) = .ok (.loc q) (st ++ g') ∧ (st ++ g')[q]? = some (.lst ws) ∧ (clBs st.length ws = true ∨ g' = g) := by
  by_cases h : clBs st.length ws = true
  · exact ⟨st.length, [.lst ws], gc_newA hm e h, by simp, .inl h⟩
  · have g0 : GcOk st (st ++ g) := fun i hi => .inl (List.getElem?_append_left hi)
    have hv : ¬ clB st.length (.loc m) = true := by simp [clB]; omega
    refine ⟨m, g, ?_, e, .inr rfl⟩
    unfold gc; rw [if_pos g0, if_neg hv]
    simp only [e, if_neg h]
theorem pic_cl {st g g' : Store} {w u : W} (h : Pic (st ++ g) w u) (hc : clB st.length w = true) : Pic (st ++ g') w u := by
  cases h with
  | pu _ h => exact .pu _ h
  | ls k ws h hl hw =>
    have hk : k < st.length := by simpa [clB] using hc
    refine .ls k ws ?_ hl hw
    rw [List.getElem?_append_left hk] at h ⊢
    exact h
def eL : Str := "label"
def eNum : Str := "number"
theorem ok_eL : okS eL = true := by decide +kernel
theorem ok_eNum : okS eNum = true := by decide +kernel
theorem sub1 : subL [("TreeError", false), ("InvalidLabel", false), ("InvalidNumber", true)] "InvalidNumber" = some true := by decide +kernel
theorem sub2 : subL [("TreeError", false), ("InvalidLabel", false), ("InvalidNumber", true)] "InvalidLabel" = some false := by decide +kernel
theorem sub3 : subL [("TreeError", false), ("InvalidLabel", true), ("InvalidNumber", false)] "InvalidLabel" = some true := by decide +kernel
def rB : DS := (sSeq (sIf (dBool (dOp eqW (dVar 0) (dC (.int 0))))
    (sExpr (dCall 1 d_labels_of (dCons (dVar 1) dNil)))
    sNil)
    (sSeq (sIf (dBool (dOp eqW (dVar 0) (dC (.int 1))))
    (sExpr (dCall 1 d_names_of (dCons (dVar 1) dNil)))
    sNil)
    (sSeq (sIf (dBool (dOp eqW (dVar 0) (dC (.int 2))))
    (sExpr (dCall 1 d_nth_label (dCons (dVar 1) dNil)))
    sNil)
    (sIf (dBool (dOp eqW (dVar 0) (dC (.int 3))))
    (sExpr (dCall 1 d_label_index (dCons (dVar 1) dNil)))
    sNil))))
def rL : List ClD := [(3, subL [("TreeError", false), ("InvalidLabel", false), ("InvalidNumber", true)], fun cN wv => (sAsg (dLst (dCons (dC (.str "number")) (dCons (dExc wv) dNil))) (tName 2))), (3, subL [("TreeError", false), ("InvalidLabel", true), ("InvalidNumber", false)], fun cN wv => (sAsg (dLst (dCons (dC (.str "label")) (dCons (dExc wv) dNil))) (tName 2)))]
theorem ref_eq : b__law_refused = sSeq (sAsg (dLst dNil) (tName 2)) (sSeq (sTryEach rB rL) (sRet (dVar 2))) := rfl
theorem each_num {a b c d : Option W} {w : W} {T : Store} : kEach rL (.err "InvalidNumber" w [a, b, c, d] T) = .go .nx [a, b, some (.loc T.length), none] (T ++ [.lst [.str eNum, w]]) := by
  have kl : kLst [.str "number", w] T = .ok (.loc T.length) (T ++ [.lst [.str eNum, w]]) := lst5 (by simp)
  unfold kEach rL eachC
  simp only [sub1, List.length_cons, List.length_nil, Nat.reduceAdd, Nat.reduceLT, if_true]
  simp -implicitDefEqProofs [kl]
theorem each_lab {a b c d : Option W} {w : W} {T : Store} : kEach rL (.err "InvalidLabel" w [a, b, c, d] T) = .go .nx [a, b, some (.loc T.length), none] (T ++ [.lst [.str eL, w]]) := by
  have kl : kLst [.str "label", w] T = .ok (.loc T.length) (T ++ [.lst [.str eL, w]]) := lst5 (by simp)
  unfold kEach rL eachC
  simp only [sub2]
  unfold eachC
  simp only [sub3, List.length_cons, List.length_nil, Nat.reduceAdd, Nat.reduceLT, if_true]
  simp -implicitDefEqProofs [kl]
theorem ref_num {way v : Int} {st : Store} (h : ∀ S, (way = 0 ∧ d_labels_of [.int v] S = .err "InvalidNumber" (.int v) S) ∨ (way = 1 ∧ d_names_of [.int v] S = .err "InvalidNumber" (.int v) S) ∨ (way = 2 ∧ d_nth_label [.int v] S = .err "InvalidNumber" (.int v) S)) :
    d__law_refused [.int way, .int v] st = .ok (.loc st.length) (st ++ [.lst [.str eNum, .int v]]) := by
  have kl : kLst [] st = .ok (.loc st.length) (st ++ [.lst []]) := lst5 (by simp)
  obtain ⟨T, hT⟩ : ∃ T, T = st ++ [Ob.lst []] := ⟨_, rfl⟩
  rw [← hT] at kl
  have hr : rB [some (.int way), some (.int v), some (.loc st.length), none] T = .err "InvalidNumber" (.int v) [some (.int way), some (.int v), some (.loc st.length), none] T := by
    unfold rB
    rcases h T with ⟨rfl, e⟩ | ⟨rfl, e⟩ | ⟨rfl, e⟩ <;> simp -implicitDefEqProofs [e]
  have hg : gc st (.loc T.length) (T ++ [.lst [.str eNum, .int v]]) = .ok (.loc st.length) (st ++ [.lst [.str eNum, .int v]]) := by
    rw [hT, List.append_assoc]
    exact gc_newA (by simp) (by simp) rfl
  unfold d__law_refused; rw [fnDen_ap, ref_eq]
  simp -implicitDefEqProofs [kl, hr, each_num, hg]
theorem ref_lab {w u : W} {st : Store} (h : Pic st w u) (hb : labB u = false ∨ u = .str "*") : ∃ q g w', d__law_refused [.int 3, w] st = .ok (.loc q) (st ++ g) ∧ (st ++ g)[q]? = some (.lst [.str eL, w']) ∧ Pic (st ++ g) w' u := by
  have kl : kLst [] st = .ok (.loc st.length) (st ++ [.lst []]) := lst5 (by simp)
  obtain ⟨T, hT⟩ : ∃ T, T = st ++ [Ob.lst []] := ⟨_, rfl⟩
  rw [← hT] at kl
  obtain ⟨w', g, e, hp⟩ := index_bad (st := T) (by rw [hT]; exact h.app _) hb
  have hr : rB [some (.int 3), some w, some (.loc st.length), none] T = .err "InvalidLabel" w' [some (.int 3), some w, some (.loc st.length), none] (T ++ g) := by
    unfold rB
    simp -implicitDefEqProofs [e]
  have hs : T ++ g ++ [Ob.lst [.str eL, w']] = st ++ ([Ob.lst []] ++ g ++ [Ob.lst [.str eL, w']]) := by rw [hT]; simp
  obtain ⟨q, g', hg, hq, hc⟩ := gc_any (st := st) (g := [Ob.lst []] ++ g ++ [Ob.lst [.str eL, w']]) (m := (T ++ g).length) (ws := [.str eL, w']) (by rw [hT]; simp) (by rw [← hs]; simp)
  refine ⟨q, g', w', ?_, hq, ?_⟩
  · rw [← hs] at hg
    unfold d__law_refused; rw [fnDen_ap, ref_eq]
    simp -implicitDefEqProofs only [sSeq_ap, sAsg_ap, dLst_ap, dNil_ap, Res.bind_ok, kl, Res.then_ok, kAsg_n, List.map_cons, List.map_nil, List.length_cons, List.length_nil, Nat.reduceAdd, Nat.reduceSub, List.replicate_succ, List.replicate_zero, List.cons_append, List.nil_append, List.set_cons_succ, List.set_cons_zero, RsS.next_nx, sTryEach_ap, hr, each_lab, sRet_ap, dVar_ap, List.getElem?_cons_zero, List.getElem?_cons_succ, kRet_ap, fnR_rt, hg]
  · have hp' := hp.app [Ob.lst [.str eL, w']]
    rw [hs] at hp'
    rcases hc with hc | rfl
    · refine pic_cl hp' ?_
      simp only [clBs, clB, Bool.true_and, Bool.and_true] at hc
      exact hc
    · exact hp'
end
end K03
namespace K03
open PySem PySem.Spec PyProof.Rows L2 MP
open Classical
noncomputable section
@[simp] theorem neW_i {i j : Int} {st : Store} : neW (.int i) (.int j) st = .ok (.bl (!(i == j))) st := by
  rw [pic_ne (.pu _ rfl) (.pu _ rfl)]
  simp only [dU, d5, dat, PyData.eqv.eq_5]
theorem same_i {z : Int} {st : Store} : d__law_same 8 [.int z, .int z] st = .ok (.bl true) st := same_pu 1 (.int z) rfl (by decide) 8 st (by decide)
theorem log_big {m : Int} {k : Nat} (h0 : 0 < m) (h : m < 2 ^ k) (hk : k ≤ 8000) : m.natAbs.log2 < 9000 := by
  have h1 : m.natAbs ≠ 0 := by omega
  have h2 : m.natAbs < 2 ^ k := by
    have e : (2 : Int) ^ k = ((2 ^ k : Nat) : Int) := by simp
    rw [e] at h
    omega
  have := (Nat.log2_lt h1).mpr h2
  omega
theorem take_pow {p n : Nat} {j : Nat} {m : Int} {st : Store} (e : m = (10 : Int) ^ ((j : Nat) : Int).toNat) (hj : j ≤ 1000) (h : PotA p n st) (hn : n ≤ 1000000) :
    ∃ (r : Int) (st' : Store), d__law_take [.loc p, .int m] st = .ok (.int r) st' ∧ 0 ≤ r ∧ r < m ∧ PotA p (n + 1) st' ∧ Kp p st st' := by
  subst e
  have h0 : (0 : Int) < 10 ^ ((j : Nat) : Int).toNat := Int.pow_pos (by decide)
  refine take_okG h hn h0 (log_big (k := 4 * j + 1) h0 ?_ (by omega))
  rw [Int.toNat_natCast]
  clear h0
  have hp : (2 : Int) ^ (4 * j + 1) = 16 ^ j * 2 := by rw [Int.pow_succ, Int.pow_mul]; rfl
  rw [hp]
  have h1 : (10 : Nat) ^ j ≤ 16 ^ j := Nat.pow_le_pow_left (by decide) j
  have h2 : 0 < (16 : Nat) ^ j := Nat.pow_pos (by decide)
  have e1 : (10 : Int) ^ j = ((10 ^ j : Nat) : Int) := by simp
  have e2 : (16 : Int) ^ j = ((16 ^ j : Nat) : Int) := by simp
  rw [e1, e2]; omega
/-! counts -/
def cB : DS := (sSeq (sAsg (dOp ixW (dLst (dCons (dCall 2 d__law_take (dCons (dVar 0) (dCons (dC (.int 26)) dNil))) (dCons (dCall 2 d__law_take (dCons (dVar 0) (dCons (dOp powW (dC (.int 10)) (dC (.int 30))) dNil))) dNil))) (dApp intOfW (dCons (dOp eqW (dCall 2 d__law_take (dCons (dVar 0) (dCons (dC (.int 6)) dNil))) (dC (.int 5))) dNil))) (tName 7))
    (sIf (dOr (dNot (dBool (dCall 2 (d__law_same 8) (dCons (dCall 1 d_labels_of (dCons (dVar 7) dNil)) (dCons (dCall 1 d__law_many (dCons (dVar 7) dNil)) dNil))))) (dBool (dOp neW (dCall 1 d_labels_of (dCons (dVar 7) dNil)) (dCall 1 d__law_many (dCons (dVar 7) dNil)))))
    (sRet (dC (.bl false)))
    sNil))
theorem seq_loc {S : Store} {k : Nat} {ws : List W} (h : S[k]? = some (.lst ws)) : seqW S (.loc k) = some ws := by simp [seqW, h]
theorem cB_ok {p n : Nat} {b1 b2 b3 b4 b5 b6 b7 : Option W} {S : Store} (h : PotA p n S) (hn : n ≤ 900000) : ∃ b7' S', cB [some (.loc p), b1, b2, b3, b4, b5, b6, b7] S = .go .nx [some (.loc p), b1, b2, b3, b4, b5, b6, b7'] S' ∧ PotA p (n + 3) S' ∧ Ext p S S' := by
  obtain ⟨t1, s1, e1, a1, _, P1, K1⟩ := take_ok (m := 26) h (by omega) (by decide) (by decide)
  obtain ⟨T, hT⟩ : ∃ T : Int, T = 10 ^ ((30 : Nat) : Int).toNat := ⟨_, rfl⟩
  have p30 : ∀ S, powW (.int 10) (.int 30) S = .ok (.int T) S := fun S => by rw [hT]; exact pow_ok (pow10 30 (by decide) (by decide))
  obtain ⟨t2, s2, e2, a2, _, P2, K2⟩ := take_pow hT (by decide) P1 (by omega)
  have kl : kLst [W.int t1, .int t2] s2 = .ok (.loc s2.length) (s2 ++ [.lst [.int t1, .int t2]]) := lst5 (by simp)
  obtain ⟨t3, s3, e3, a3, _, P3, K3⟩ := take_ok (m := 6) (P2.app [.lst [.int t1, .int t2]]) (by omega) (by decide) (by decide)
  have g3 : s3[s2.length]? = some (.lst [.int t1, .int t2]) := by rw [K3.keep _ (by have := P2.lt; omega)]; simp
  obtain ⟨L, hL, eL⟩ : ∃ L : Int, 0 ≤ L ∧ ixW (.loc s2.length) (.int (if (t3 == 5) = true then 1 else 0)) s3 = .ok (.int L) s3 := by
    cases t3 == 5 with
    | true => exact ⟨t2, a2, by unfold ixW; simp only [seq_loc g3]; rfl⟩
    | false => exact ⟨t1, a1, by unfold ixW; simp only [seq_loc g3]; rfl⟩
  have l1 := labels_of_ok (st := s3) hL
  have l2 := law_many_ok (L := L) (st := s3)
  refine ⟨some (.int L), s3, ?_, P3, ((K1.ext.trans K2.ext).trans (.app _)).trans K3.ext⟩
  generalize manyZ L = M at *
  unfold cB
  simp -implicitDefEqProofs only [sSeq_ap, sAsg_ap, dOp_ap, dLst_ap, dCons_ap, dCall_ap, dVar_ap, dC_ap, List.getElem?_cons_zero, List.getElem?_cons_succ, Res.bind_ok, kCons1_ap, kOp1_ap, dNil_ap, kCons2_ap, kCall_2, kCall_1, e1, p30, e2, kl, dApp_ap, e3, eqW_int, intOf_b, eL, Res.then_ok, kAsg_n, List.set_cons_succ, List.set_cons_zero, RsS.next_nx, sIf_ap, dOr_ap, dNot_ap, dBool_ap, l1, l2, same_i, kBool_ap, kNot_ap, Bool.not_true, kOr_f, neW_i, beq_self_eq_true, kSIf_f, sNil_ap]
def oB : DS := (sIf (dAnd (dBool (dOp leW (dVar 6) (dVar 4))) (dNot (dBool (dCall 2 (d__law_same 8) (dCons (dCall 1 d_names_of (dCons (dVar 6) dNil)) (dCons (dOp ixW (dVar 5) (dVar 6)) dNil))))))
    (sRet (dC (.bl false)))
    sNil)
theorem counts_eq : b__law_counts_right = sSeq (sFor (dRange1 (dCons (dC (.int 4)) dNil)) (tName 2) cB)
    (sSeq (sAsg (dCall 2 d__law_take (dCons (dVar 0) (dCons (dC (.int 8)) dNil))) (tName 3))
    (sSeq (sAsg (dCall 2 d__law_take (dCons (dVar 0) (dCons (dC (.int 61)) dNil))) (tName 4))
    (sSeq (sIf (dAnd (dBool (dVar 1)) (dBool (dOp eqW (dVar 3) (dC (.int 6)))))
    (sAsg (dCall 2 d__law_take (dCons (dVar 0) (dCons (dC (.int 401)) dNil))) (tName 4))
    sNil)
    (sSeq (sIf (dAnd (dBool (dVar 1)) (dBool (dOp eqW (dVar 3) (dC (.int 7)))))
    (sAsg (dC (.int 400)) (tName 4))
    sNil)
    (sSeq (sAsg (dCall 1 d__law_names_of (dCons (dVar 4) dNil)) (tName 5))
    (sSeq (sIf (dNot (dBool (dCall 2 (d__law_same 8) (dCons (dCall 1 d_names_of (dCons (dVar 4) dNil)) (dCons (dOp ixW (dVar 5) (dVar 4)) dNil)))))
    (sRet (dC (.bl false)))
    sNil)
    (sSeq (sFor (dIt (dLst (dCons (dC (.int 0)) (dCons (dC (.int 1)) (dCons (dC (.int 2)) (dCons (dC (.int 3)) (dCons (dOp fdivW (dVar 4) (dC (.int 2))) dNil))))))) (tName 6) oB)
    (sRet (dC (.bl true)))))))))) := rfl
/-- which size is asked for -/
theorem most_ok {p n : Nat} {wh : Bool} {b2 b5 b6 b7 : Option W} {t1 m1 : Int} {S : Store} (h : PotA p n S) (hn : n ≤ 900000) (m0 : 0 ≤ m1) (m60 : m1 < 61) : ∃ (m : Nat) (S' : Store), m ≤ 400 ∧ PotA p (n + 1) S' ∧ Ext p S S' ∧ ∀ k,
    (sSeq (sIf (dAnd (dBool (dVar 1)) (dBool (dOp eqW (dVar 3) (dC (.int 6)))))
    (sAsg (dCall 2 d__law_take (dCons (dVar 0) (dCons (dC (.int 401)) dNil))) (tName 4))
    sNil)
    (sSeq (sIf (dAnd (dBool (dVar 1)) (dBool (dOp eqW (dVar 3) (dC (.int 7)))))
    (sAsg (dC (.int 400)) (tName 4))
    sNil) k)) [some (.loc p), some (.bl wh), b2, some (.int t1), some (.int m1), b5, b6, b7] S = k [some (.loc p), some (.bl wh), b2, some (.int t1), some (.int (m : Int)), b5, b6, b7] S' := by
  have sml : ∃ m : Nat, m ≤ 400 ∧ m1 = (m : Int) := ⟨m1.toNat, by omega, by omega⟩
  cases wh with
  | false =>
    obtain ⟨m, hm, rfl⟩ := sml
    exact ⟨m, S, hm, h.mono (by omega), .refl, fun k => by simp -implicitDefEqProofs⟩
  | true =>
    by_cases h6 : t1 = 6
    · subst h6
      obtain ⟨t, s1, e1, a1, b1, P1, K1⟩ := take_ok (m := 401) h (by omega) (by decide) (by decide)
      refine ⟨t.toNat, s1, by omega, P1, K1.ext, fun k => ?_⟩
      rw [Int.toNat_of_nonneg a1]
      simp -implicitDefEqProofs [e1]
    · have q6 : (t1 == 6) = false := beq_false_of_ne h6
      by_cases h7 : t1 = 7
      · subst h7
        exact ⟨400, S, by omega, h.mono (by omega), .refl, fun k => by simp -implicitDefEqProofs⟩
      · have q7 : (t1 == 7) = false := beq_false_of_ne h7
        obtain ⟨m, hm, rfl⟩ := sml
        exact ⟨m, S, hm, h.mono (by omega), .refl, fun k => by simp -implicitDefEqProofs [q6, q7]⟩
theorem oB_ok {b0 b1 b2 b3 b7 : Option W} {m o q : Nat} {S : Store} (hm : m ≤ 400) (hq : S[q]? = some (.lst (((NN (m - 1)).take (m + 1)).map W.int))) :
    oB [b0, b1, b2, b3, some (.int (m : Int)), some (.loc q), some (.int (o : Int)), b7] S = .go .nx [b0, b1, b2, b3, some (.int (m : Int)), some (.loc q), some (.int (o : Int)), b7] S := by
  unfold oB
  by_cases h : o ≤ m
  · have l1 : decide (o ≤ m) = true := decide_eq_true h
    have n1 := names_of_ok (s := o) (st := S) (by omega)
    have i1 := ix_nums hq (j := o) (by rw [due_len]; omega)
    rw [due_get h] at i1
    simp -implicitDefEqProofs [l1, n1, i1, same_i]
  · have l1 : decide (o ≤ m) = false := decide_eq_false h
    simp -implicitDefEqProofs [l1]
theorem counts_ok {p n : Nat} {wh : Bool} {st : Store} (h : PotA p n st) (hn : n ≤ 800000) : ∃ st', d__law_counts_right [.loc p, .bl wh] st = .ok (.bl true) st' ∧ PotA p (n + 20) st' ∧ Kp p st st' := by
  have hl := h.lt
  have hr := kR1_ok (st := st) (j := 4) (by decide) (by decide)
  obtain ⟨env', S, e, ⟨c2, c7, rfl⟩, P, X⟩ := forW_ok (chk := (ItW.mk (intsW 0 (4 : Int).toNat) none).Chk) (t := tName 2) (b := cB)
    (fun i env S => (∃ c2 c7, env = [some (.loc p), some (.bl wh), c2, none, none, none, none, c7]) ∧ PotA p (n + 3 * i) S ∧ Ext p st S) (fun _ _ _ _ => by simp) (intsW 0 (4 : Int).toNat) 0 [some (.loc p), some (.bl wh), none, none, none, none, none, none] st
    (fun j w env S hw hI => by
      obtain ⟨⟨c2, c7, rfl⟩, P, X⟩ := hI
      rw [Nat.zero_add] at P ⊢
      have hj := (ints_get hw).1
      have hj4 : j < 4 := hj
      obtain ⟨c7', S', e, P', X'⟩ := cB_ok (b1 := some (.bl wh)) (b2 := some w) (b3 := none) (b4 := none) (b5 := none) (b6 := none) (b7 := c7) P (by omega)
      exact ⟨_, _, _, S', rfl, e, ⟨some w, c7', rfl⟩, P'.mono (by omega), X.trans X'⟩) ⟨⟨none, none, rfl⟩, by simpa using h, .refl⟩
  have hlen : (intsW 0 (4 : Int).toNat).length = 4 := rfl
  rw [hlen] at P
  obtain ⟨t1, s1, e1, a1, _, P1, K1⟩ := take_ok (m := 8) P (by omega) (by decide) (by decide)
  obtain ⟨m1, s2, e2, a2, l2, P2, K2⟩ := take_ok (m := 61) P1 (by omega) (by decide) (by decide)
  obtain ⟨m, s3, hm, P3, X3, e3⟩ := most_ok (wh := wh) (b2 := c2) (b5 := none) (b6 := none) (b7 := c7) (t1 := t1) P2 (by omega) a2 l2
  have e4 := law_names_ok (st := s3) hm
  obtain ⟨T, hT⟩ : ∃ T, T = s3 ++ [Ob.lst (((NN (m - 1)).take (m + 1)).map W.int)] := ⟨_, rfl⟩
  have hTq : T[s3.length]? = some (.lst (((NN (m - 1)).take (m + 1)).map W.int)) := by rw [hT]; simp
  rw [← hT] at e4
  have n1 := names_of_ok (s := m) (st := T) hm
  have i1 := ix_nums hTq (j := m) (by rw [due_len]; omega)
  rw [due_get (Nat.le_refl _)] at i1
  have dv : fdivW (.int (m : Int)) (.int 2) T = .ok (.int ((m / 2 : Nat) : Int)) T := div_ok (by decide) (by decide)
  obtain ⟨IT, hIT⟩ : ∃ IT : List Nat, IT = [0, 1, 2, 3, m / 2] := ⟨_, rfl⟩
  have kl : kLst [W.int 0, .int 1, .int 2, .int 3, .int ((m / 2 : Nat) : Int)] T = .ok (.loc T.length) (T ++ [.lst (IT.map fun o : Nat => W.int (o : Int))]) := by
    rw [hIT]; exact lst5 (by simp)
  obtain ⟨U, hU⟩ : ∃ U, U = T ++ [Ob.lst (IT.map fun o : Nat => W.int (o : Int))] := ⟨_, rfl⟩
  rw [← hU] at kl
  have hUi : U[T.length]? = some (.lst (IT.map fun o : Nat => W.int (o : Int))) := by rw [hU]; simp
  have hUq : U[s3.length]? = some (.lst (((NN (m - 1)).take (m + 1)).map W.int)) := by rw [hU]; exact get_app _ hTq
  have it := itOf_loc hUi
  obtain ⟨env', U', e5, ⟨c6, rfl⟩, hUU⟩ := forW_ok (chk := (ItW.mk (IT.map fun o : Nat => W.int (o : Int)) (some T.length)).Chk) (t := tName 6) (b := oB)
    (fun i env S => (∃ c6, env = [some (.loc p), some (.bl wh), c2, some (.int t1), some (.int (m : Int)), some (.loc s3.length), c6, c7]) ∧ S = U) (fun _ _ _ h => by rw [h.2]; simpa using hUi) (IT.map fun o : Nat => W.int (o : Int)) 0 [some (.loc p), some (.bl wh), c2, some (.int t1), some (.int (m : Int)), some (.loc s3.length), none, c7] U
    (fun j w env S hw hI => by
      obtain ⟨⟨c6, rfl⟩, rfl⟩ := hI
      obtain ⟨o, _, rfl⟩ := List.mem_map.mp (List.mem_of_getElem? hw)
      exact ⟨_, _, _, _, rfl, oB_ok hm hUq, ⟨some (.int (o : Int)), rfl⟩, rfl⟩) ⟨⟨none, rfl⟩, rfl⟩
  rw [hUU] at e5
  have XU : Ext p st U := by
    rw [hU, hT]
    exact ((((X.trans K1.ext).trans K2.ext).trans X3).trans (.app _)).trans (.app _)
  have PU : PotA p (n + 20) U := by
    rw [hU, hT]
    exact ((P3.app _).app _).mono (by omega)
  obtain ⟨G1, G2, G3⟩ := gc_pot (v := .bl true) XU PU hl rfl
  refine ⟨_, ?_, G3, G2⟩
  unfold d__law_counts_right; rw [fnDen_ap, counts_eq]
  simp -implicitDefEqProofs only [sSeq_ap (a := sFor _ _ _), sFor_ap, dRange1_ap, dCons_ap, dC_ap, dNil_ap, Res.bind_ok, kCons1_ap, kCons2_ap, hr, Res.then_ok, kFor, List.map_cons, List.map_nil, List.length_cons, List.length_nil, Nat.reduceAdd, Nat.reduceSub, List.replicate_succ, List.replicate_zero, List.cons_append, List.nil_append]
  rw [e]
  rw [RsS.next_nx, sSeq_ap]
  simp -implicitDefEqProofs only [sAsg_ap, dCall_ap, dCons_ap, dVar_ap, dC_ap, dNil_ap, List.getElem?_cons_zero, List.getElem?_cons_succ, Res.bind_ok, kCons1_ap, kCons2_ap, kCall_2, e1, Res.then_ok, kAsg_n, List.set_cons_succ, List.set_cons_zero, RsS.next_nx]
  rw [sSeq_ap]
  simp -implicitDefEqProofs only [sAsg_ap, dCall_ap, dCons_ap, dVar_ap, dC_ap, dNil_ap, List.getElem?_cons_zero, List.getElem?_cons_succ, Res.bind_ok, kCons1_ap, kCons2_ap, kCall_2, e2, Res.then_ok, kAsg_n, List.set_cons_succ, List.set_cons_zero, RsS.next_nx]
  rw [e3]
  simp -implicitDefEqProofs only [sSeq_ap, sAsg_ap, dCall_ap, dCons_ap, dVar_ap, dC_ap, dNil_ap, List.getElem?_cons_zero, List.getElem?_cons_succ, Res.bind_ok, kCons1_ap, kCons2_ap, kCall_1, kCall_2, e4, Res.then_ok, kAsg_n, List.set_cons_succ, List.set_cons_zero, RsS.next_nx, sIf_ap, dNot_ap, dBool_ap, n1, dOp_ap, kOp1_ap, i1, same_i, kBool_ap, kNot_ap, Bool.not_true, kSIf_f, sNil_ap, sFor_ap, dIt_ap, dLst_ap, dv, kl, it, kFor]
  rw [e5]
  simp -implicitDefEqProofs only [RsS.next_nx, sRet_ap, dC_ap, Res.then_ok, kRet_ap, fnR_rt, G1]
end
end K03
namespace K03
open PySem PySem.Spec PyProof.Rows L2 MP
open Classical
noncomputable section
/-! indexes -/
theorem mN_pos {L : Nat} (h : 1 ≤ L) (h' : L ≤ 20) : 0 < mN L := by
  unfold mN
  rw [if_neg (by omega)]
  split
  · decide
  · exact Nat.mul_pos (by decide) (Nat.pow_pos (by decide))
theorem mN_log {L : Nat} (h : 1 ≤ L) (h' : L ≤ 20) : (mN L : Int).natAbs.log2 < 9000 := by
  refine log_big (k := 105) (by have := mN_pos h h'; omega) ?_ (by decide)
  have := mN_lt L
  have e : (2 : Int) ^ 105 = ((2 ^ 105 : Nat) : Int) := by decide
  rw [e]; omega
theorem le_same {a b : List Nat} {n : Int} {st : Store} (h : a < b) : leTW (.tup [.int n, .str (txt b)]) (.tup [.int n, .str (txt a)]) st = .ok (.bl false) st := by
  have h1 : (txt b == txt a) = false := by
    rw [Bool.eq_false_iff]
    intro z
    have : txt b = txt a := beq_iff_eq.mp z
    have : b = a := by have := congrArg cl this; rwa [cl_txt, cl_txt] at this
    rw [this] at h
    exact List.lt_irrefl _ h
  have h2 : decide ((txt a).cps.toList < (txt b).cps.toList) = true := decide_eq_true h
  unfold leTW
  simp only [pairsW, pairW, h1, h2, List.length_cons, List.length_nil, Nat.reduceAdd, Nat.min_self]
  simp [Ob.lexAt]
theorem le_more {x y : Str} {n : Int} {st : Store} : leTW (.tup [.int (n + 1), .str y]) (.tup [.int n, .str x]) st = .ok (.bl false) st := by
  have h1 : (n + 1 == n) = false := beq_false_of_ne (by omega)
  have h2 : decide (n + 1 ≤ n) = false := decide_eq_false (by omega)
  unfold leTW
  simp only [pairsW, pairW, h1, h2, List.length_cons, List.length_nil, Nat.reduceAdd, Nat.min_self]
  simp [Ob.lexAt]
def iB : DS := (sSeq (sAsg (dOp addW (dC (.int 1)) (dCall 2 d__law_take (dCons (dVar 0) (dCons (dC (.int 20)) dNil)))) (tName 4))
    (sSeq (sAsg (dApp sumW (dCons (dLc (dRange2 (dCons (dC (.int 1)) (dCons (dVar 4) dNil))) [10] (tName 10) dYes (dCall 1 d__law_many (dCons (dVar 10) dNil))) dNil)) (tName 5))
    (sSeq (sAsg (dCall 1 d__law_many (dCons (dVar 4) dNil)) (tName 6))
    (sSeq (sAsg (dOp addW (dVar 5) (dApp minW (dCons (dOp subW (dVar 6) (dC (.int 1))) (dCons (dOp ixW (dLst (dCons (dC (.int 0)) (dCons (dCall 2 d__law_take (dCons (dVar 0) (dCons (dC (.int 40)) dNil))) (dCons (dOp subW (dVar 6) (dC (.int 1))) (dCons (dCall 2 d__law_take (dCons (dVar 0) (dCons (dVar 6) dNil))) dNil))))) (dCall 2 d__law_take (dCons (dVar 0) (dCons (dC (.int 4)) dNil)))) dNil)))) (tName 7))
    (sSeq (sAsg (dCall 1 d_nth_label (dCons (dVar 7) dNil)) (tName 8))
    (sSeq (sIf (dOr (dNot (dBool (dApp isiW (dCons (dVar 8) (dCons (dC (.gl (.ty "str"))) dNil))))) (dOr (dBool (dOp neW (dApp lenW (dCons (dVar 8) dNil)) (dVar 4))) (dNot (dBool (dCall 2 (d__law_same 8) (dCons (dCall 1 d_label_index (dCons (dVar 8) dNil)) (dCons (dVar 7) dNil)))))))
    (sRet (dC (.bl false)))
    sNil)
    (sIf (dBool (dOp ltW (dOp addW (dVar 7) (dC (.int 1))) (dVar 1)))
    (sSeq (sAsg (dCall 1 d_nth_label (dCons (dOp addW (dVar 7) (dC (.int 1))) dNil)) (tName 9))
    (sIf (dBool (dOp leTW (dTup (dCons (dApp lenW (dCons (dVar 9) dNil)) (dCons (dVar 9) dNil))) (dTup (dCons (dVar 4) (dCons (dVar 8) dNil)))))
    (sRet (dC (.bl false)))
    sNil))
    sNil)))))))
/-- the last step: the label behind -/
theorem iB_end {p L r : Nat} {b2 b3 b5 b6 b9 b10 : Option W} {S : Store} (h1 : 1 ≤ L) (h2 : L ≤ 20) (hr : r < mN L) : ∃ b9',
    (sIf (dBool (dOp ltW (dOp addW (dVar 7) (dC (.int 1))) (dVar 1)))
    (sSeq (sAsg (dCall 1 d_nth_label (dCons (dOp addW (dVar 7) (dC (.int 1))) dNil)) (tName 9))
    (sIf (dBool (dOp leTW (dTup (dCons (dApp lenW (dCons (dVar 9) dNil)) (dCons (dVar 9) dNil))) (dTup (dCons (dVar 4) (dCons (dVar 8) dNil)))))
    (sRet (dC (.bl false)))
    sNil))
    sNil) [some (.loc p), some (.int (aN 21 : Int)), b2, b3, some (.int (L : Int)), b5, b6, some (.int ((aN L + r : Nat) : Int)), some (.str (txt (spell L r))), b9, b10] S
    = .go .nx [some (.loc p), some (.int (aN 21 : Int)), b2, b3, some (.int (L : Int)), b5, b6, some (.int ((aN L + r : Nat) : Int)), some (.str (txt (spell L r))), b9', b10] S := by
  have key : ∀ (n : Int) (L' r' : Nat), n + 1 = ((aN L' + r' : Nat) : Int) → 1 ≤ L' → L' ≤ 20 → r' < mN L' → n + 1 < (aN 21 : Int) → (leTW (.tup [.int (L' : Int), .str (txt (spell L' r'))]) (.tup [.int (L : Int), .str (txt (spell L r))]) S = .ok (.bl false) S) → ∃ b9',
    (sIf (dBool (dOp ltW (dOp addW (dVar 7) (dC (.int 1))) (dVar 1)))
    (sSeq (sAsg (dCall 1 d_nth_label (dCons (dOp addW (dVar 7) (dC (.int 1))) dNil)) (tName 9))
    (sIf (dBool (dOp leTW (dTup (dCons (dApp lenW (dCons (dVar 9) dNil)) (dCons (dVar 9) dNil))) (dTup (dCons (dVar 4) (dCons (dVar 8) dNil)))))
    (sRet (dC (.bl false)))
    sNil))
    sNil) [some (.loc p), some (.int (aN 21 : Int)), b2, b3, some (.int (L : Int)), b5, b6, some (.int n), some (.str (txt (spell L r))), b9, b10] S
    = .go .nx [some (.loc p), some (.int (aN 21 : Int)), b2, b3, some (.int (L : Int)), b5, b6, some (.int n), some (.str (txt (spell L r))), b9', b10] S := fun n L' r' en q1 q2 q3 hlt hle => by
      have lt : decide (n + 1 < (aN 21 : Int)) = true := decide_eq_true hlt
      have nt := nth_ok (st := S) q1 q2 q3
      rw [← en] at nt
      have hlen := txt_lenW (st := S) (PlainL.spell q1 q2 q3).okS
      rw [spell_len q1] at hlen
      refine ⟨some (.str (txt (spell L' r'))), ?_⟩
      generalize (aN 21 : Int) = A at *
      generalize txt (spell L' r') = X at *
      generalize txt (spell L r) = Y at *
      generalize (L' : Int) = l' at *
      generalize (L : Int) = l at *
      simp -implicitDefEqProofs [lt, nt, hlen, two, hle]
  by_cases h : r + 1 < mN L
  · refine key _ L (r + 1) (by omega) h1 h2 h ?_ (le_same (spell_lt h1 h2 (Nat.lt_succ_self r) h))
    have := aN_step (i := L) (L := 21) (by omega)
    omega
  · have hr1 : r + 1 = mN L := by omega
    by_cases h20 : L = 20
    · refine ⟨b9, ?_⟩
      have e21 : aN 21 = aN L + mN L := by rw [h20]; rfl
      have lt : decide (((aN L + r : Nat) : Int) + 1 < (aN 21 : Int)) = false := decide_eq_false (by omega)
      generalize ((aN L + r : Nat) : Int) = n at *
      generalize (aN 21 : Int) = A at *
      generalize txt (spell L r) = Y at *
      simp -implicitDefEqProofs [lt]
    · refine key _ (L + 1) 0 (by simp only [aN]; omega) (by omega) (by omega) (mN_pos (by omega) (by omega)) ?_ ?_
      · have := aN_step (i := L) (L := 21) (by omega)
        have h3 := aN_step (i := L + 1) (L := 21) (by omega)
        have h4 := mN_pos (L := L + 1) (by omega) (by omega)
        simp only [aN] at this h3 ⊢
        omega
      · have : ((L + 1 : Nat) : Int) = (L : Int) + 1 := by omega
        rw [this]; exact le_more
theorem iB_ok {p n : Nat} {b2 b3 b4 b5 b6 b7 b8 b9 b10 : Option W} {S : Store} (h : PotA p n S) (hn : n ≤ 900000) : ∃ b4' b5' b6' b7' b8' b9' S', iB [some (.loc p), some (.int (aN 21 : Int)), b2, b3, b4, b5, b6, b7, b8, b9, b10] S = .go .nx [some (.loc p), some (.int (aN 21 : Int)), b2, b3, b4', b5', b6', b7', b8', b9', b10] S' ∧ PotA p (n + 4) S' ∧ Ext p S S' := by
  obtain ⟨t1, s1, e1, a1, l1, P1, K1⟩ := take_ok (m := 20) h (by omega) (by decide) (by decide)
  obtain ⟨L, hL, hL1, hL2⟩ : ∃ L : Nat, 1 + t1 = (L : Int) ∧ 1 ≤ L ∧ L ≤ 20 := ⟨(1 + t1).toNat, by omega, by omega, by omega⟩
  have hr := kR2_ok (st := s1) (i := 1) (j := (L : Int)) (by decide) (by decide) (by omega) (Int.lt_of_le_of_lt (show (L : Int) ≤ 20 by omega) (by decide))
  rw [show ((L : Int) - 1).toNat = L - 1 by omega] at hr
  obtain ⟨g, k1, k2⟩ := ahead_lc (st := s1) (env := [some (.loc p), some (.int (aN 21 : Int)), b2, b3, some (.int (L : Int)), b5, b6, b7, b8, b9, none]) (i := 10) (L := L) (e := dCall 1 d__law_many (dCons (dVar 10) dNil)) hL1 (by omega)
    (fun j => by simp -implicitDefEqProofs [law_many_ok (L := 1 + (j : Int)) (st := s1)])
  obtain ⟨T, hT⟩ : ∃ T, T = s1 ++ [g] := ⟨_, rfl⟩
  rw [← hT] at k1 k2
  have PT : PotA p (n + 1) T := by rw [hT]; exact P1.app _
  have hm : ∀ S, d__law_many [.int (L : Int)] S = .ok (.int (mN L : Int)) S := fun S => by rw [law_many_ok, manyZ_nat]
  have hpos := mN_pos hL1 hL2
  obtain ⟨t2, s2, e2, a2, l2, P2, K2⟩ := take_ok (m := 40) PT (by omega) (by decide) (by decide)
  obtain ⟨t3, s3, e3, a3, l3, P3, K3⟩ := take_okG (m := (mN L : Int)) P2 (by omega) (by omega) (mN_log hL1 hL2)
  have kl : kLst [W.int 0, .int t2, .int ((mN L : Int) - 1), .int t3] s3 = .ok (.loc s3.length) (s3 ++ [.lst [.int 0, .int t2, .int ((mN L : Int) - 1), .int t3]]) := lst5 (by simp)
  obtain ⟨t4, s4, e4, a4, l4, P4, K4⟩ := take_ok (m := 4) (P3.app [.lst [.int 0, .int t2, .int ((mN L : Int) - 1), .int t3]]) (by omega) (by decide) (by decide)
  have g4 : s4[s3.length]? = some (.lst [.int 0, .int t2, .int ((mN L : Int) - 1), .int t3]) := by rw [K4.keep _ (by have := P3.lt; omega)]; simp
  obtain ⟨w, wm, _, e5⟩ := ix_mem (st := s4) (a := .loc s3.length) (i := t4) (seq_loc g4) a4 (by simpa using l4)
  obtain ⟨x, rfl, hx⟩ : ∃ x : Int, w = .int x ∧ 0 ≤ x := by
    simp only [List.mem_cons, List.not_mem_nil, or_false] at wm
    rcases wm with rfl | rfl | rfl | rfl
    · exact ⟨_, rfl, by decide⟩
    · exact ⟨_, rfl, a2⟩
    · exact ⟨_, rfl, by omega⟩
    · exact ⟨_, rfl, a3⟩
  obtain ⟨r, hr1, hr2⟩ : ∃ r : Nat, (if x < (mN L : Int) - 1 then x else (mN L : Int) - 1) = (r : Int) ∧ r < mN L := by
    by_cases z : x < (mN L : Int) - 1
    · exact ⟨x.toNat, by rw [if_pos z]; omega, by omega⟩
    · exact ⟨mN L - 1, by rw [if_neg z]; omega, by omega⟩
  have hmin : minW [.int ((mN L : Int) - 1), .int x] s4 = .ok (.int (r : Int)) s4 := by rw [minW_i, hr1]
  have hnt := nth_ok (st := s4) hL1 hL2 hr2
  have hpl := PlainL.spell hL1 hL2 hr2
  have hlen := txt_lenW (st := s4) hpl.okS
  have hix := index_ok (st := s4) hpl
  rw [spell_len hL1] at hlen hix
  rw [vL_spell hL1 hL2 hr2] at hix
  have his : isiW [.str (txt (spell L r)), .gl (.ty "str")] s4 = .ok (.bl true) s4 := pic_isS (.pu _ (pu_str hpl.okS))
  obtain ⟨b9', e6⟩ := iB_end (p := p) (b2 := b2) (b3 := b3) (b5 := some (.int (aN L : Int))) (b6 := some (.int (mN L : Int))) (b9 := b9) (b10 := b10) (S := s4) hL1 hL2 hr2
  have eS : (aN L : Int) + (r : Int) = ((aN L + r : Nat) : Int) := by omega
  refine ⟨some (.int (L : Int)), some (.int (aN L : Int)), some (.int (mN L : Int)), some (.int ((aN L + r : Nat) : Int)), some (.str (txt (spell L r))), b9', s4, ?_, P4.mono (by omega), ?_⟩
  · unfold iB
    rw [sSeq_ap]
    generalize (aN 21 : Int) = A at *
    generalize ((aN L + r : Nat) : Int) = N at *
    generalize (aN L : Int) = B at *
    generalize (mN L : Int) = M at *
    generalize txt (spell L r) = X at *
    generalize (r : Int) = R at *
    generalize (L : Int) = l at *
    simp -implicitDefEqProofs only [sSeq_ap, sAsg_ap, dOp_ap, dC_ap, dCall_ap, dCons_ap, dVar_ap, dNil_ap, List.getElem?_cons_zero, List.getElem?_cons_succ, Res.bind_ok, kOp1_ap, kCons1_ap, kCons2_ap, kCall_2, kCall_1, e1, addW_i, hL, Res.then_ok, kAsg_n, List.set_cons_succ, List.set_cons_zero, RsS.next_nx, dApp_ap, dLc_ap, dRange2_ap, hr, wipeW, k1, k2, hm, dLst_ap, subW_i, e2, e3, kl, e4, e5, hmin, eS, hnt, sIf_ap, dOr_ap, dNot_ap, dBool_ap, his, kBool_ap, kNot_ap, Bool.not_true, kOr_f, hlen, neW_i, beq_self_eq_true, hix, same_i, kSIf_f, sNil_ap]
    simp -implicitDefEqProofs only [sSeq_ap, sAsg_ap, dOp_ap, dC_ap, dCall_ap, dCons_ap, dVar_ap, dNil_ap, dBool_ap, dTup_ap, dApp_ap, sIf_ap] at e6
    exact e6
  · have x1 : Ext p S T := by rw [hT]; exact K1.ext.trans (.app _)
    exact (((x1.trans K2.ext).trans K3.ext).trans (.app _)).trans K4.ext
end
end K03
namespace K03
open PySem PySem.Spec PyProof.Rows L2 MP
open Classical
noncomputable section
def jB : DS := (sSeq (sAsg (dCall 1 d__law_label (dCons (dVar 0) dNil)) (tName 8))
    (sSeq (sAsg (dCall 1 d_label_index (dCons (dVar 8) dNil)) (tName 7))
    (sSeq (sIf (dOr (dNot (dBool (dApp isiW (dCons (dVar 7) (dCons (dC (.gl (.ty "int"))) dNil))))) (dOr (dBool (dApp isiW (dCons (dVar 7) (dCons (dC (.gl (.ty "bool"))) dNil)))) (dNot (dBool (dChain leW ltW (dC (.int 0)) (dVar 7) (dVar 1))))))
    (sRet (dC (.bl false)))
    sNil)
    (sSeq (sIf (dOr (dNot (dBool (dCall 2 (d__law_same 8) (dCons (dCall 1 d_nth_label (dCons (dVar 7) dNil)) (dCons (dVar 8) dNil))))) (dBool (dOp neW (dCall 1 d_nth_label (dCons (dVar 7) dNil)) (dVar 8))))
    (sRet (dC (.bl false)))
    sNil)
    (sIf (dNot (dBool (dCall 2 (d__law_same 8) (dCons (dCall 1 d_label_index (dCons (dVar 8) dNil)) (dCons (dVar 7) dNil)))))
    (sRet (dC (.bl false)))
    sNil)))))
theorem isi_int {z : Int} {st : Store} : isiW [.int z, .gl (.ty "int")] st = .ok (.bl true) st := isi_of (t := "int") rfl (kB_int (.int z))
theorem isi_int_b {z : Int} {st : Store} : isiW [.int z, .gl (.ty "bool")] st = .ok (.bl false) st := isi_of (t := "int") rfl (kB_bool (.int z))
theorem same_s {x : Str} {st : Store} (h : okS x = true) : d__law_same 8 [.str x, .str x] st = .ok (.bl true) st := same_pu 1 (.str x) h (by decide) 8 st (by decide)
theorem jB_ok {p n : Nat} {b2 b3 b4 b5 b6 b7 b8 b9 b10 : Option W} {S : Store} (h : PotA p n S) (hn : n ≤ 900000) : ∃ b7' b8' S', jB [some (.loc p), some (.int (aN 21 : Int)), b2, b3, b4, b5, b6, b7, b8, b9, b10] S = .go .nx [some (.loc p), some (.int (aN 21 : Int)), b2, b3, b4, b5, b6, b7', b8', b9, b10] S' ∧ PotA p (n + 30) S' ∧ Ext p S S' := by
  obtain ⟨x, s1, e1, hx, P1, K1⟩ := label_drawP h (by omega)
  have hix := index_ok (st := s1) hx
  obtain ⟨sp, vl⟩ := spell_vL hx.one hx.most hx.fst hx.lst hx.all
  have hnt := nth_ok (st := s1) hx.one hx.most vl
  rw [sp] at hnt
  have hst := aN_step (i := x.length) (L := 21) (by have := hx.most; omega)
  have l0 : decide ((0 : Int) ≤ ((aN x.length + vL x : Nat) : Int)) = true := decide_eq_true (by omega)
  have l1 : decide (((aN x.length + vL x : Nat) : Int) < (aN 21 : Int)) = true := decide_eq_true (by omega)
  have hs := same_s (st := s1) hx.okS
  have hne : neW (.str (txt x)) (.str (txt x)) s1 = .ok (.bl false) s1 := by rw [neW_str hx.okS hx.okS]; simp
  refine ⟨some (.int ((aN x.length + vL x : Nat) : Int)), some (.str (txt x)), s1, ?_, P1, K1.ext⟩
  unfold jB
  generalize (aN 21 : Int) = A at *
  generalize ((aN x.length + vL x : Nat) : Int) = N at *
  generalize txt x = X at *
  simp -implicitDefEqProofs only [sSeq_ap, sAsg_ap, dCall_ap, dCons_ap, dVar_ap, dNil_ap, List.getElem?_cons_zero, List.getElem?_cons_succ, Res.bind_ok, kCons1_ap, kCons2_ap, kCall_1, kCall_2, e1, Res.then_ok, kAsg_n, List.set_cons_succ, List.set_cons_zero, RsS.next_nx, hix, sIf_ap, dOr_ap, dNot_ap, dBool_ap, dApp_ap, dC_ap, isi_int, isi_int_b, kBool_ap, kNot_ap, Bool.not_true, Bool.not_false, kOr_f, dChain_ap, kCh1_ap, kCh2_ap, leW_i, l0, kCh3_t, ltW_i, l1, kSIf_f, sNil_ap, hnt, hs, dOp_ap, kOp1_ap, hne, same_i]
theorem num_pic {S : Store} {q : Nat} {v : Int} (h : S[q]? = some (.lst [.str eNum, .int v])) : Pic S (.loc q) (.fro [.str eNum, .int v]) := .ls q _ h (by simp) (fun w hw => by
  simp only [List.mem_cons, List.not_mem_nil, or_false] at hw
  rcases hw with rfl | rfl
  · exact ok_eNum
  · rfl)
theorem num_eq {S : Store} {q q' : Nat} {v : Int} (h : S[q]? = some (.lst [.str eNum, .int v])) (h' : S[q']? = some (.lst [.str eNum, .int v])) : eqW (.loc q) (.loc q') S = .ok (.bl true) S := by
  rw [pic_eq (num_pic h) (num_pic h'), (num_pic h).refl]
theorem num_ne {S : Store} {q q' : Nat} {v : Int} (h : S[q]? = some (.lst [.str eNum, .int v])) (h' : S[q']? = some (.lst [.str eNum, .int v])) : neW (.loc q) (.loc q') S = .ok (.bl false) S := by
  rw [pic_ne (num_pic h) (num_pic h'), (num_pic h).refl]; rfl
/-- refused twice: as told and as made -/
theorem ref_eqN {way v : Int} {env : EnvW} {i : Nat} {m : D W} {st : Store} (hm : ∀ S, m env S = .ok (.int v) S) (h : ∀ S, d__law_refused [.int way, .int v] S = .ok (.loc S.length) (S ++ [.lst [.str eNum, .int v]])) {mw : D W} (hw : ∀ S, mw env S = .ok (.int way) S) :
    ∃ g, dOp eqW (dCall 2 d__law_refused (dCons mw (dCons m dNil))) (dLst (dCons (dC (.str "number")) (dCons m dNil))) env st = .ok (.bl true) (st ++ g) ∧ dOp neW (dCall 2 d__law_refused (dCons mw (dCons m dNil))) (dLst (dCons (dC (.str "number")) (dCons m dNil))) env st = .ok (.bl false) (st ++ g) := by
  have kl : kLst [.str "number", .int v] (st ++ [.lst [.str eNum, .int v]]) = .ok (.loc (st.length + 1)) (st ++ [.lst [.str eNum, .int v], .lst [.str eNum, .int v]]) := by
    rw [lst5 (by simp)]; simp; rfl
  obtain ⟨U, hU⟩ : ∃ U, U = st ++ [Ob.lst [.str eNum, .int v], .lst [.str eNum, .int v]] := ⟨_, rfl⟩
  rw [← hU] at kl
  have g1 : U[st.length]? = some (.lst [.str eNum, .int v]) := by rw [hU]; simp
  have g2 : U[st.length + 1]? = some (.lst [.str eNum, .int v]) := by rw [hU]; simp
  refine ⟨[.lst [.str eNum, .int v], .lst [.str eNum, .int v]], ?_, ?_⟩ <;> rw [← hU]
  · simp -implicitDefEqProofs only [dOp_ap, dCall_ap, dCons_ap, hw, hm, Res.bind_ok, kCons1_ap, dNil_ap, kCons2_ap, kCall_2, h, kOp1_ap, dLst_ap, dC_ap, kl, num_eq g1 g2]
  · simp -implicitDefEqProofs only [dOp_ap, dCall_ap, dCons_ap, hw, hm, Res.bind_ok, kCons1_ap, dNil_ap, kCons2_ap, kCall_2, h, kOp1_ap, dLst_ap, dC_ap, kl, num_ne g1 g2]
theorem ref_over {n : Nat} {S : Store} (h : aN 21 ≤ n) : d__law_refused [.int 2, .int (n : Int)] S = .ok (.loc S.length) (S ++ [.lst [.str eNum, .int (n : Int)]]) :=
  ref_num fun S => .inr (.inr ⟨rfl, nth_over h⟩)
theorem ref_neg {way v : Int} {S : Store} (h : v < 0) (hw : way = 0 ∨ way = 1 ∨ way = 2) : d__law_refused [.int way, .int v] S = .ok (.loc S.length) (S ++ [.lst [.str eNum, .int v]]) :=
  ref_num fun S => by
    rcases hw with rfl | rfl | rfl
    · exact .inl ⟨rfl, labels_neg h⟩
    · exact .inr (.inl ⟨rfl, names_neg h⟩)
    · exact .inr (.inr ⟨rfl, nth_neg h⟩)
theorem ix_eq : b__law_indexes_right = sSeq (sAsg (dApp sumW (dCons (dLc (dRange2 (dCons (dC (.int 1)) (dCons (dC (.int 21)) dNil))) [4] (tName 4) dYes (dCall 1 d__law_many (dCons (dVar 4) dNil))) dNil)) (tName 1))
    (sSeq (sFor (dRange1 (dCons (dC (.int 6)) dNil)) (tName 2) iB) (sSeq (sFor (dRange1 (dCons (dC (.int 4)) dNil)) (tName 2) jB)
    (sSeq (sAsg (dOp addW (dVar 1) (dCall 2 d__law_take (dCons (dVar 0) (dCons (dOp powW (dC (.int 10)) (dC (.int 20))) dNil)))) (tName 3))
    (sRet (dAndV (dOp eqW (dCall 2 d__law_refused (dCons (dC (.int 2)) (dCons (dVar 3) dNil))) (dLst (dCons (dC (.str "number")) (dCons (dVar 3) dNil)))) (dOp eqW (dCall 2 d__law_refused (dCons (dC (.int 2)) (dCons (dVar 1) dNil))) (dLst (dCons (dC (.str "number")) (dCons (dVar 1) dNil))))))))) := rfl
theorem indexes_ok {p n : Nat} {st : Store} (h : PotA p n st) (hn : n ≤ 800000) : ∃ st', d__law_indexes_right [.loc p] st = .ok (.bl true) st' ∧ PotA p (n + 200) st' ∧ Kp p st st' := by
  have hl := h.lt
  have hr0 := kR2_ok (st := st) (i := 1) (j := 21) (by decide) (by decide) (by decide) (by decide)
  rw [show ((21 : Int) - 1).toNat = 21 - 1 from rfl] at hr0
  obtain ⟨g, k1, k2⟩ := ahead_lc (st := st) (env := [some (.loc p), none, none, none, none, none, none, none, none, none, none]) (i := 4) (L := 21) (e := dCall 1 d__law_many (dCons (dVar 4) dNil)) (by decide) (by decide)
    (fun j => by simp -implicitDefEqProofs [law_many_ok (L := 1 + (j : Int)) (st := st)])
  obtain ⟨T, hT⟩ : ∃ T, T = st ++ [g] := ⟨_, rfl⟩
  rw [← hT] at k1 k2
  have PT : PotA p n T := by rw [hT]; exact h.app _
  have hr := kR1_ok (st := T) (j := 6) (by decide) (by decide)
  obtain ⟨env', S, e, ⟨c2, c4, c5, c6, c7, c8, c9, rfl⟩, P, X⟩ := forW_ok (chk := (ItW.mk (intsW 0 (6 : Int).toNat) none).Chk) (t := tName 2) (b := iB)
    (fun i env S => (∃ c2 c4 c5 c6 c7 c8 c9, env = [some (.loc p), some (.int (aN 21 : Int)), c2, none, c4, c5, c6, c7, c8, c9, none]) ∧ PotA p (n + 4 * i) S ∧ Ext p T S) (fun _ _ _ _ => by simp) (intsW 0 (6 : Int).toNat) 0 [some (.loc p), some (.int (aN 21 : Int)), none, none, none, none, none, none, none, none, none] T
    (fun j w env S hw hI => by
      obtain ⟨⟨c2, c4, c5, c6, c7, c8, c9, rfl⟩, P, X⟩ := hI
      rw [Nat.zero_add] at P ⊢
      have hj : j < 6 := (ints_get hw).1
      obtain ⟨b4, b5, b6, b7, b8, b9, S', e, P', X'⟩ := iB_ok (b2 := some w) (b3 := none) (b4 := c4) (b5 := c5) (b6 := c6) (b7 := c7) (b8 := c8) (b9 := c9) (b10 := none) P (by omega)
      exact ⟨_, _, _, S', rfl, e, ⟨some w, b4, b5, b6, b7, b8, b9, rfl⟩, P'.mono (by omega), X.trans X'⟩) ⟨⟨none, none, none, none, none, none, none, rfl⟩, by simpa using PT, .refl⟩
  have hlen : (intsW 0 (6 : Int).toNat).length = 6 := rfl
  rw [hlen] at P
  have hr2 := kR1_ok (st := S) (j := 4) (by decide) (by decide)
  obtain ⟨env', S2, e2, ⟨d2, d7, d8, rfl⟩, P2, X2⟩ := forW_ok (chk := (ItW.mk (intsW 0 (4 : Int).toNat) none).Chk) (t := tName 2) (b := jB)
    (fun i env S2 => (∃ d2 d7 d8, env = [some (.loc p), some (.int (aN 21 : Int)), d2, none, c4, c5, c6, d7, d8, c9, none]) ∧ PotA p (n + 24 + 30 * i) S2 ∧ Ext p S S2) (fun _ _ _ _ => by simp) (intsW 0 (4 : Int).toNat) 0 [some (.loc p), some (.int (aN 21 : Int)), c2, none, c4, c5, c6, c7, c8, c9, none] S
    (fun j w env S hw hI => by
      obtain ⟨⟨d2, d7, d8, rfl⟩, P, X⟩ := hI
      rw [Nat.zero_add] at P ⊢
      have hj : j < 4 := (ints_get hw).1
      obtain ⟨b7, b8, S', e, P', X'⟩ := jB_ok (b2 := some w) (b3 := none) (b4 := c4) (b5 := c5) (b6 := c6) (b7 := d7) (b8 := d8) (b9 := c9) (b10 := none) P (by omega)
      exact ⟨_, _, _, S', rfl, e, ⟨some w, b7, b8, rfl⟩, P'.mono (by omega), X.trans X'⟩) ⟨⟨c2, c7, c8, rfl⟩, by simpa using P.mono (by omega), .refl⟩
  have hlen4 : (intsW 0 (4 : Int).toNat).length = 4 := rfl
  rw [hlen4] at P2
  obtain ⟨E, hE⟩ : ∃ T : Int, T = 10 ^ ((20 : Nat) : Int).toNat := ⟨_, rfl⟩
  have p20 : ∀ S, powW (.int 10) (.int 20) S = .ok (.int E) S := fun S => by rw [hE]; exact pow_ok (pow10 20 (by decide) (by decide))
  obtain ⟨t, S3, e3, a3, _, P3, K3⟩ := take_pow hE (by decide) P2 (by omega)
  obtain ⟨more, hm, hmo⟩ : ∃ m : Nat, (aN 21 : Int) + t = (m : Int) ∧ aN 21 ≤ m := ⟨((aN 21 : Int) + t).toNat, by omega, by omega⟩
  obtain ⟨g1, q1, _⟩ := ref_eqN (way := 2) (v := (more : Int)) (env := [some (.loc p), some (.int (aN 21 : Int)), d2, some (.int (more : Int)), c4, c5, c6, d7, d8, c9, none]) (i := 0) (m := dVar 3) (st := S3) (fun _ => rfl) (fun S => ref_over hmo) (mw := dC (.int 2)) (fun _ => rfl)
  obtain ⟨g2, q2, _⟩ := ref_eqN (way := 2) (v := (aN 21 : Int)) (env := [some (.loc p), some (.int (aN 21 : Int)), d2, some (.int (more : Int)), c4, c5, c6, d7, d8, c9, none]) (i := 0) (m := dVar 1) (st := S3 ++ g1) (fun _ => rfl) (fun S => ref_over (Nat.le_refl _)) (mw := dC (.int 2)) (fun _ => rfl)
  have XU : Ext p st (S3 ++ g1 ++ g2) := by
    have x0 : Ext p st T := by rw [hT]; exact .app _
    exact ((((x0.trans X).trans X2).trans K3.ext).trans (.app _)).trans (.app _)
  have PU : PotA p (n + 200) (S3 ++ g1 ++ g2) := ((P3.app _).app _).mono (by omega)
  obtain ⟨G1, G2, G3⟩ := gc_pot (v := .bl true) XU PU hl rfl
  refine ⟨_, ?_, G3, G2⟩
  unfold d__law_indexes_right; rw [fnDen_ap, ix_eq]
  generalize (aN 21 : Int) = A at *
  generalize (more : Int) = M at *
  simp -implicitDefEqProofs only [sSeq_ap (a := sAsg _ _), sAsg_ap, dApp_ap, dCons_ap, dLc_ap, dRange2_ap, dC_ap, dNil_ap, Res.bind_ok, kCons1_ap, kCons2_ap, hr0, wipeW, List.map_cons, List.map_nil, List.length_cons, List.length_nil, Nat.reduceAdd, Nat.reduceSub, List.replicate_succ, List.replicate_zero, List.cons_append, List.nil_append, List.set_cons_succ, List.set_cons_zero]
  simp only [Nat.reduceSub] at k1
  rw [k1]
  simp -implicitDefEqProofs only [Res.bind_ok, kCons1_ap, kCons2_ap, dNil_ap, k2, Res.then_ok, kAsg_n, List.set_cons_succ, List.set_cons_zero, RsS.next_nx]
  rw [sSeq_ap, sFor_ap]
  simp -implicitDefEqProofs only [dRange1_ap, dCons_ap, dC_ap, dNil_ap, Res.bind_ok, kCons1_ap, kCons2_ap, hr, Res.then_ok, kFor]
  rw [e, RsS.next_nx, sSeq_ap, sFor_ap]
  simp -implicitDefEqProofs only [dRange1_ap, dCons_ap, dC_ap, dNil_ap, Res.bind_ok, kCons1_ap, kCons2_ap, hr2, Res.then_ok, kFor]
  rw [e2]
  have s1 : sAsg (dOp addW (dVar 1) (dCall 2 d__law_take (dCons (dVar 0) (dCons (dOp powW (dC (.int 10)) (dC (.int 20))) dNil)))) (tName 3) [some (.loc p), some (.int A), d2, none, c4, c5, c6, d7, d8, c9, none] S2 = .go .nx [some (.loc p), some (.int A), d2, some (.int M), c4, c5, c6, d7, d8, c9, none] S3 := by
    simp -implicitDefEqProofs only [sAsg_ap, dOp_ap, dVar_ap, List.getElem?_cons_zero, List.getElem?_cons_succ, Res.bind_ok, kOp1_ap, dCall_ap, dCons_ap, kCons1_ap, dC_ap, dNil_ap, kCons2_ap, p20, kCall_2, e3, addW_i, hm, Res.then_ok, kAsg_n, List.set_cons_succ, List.set_cons_zero]
  rw [RsS.next_nx, sSeq_ap, s1, RsS.next_nx, sRet_ap, dAndV_ap, q1]
  simp -implicitDefEqProofs only [Res.bind_ok, kAndV_t]
  rw [q2]
  simp -implicitDefEqProofs only [Res.then_ok, kRet_ap, fnR_rt, G1]
end
end K03
namespace K03
open PySem PySem.Spec PyProof.Rows L2 MP
open Classical
noncomputable section
/-! refusals -/
theorem lab_data {S : Store} {q : Nat} {a u : W} (h : S[q]? = some (.lst [.str eL, a])) (hp : Pic S a u) : datF S 66 (.loc q) = some (.list [.str eL, dU u]) ∧ SeqAt.shaped (.list [.str eL, dU u]) = true := by
  constructor
  · have h1 : datF S 65 a = some (dU u) := hp.dat 65 (by decide)
    have h2 : datF S 65 (.str eL) = some (.str eL) := rfl
    show (match S[q]? with | some (.lst ws) => (allO (ws.map (datF S 65))).map PyData.list | none => none) = _
    rw [h]
    simp only [List.map_cons, List.map_nil, h1, h2, allO, Option.map_some]
  · obtain ⟨c, d⟩ := hp.shp
    refine shaped_of ⟨?_, ?_⟩
    · show PyData.canLayAll0 [.str eL, dU u] = true
      rw [PyData.canLayAll0.eq_2, PyData.canLayAll0.eq_2, c]
      exact (by decide +kernel : ((PyData.str eL).canLay0 && (true && PyData.canLayAll0 [])) = true)
    · rw [PyData.depth.eq_1, PyData.depthAll.eq_2, PyData.depthAll.eq_2]
      have : (PyData.str eL).depth = 0 := rfl
      have h0 : PyData.depthAll [] = 0 := rfl
      rw [this, h0]; omega
theorem lab_eq {S : Store} {q q' : Nat} {a b u : W} (h : S[q]? = some (.lst [.str eL, a])) (h' : S[q']? = some (.lst [.str eL, b])) (hp : Pic S a u) (hp' : Pic S b u) : eqW (.loc q) (.loc q') S = .ok (.bl true) S := by
  obtain ⟨d1, s1⟩ := lab_data h hp
  obtain ⟨d2, s2⟩ := lab_data h' hp'
  rw [eqW_of d1 d2 s1 s2]
  congr 2
  rw [PyData.eqv.eq_7, PyData.eqvAll.eq_2, PyData.eqvAll.eq_2, hp.refl, PyData.eqv.eq_6]
  simp [PyData.eqvAll.eq_1]
theorem ref_eqL {w u : W} {env : EnvW} {m : D W} {st : Store} (hm : ∀ S, m env S = .ok w S) (h : Pic st w u) (hb : labB u = false ∨ u = .str "*") :
    ∃ g, dOp eqW (dCall 2 d__law_refused (dCons (dC (.int 3)) (dCons m dNil))) (dLst (dCons (dC (.str "label")) (dCons m dNil))) env st = .ok (.bl true) (st ++ g) := by
  obtain ⟨q, g, w', e, hq, hp⟩ := ref_lab h hb
  have kl : kLst [.str "label", w] (st ++ g) = .ok (.loc (st ++ g).length) (st ++ g ++ [.lst [.str eL, w]]) := lst5 (by simp)
  have e2 := lab_eq (S := st ++ g ++ [Ob.lst [.str eL, w]]) (q := q) (q' := (st ++ g).length) (a := w') (b := w) (u := u) (get_app _ hq) (by simp) (hp.app _) ((h.app g).app _)
  refine ⟨g ++ [.lst [.str eL, w]], ?_⟩
  rw [← List.append_assoc]
  obtain ⟨U, hU⟩ : ∃ U, U = st ++ g ++ [Ob.lst [.str eL, w]] := ⟨_, rfl⟩
  rw [← hU] at kl e2 ⊢
  simp -implicitDefEqProofs only [dOp_ap, dCall_ap, dCons_ap, dC_ap, hm, Res.bind_ok, kCons1_ap, dNil_ap, kCons2_ap, kCall_2, e, kOp1_ap, dLst_ap, kl, e2]
/-- is it the text "a" -/
theorem eq_a {w u : W} {st : Store} (h : Pic st w u) : (u = .str "a" ∧ w = .str "a" ∧ eqW w (.str "a") st = .ok (.bl true) st) ∨ (u ≠ .str "a" ∧ eqW w (.str "a") st = .ok (.bl false) st) := by
  have ha : okS ("a" : Str) = true := by decide +kernel
  have e := pic_eq h (.pu (st := st) (.str "a") (pu_str ha))
  by_cases hu : u = .str "a"
  · subst hu
    obtain ⟨rfl, _⟩ := Pic.str h
    refine .inl ⟨rfl, rfl, ?_⟩
    rw [eqW_str ha ha]; simp
  · refine .inr ⟨hu, ?_⟩
    rw [e]
    congr 2
    cases h with
    | pu _ hp =>
      rw [dU_pu hp]
      show (dat 5 w).eqv (.str "a") = false
      rw [eqv_str]
      cases w with
      | str y =>
        simp only
        exact beq_false_of_ne (fun z => hu (by rw [z]))
      | _ => rfl
    | ls k ws _ _ _ => rfl
def BAD (w5 : W) : List W := [.str "*", .str (repS "a" 21), .str "", .str "-a", w5, .tup [.str "a"]]
theorem refusals_eq : b__law_refusals_right = sSeq (sAsg (dOp subW (dUn negW (dC (.int 1))) (dCall 2 d__law_take (dCons (dVar 0) (dCons (dOp powW (dC (.int 10)) (dC (.int 20))) dNil)))) (tName 1))
    (sSeq (sFor (dRange1 (dCons (dC (.int 3)) dNil)) (tName 2) (sIf (dOr (dBool (dOp neW (dCall 2 d__law_refused (dCons (dVar 2) (dCons (dVar 1) dNil))) (dLst (dCons (dC (.str "number")) (dCons (dVar 1) dNil))))) (dBool (dOp neW (dCall 2 d__law_refused (dCons (dVar 2) (dCons (dUn negW (dC (.int 1))) dNil))) (dLst (dCons (dC (.str "number")) (dCons (dUn negW (dC (.int 1))) dNil))))))
    (sRet (dC (.bl false)))
    sNil))
    (sSeq (sAsg (dOp ixW (dLst (dCons (dC (.str "*")) (dCons (dOp mulW (dC (.str "a")) (dC (.int 21))) (dCons (dC (.str "")) (dCons (dC (.str "-a")) (dCons (dCall 1 d__law_odd (dCons (dVar 0) dNil)) (dCons (dTup (dCons (dC (.str "a")) dNil)) dNil))))))) (dCall 2 d__law_take (dCons (dVar 0) (dCons (dC (.int 6)) dNil)))) (tName 3))
    (sSeq (sIf (dBool (dOp eqW (dVar 3) (dC (.str "a"))))
    (sAsg (dC (.str "a-")) (tName 3))
    sNil)
    (sRet (dAndV (dOp eqW (dCall 2 d__law_refused (dCons (dC (.int 3)) (dCons (dVar 3) dNil))) (dLst (dCons (dC (.str "label")) (dCons (dVar 3) dNil)))) (dOp eqW (dCall 2 d__law_refused (dCons (dC (.int 3)) (dCons (dC (.str "*")) dNil))) (dLst (dCons (dC (.str "label")) (dCons (dC (.str "*")) dNil))))))))) := rfl
theorem bad_lab {w5 u5 : W} {S : Store} (h : Pic S w5 u5) (ho : oddP u5 = true) : ∀ w ∈ BAD w5, ∃ u, Pic S w u ∧ (labB u = false ∨ u = .str "*" ∨ u = .str "a") := fun w hw => by
  unfold BAD at hw
  simp only [List.mem_cons, List.not_mem_nil, or_false] at hw
  rcases hw with rfl | rfl | rfl | rfl | rfl | rfl
  · exact ⟨_, .pu _ (pu_str ok_star), .inr (.inl rfl)⟩
  · exact ⟨_, .pu _ (pu_str ok_a21), .inl (by decide +kernel)⟩
  · exact ⟨_, .pu _ (pu_str ok_nil), .inl (by decide +kernel)⟩
  · exact ⟨_, .pu _ (pu_str (by decide +kernel)), .inl (by decide +kernel)⟩
  · refine ⟨_, h, ?_⟩
    unfold oddP at ho
    rw [Bool.or_eq_true] at ho
    rcases ho with ho | ho
    · left; simpa using ho
    · cases u5 with
      | str x => right; right; rw [beq_iff_eq.mp ho]
      | _ => cases ho
  · exact ⟨_, .pu _ (by decide +kernel), .inl rfl⟩
theorem refusals_ok {p n : Nat} {st : Store} (h : PotA p n st) (hn : n ≤ 800000) : ∃ st', d__law_refusals_right [.loc p] st = .ok (.bl true) st' ∧ PotA p (n + 20) st' ∧ Kp p st st' := by
  have hl := h.lt
  obtain ⟨E, hE⟩ : ∃ T : Int, T = 10 ^ ((20 : Nat) : Int).toNat := ⟨_, rfl⟩
  have p20 : ∀ S, powW (.int 10) (.int 20) S = .ok (.int E) S := fun S => by rw [hE]; exact pow_ok (pow10 20 (by decide) (by decide))
  obtain ⟨t, s1, e1, a1, _, P1, K1⟩ := take_pow hE (by decide) h (by omega)
  obtain ⟨b, hb, hb0⟩ : ∃ b : Int, -1 - t = b ∧ b < 0 := ⟨_, rfl, by omega⟩
  have hr := kR1_ok (st := s1) (j := 3) (by decide) (by decide)
  obtain ⟨env', S, e, ⟨c2, rfl⟩, P, X⟩ := forW_ok (chk := (ItW.mk (intsW 0 (3 : Int).toNat) none).Chk) (t := tName 2) (b := (sIf (dOr (dBool (dOp neW (dCall 2 d__law_refused (dCons (dVar 2) (dCons (dVar 1) dNil))) (dLst (dCons (dC (.str "number")) (dCons (dVar 1) dNil))))) (dBool (dOp neW (dCall 2 d__law_refused (dCons (dVar 2) (dCons (dUn negW (dC (.int 1))) dNil))) (dLst (dCons (dC (.str "number")) (dCons (dUn negW (dC (.int 1))) dNil))))))
    (sRet (dC (.bl false)))
    sNil))
    (fun i env S => (∃ c2, env = [some (.loc p), some (.int b), c2, none]) ∧ PotA p (n + 1) S ∧ Ext p s1 S) (fun _ _ _ _ => by simp) (intsW 0 (3 : Int).toNat) 0 [some (.loc p), some (.int b), none, none] s1
    (fun j w env S hw hI => by
      obtain ⟨⟨c2, rfl⟩, P, X⟩ := hI
      obtain ⟨hj, rfl⟩ := ints_get hw
      have hj3 : j < 3 := hj
      have hway : (0 : Int) + (j : Int) = 0 ∨ (0 : Int) + (j : Int) = 1 ∨ (0 : Int) + (j : Int) = 2 := by omega
      generalize (0 : Int) + (j : Int) = way at *
      obtain ⟨g1, _, q1⟩ := ref_eqN (way := way) (v := b) (env := [some (.loc p), some (.int b), some (.int way), none]) (i := 0) (m := dVar 1) (st := S) (fun _ => rfl) (fun S => ref_neg hb0 hway) (mw := dVar 2) (fun _ => rfl)
      obtain ⟨g2, _, q2⟩ := ref_eqN (way := way) (v := -1) (env := [some (.loc p), some (.int b), some (.int way), none]) (i := 0) (m := dUn negW (dC (.int 1))) (st := S ++ g1) (fun _ => rfl) (fun S => ref_neg (by decide) hway) (mw := dVar 2) (fun _ => rfl)
      refine ⟨_, _, _, S ++ g1 ++ g2, rfl, ?_, ⟨some (.int way), rfl⟩, (P.app _).app _, (X.trans (.app _)).trans (.app _)⟩
      simp -implicitDefEqProofs only [List.set_cons_succ, List.set_cons_zero]
      rw [sIf_ap, dOr_ap, dBool_ap, q1]
      simp -implicitDefEqProofs only [Res.bind_ok, kBool_ap, kOr_f]
      rw [dBool_ap, q2]
      simp -implicitDefEqProofs only [Res.bind_ok, kBool_ap, Res.then_ok, kSIf_f, sNil_ap]) ⟨⟨none, rfl⟩, P1, .refl⟩
  obtain ⟨w5, u5, s2, g5, e2, hp5, ho5, P2, K2, hw5⟩ := (odd_draw P (by omega)).ex
  have kt : ∀ S, kTup [.str "a"] S = .ok (.tup [.str "a"]) S := fun S => tup_one
  have kl : kLst (BAD w5) (s2 ++ g5) = .ok (.loc (s2 ++ g5).length) (s2 ++ g5 ++ [.lst (BAD w5)]) := lst5 (by simp [BAD])
  obtain ⟨t6, s3, e3, a3, l3, P3, K3⟩ := take_ok (m := 6) ((P2.app g5).app [.lst (BAD w5)]) (by omega) (by decide) (by decide)
  have hp2 : p < (s2 ++ g5).length := (P2.app g5).lt
  have g3 : s3[(s2 ++ g5).length]? = some (.lst (BAD w5)) := by rw [K3.keep _ (by omega)]; simp
  obtain ⟨w, wm, _, e4⟩ := ix_mem (st := s3) (a := .loc (s2 ++ g5).length) (i := t6) (seq_loc g3) a3 (by simpa [BAD] using l3)
  have hpS : p < S.length := P.lt
  have hp3 : Pic s3 w5 u5 := by
    rcases hw5 with ⟨_, hpu⟩ | ⟨ws, rfl, rfl, rfl⟩
    · cases hp5 with
      | pu _ h => exact .pu _ h
      | ls k ws h hl' hw => exact nomatch (show false = true from hpu)
    · cases hp5 with
      | ls k ws h hl' hw =>
        refine .ls _ ws ?_ hl' hw
        rw [K3.keep _ (by omega), List.getElem?_append_left (List.getElem?_eq_some_iff.mp h).1]
        exact h
  obtain ⟨u, hu, hbad⟩ := bad_lab hp3 ho5 w wm
  have e5 : ixW (.loc (s2 ++ g5).length) (.int t6) s3 = .ok w s3 := e4
  have st1 : sAsg (dOp ixW (dLst (dCons (dC (.str "*")) (dCons (dOp mulW (dC (.str "a")) (dC (.int 21))) (dCons (dC (.str "")) (dCons (dC (.str "-a")) (dCons (dCall 1 d__law_odd (dCons (dVar 0) dNil)) (dCons (dTup (dCons (dC (.str "a")) dNil)) dNil))))))) (dCall 2 d__law_take (dCons (dVar 0) (dCons (dC (.int 6)) dNil)))) (tName 3) [some (.loc p), some (.int b), c2, none] S = .go .nx [some (.loc p), some (.int b), c2, some w] s3 := by
    unfold BAD at kl e3
    simp -implicitDefEqProofs only [sAsg_ap, dOp_ap, dLst_ap, dCons_ap, dC_ap, Res.bind_ok, kCons1_ap, kOp1_ap, a21, dCall_ap, dVar_ap, List.getElem?_cons_zero, List.getElem?_cons_succ, dNil_ap, kCons2_ap, kCall_1, e2, dTup_ap, kt, kl, kCall_2, e3, e5, Res.then_ok, kAsg_n, List.set_cons_succ, List.set_cons_zero]
  have fin : ∃ (w' u' : W), Pic s3 w' u' ∧ (labB u' = false ∨ u' = .str "*") ∧ sIf (dBool (dOp eqW (dVar 3) (dC (.str "a")))) (sAsg (dC (.str "a-")) (tName 3)) sNil [some (.loc p), some (.int b), c2, some w] s3 = .go .nx [some (.loc p), some (.int b), c2, some w'] s3 := by
    rcases eq_a hu with ⟨rfl, rfl, ea⟩ | ⟨hne, ea⟩
    · exact ⟨.str "a-", .str "a-", .pu _ (pu_str (by decide +kernel)), .inl (by decide +kernel), by simp -implicitDefEqProofs [ea]⟩
    · refine ⟨w, u, hu, ?_, by simp -implicitDefEqProofs [ea]⟩
      rcases hbad with h | h | h
      · exact .inl h
      · exact .inr h
      · exact absurd h hne
  obtain ⟨w', u', hu', hb', st2⟩ := fin
  obtain ⟨g1, q1⟩ := ref_eqL (env := [some (.loc p), some (.int b), c2, some w']) (m := dVar 3) (fun _ => rfl) hu' hb'
  obtain ⟨g2, q2⟩ := ref_eqL (st := s3 ++ g1) (env := [some (.loc p), some (.int b), c2, some w']) (m := dC (.str "*")) (fun _ => rfl) (.pu _ (pu_str ok_star)) (.inr rfl)
  have XU : Ext p st (s3 ++ g1 ++ g2) := by
    exact ((((((K1.ext.trans X).trans K2.ext).trans (.app _)).trans (.app _)).trans K3.ext).trans (.app _)).trans (.app _)
  have PU : PotA p (n + 20) (s3 ++ g1 ++ g2) := ((P3.app _).app _).mono (by omega)
  obtain ⟨G1, G2, G3⟩ := gc_pot (v := .bl true) XU PU hl rfl
  refine ⟨_, ?_, G3, G2⟩
  unfold d__law_refusals_right; rw [fnDen_ap, refusals_eq]
  have st0 : sAsg (dOp subW (dUn negW (dC (.int 1))) (dCall 2 d__law_take (dCons (dVar 0) (dCons (dOp powW (dC (.int 10)) (dC (.int 20))) dNil)))) (tName 1) [some (.loc p), none, none, none] st = .go .nx [some (.loc p), some (.int b), none, none] s1 := by
    simp -implicitDefEqProofs only [sAsg_ap, dOp_ap, dUn_ap, dC_ap, Res.bind_ok, negW_i, kOp1_ap, dCall_ap, dCons_ap, dVar_ap, List.getElem?_cons_zero, kCons1_ap, p20, dNil_ap, kCons2_ap, kCall_2, e1, subW_i, hb, Res.then_ok, kAsg_n, List.set_cons_succ, List.set_cons_zero]
  simp -implicitDefEqProofs only [List.map_cons, List.map_nil, List.length_cons, List.length_nil, Nat.reduceAdd, Nat.reduceSub, List.replicate_succ, List.replicate_zero, List.cons_append, List.nil_append]
  rw [sSeq_ap, st0, RsS.next_nx, sSeq_ap, sFor_ap]
  simp -implicitDefEqProofs only [dRange1_ap, dCons_ap, dC_ap, dNil_ap, Res.bind_ok, kCons1_ap, kCons2_ap, hr, Res.then_ok, kFor]
  rw [e, RsS.next_nx, sSeq_ap, st1, RsS.next_nx, sSeq_ap, st2, RsS.next_nx, sRet_ap, dAndV_ap, q1]
  simp -implicitDefEqProofs only [Res.bind_ok, kAndV_t]
  rw [q2]
  simp -implicitDefEqProofs only [Res.then_ok, kRet_ap, fnR_rt, G1]
end
end K03
namespace K03
open PySem PySem.Spec PyProof.Rows L2 MP
open Classical
noncomputable section
/-! label_but -/
def ROWL : List (List Nat) := EN.map (fun c => [c]) ++ EN.map fun c => [48, c]
def tW (l : List Nat) : W := .str (txt l)
theorem ROWL_len : ROWL.length = 72 := by decide +kernel
theorem ROWL_nd : ROWL.Nodup := by decide +kernel
theorem ROWL_star : [42] ∉ ROWL := by decide +kernel
theorem ROWL_in : ∀ l ∈ ROWL, (∀ c ∈ l, c < 128) ∧ l.length ≤ 2 := by decide +kernel
theorem ROWL_sp : ∀ i, i < 72 → ROWL.getD i [] = if i < 36 then spell 1 i else spell 2 (i - 36) := by decide +kernel
theorem txt_inj {a b : List Nat} (h : txt a = txt b) : a = b := by
  have := congrArg cl h; rwa [cl_txt, cl_txt] at this
theorem ok_t {l : List Nat} (h : ∀ c ∈ l, c < 128) (hl : l.length ≤ 8192) : okS (txt l) = true := okS_iff.mpr ⟨hl, h⟩
theorem nth_row {i : Nat} {st : Store} (h : i < 72) : d_nth_label [.int (i : Int)] st = .ok (tW (ROWL.getD i [])) st := by
  rw [ROWL_sp i h]
  by_cases h1 : i < 36
  · rw [if_pos h1]
    have := nth_ok (st := st) (L := 1) (r := i) (by decide) (by decide) h1
    have e : aN 1 + i = i := by simp [aN, mN]
    rwa [e] at this
  · rw [if_neg h1]
    have m2 : mN 2 = 1296 := by decide +kernel
    have a2 : aN 2 = 36 := by decide +kernel
    have := nth_ok (st := st) (L := 2) (r := i - 36) (by decide) (by decide) (by omega)
    have e : aN 2 + (i - 36) = i := by omega
    rwa [e] at this
theorem in_ints {neg : Bool} {x : Int} {xs : List Int} {k : Nat} {st : Store} (h : st[k]? = some (.lst (xs.map W.int))) : inW neg (.int x) (.loc k) st = .ok (.bl (if neg then !decide (x ∈ xs) else decide (x ∈ xs))) st := by
  unfold inW inB
  have e : allO ((xs.map W.int).map flV) = some (xs.map V.int) := by
    rw [List.map_map]; exact allO_of _ V.int xs fun _ _ => rfl
  simp only [seq_loc h, flV, e]
  have : inV (V.int x) (xs.map V.int) = decide (x ∈ xs) := by
    unfold inV
    rw [List.any_map, Bool.eq_iff_iff, List.any_eq_true, decide_eq_true_iff]
    constructor
    · rintro ⟨y, hy, e⟩
      have : y = x := by simpa [L2.eqV] using e
      rw [← this]; exact hy
    · exact fun h => ⟨x, h, by simp [L2.eqV]⟩
  rw [this]
theorem in_txts {neg : Bool} {x : List Nat} {xs : List (List Nat)} {k : Nat} {st : Store} (h : st[k]? = some (.lst (xs.map tW))) : inW neg (tW x) (.loc k) st = .ok (.bl (if neg then !decide (x ∈ xs) else decide (x ∈ xs))) st := by
  unfold inW inB
  have e : allO ((xs.map tW).map flV) = some (xs.map fun l => V.str (txt l)) := by
    rw [List.map_map]; exact allO_of _ (fun l => V.str (txt l)) xs fun _ _ => rfl
  simp only [seq_loc h, tW, flV, e]
  have : inV (V.str (txt x)) (xs.map fun l => V.str (txt l)) = decide (x ∈ xs) := by
    unfold inV
    rw [List.any_map, Bool.eq_iff_iff, List.any_eq_true, decide_eq_true_iff]
    constructor
    · rintro ⟨y, hy, e⟩
      have : txt y = txt x := by simpa [L2.eqV] using e
      rw [← txt_inj this]; exact hy
    · exact fun h => ⟨x, h, by simp [L2.eqV]⟩
  rw [this]
theorem lcW_filter {β : Type} {chk : Store → Prop} {env : EnvW} {i : Nat} {c : D Bool} {e : D W} {st : Store} (k g : β → W) (q : β → Bool) (hc : chk st) : ∀ (l : List β) (acc : List W), (∀ b ∈ l, c (env.set i (some (k b))) st = .ok (q b) st ∧ (q b = true → e (env.set i (some (k b))) st = .ok (g b) st)) → acc.length + l.length ≤ sizeLine →
    lcW chk env (tName i) c e (l.map k) acc st = some (acc ++ (l.filter q).map g, st)
  | [], acc, _, _ => by unfold lcW; simp only [List.map_nil]; rw [if_pos hc]; simp
  | b :: l, acc, hs, hl => by
    simp only [List.length_cons] at hl
    simp only [List.map_cons]
    obtain ⟨h1, h2⟩ := hs b List.mem_cons_self
    have ih := fun acc => lcW_filter k g q hc l acc fun w m => hs w (List.mem_cons_of_mem _ m)
    unfold lcW
    rw [if_pos hc]
    dsimp only [tName]
    rw [h1]
    cases hq : q b with
    | true =>
      dsimp only
      rw [h2 hq]
      dsimp only
      rw [if_pos (by omega), ih (acc ++ [g b]) (by simp; omega)]
      simp [hq]
    | false =>
      dsimp only
      rw [ih acc (by omega)]
      simp [hq]
theorem kLc_filter {β : Type} {env : EnvW} {i : Nat} {c : D Bool} {e : D W} {st : Store} {src : Option Nat} (k g : β → W) (q : β → Bool) (l : List β) (hc : (ItW.mk (l.map k) src).Chk st) (hs : ∀ b ∈ l, c (env.set i (some (k b))) st = .ok (q b) st ∧ (q b = true → e (env.set i (some (k b))) st = .ok (g b) st)) (hl : l.length ≤ sizeLine) :
    kLc env (tName i) c e ⟨l.map k, src⟩ st = .ok (.loc st.length) (st ++ [.lst ((l.filter q).map g)]) := by
  unfold kLc
  simp only
  rw [lcW_filter k g q hc l [] hs (by simpa using hl)]
  simp
/-- the first of the row that is not in some -/
theorem least {P : Nat → Prop} : ∀ n, (∃ i, i < n ∧ P i) → ∃ i, i < n ∧ P i ∧ ∀ j, j < i → ¬ P j
  | 0, h => by obtain ⟨i, hi, _⟩ := h; omega
  | n + 1, h => by
    by_cases q : ∃ i, i < n ∧ P i
    · obtain ⟨i, h1, h2, h3⟩ := least n q
      exact ⟨i, by omega, h2, h3⟩
    · obtain ⟨i, hi, hp⟩ := h
      refine ⟨i, hi, hp, fun j hj hq => q ⟨j, by omega, hq⟩⟩
theorem first_out {xs : List (List Nat)} (h : ∃ i, i < 72 ∧ ROWL.getD i [] ∉ xs) : ∃ i, i < 72 ∧ ROWL.getD i [] ∉ xs ∧ (∀ j, j < i → ROWL.getD j [] ∈ xs) ∧ ∃ r, ROWL.filter (fun l => !decide (l ∈ xs)) = ROWL.getD i [] :: r := by
  obtain ⟨i, h1, h2, h3⟩ := least 72 h
  have h5 : ∀ j, j < i → ROWL.getD j [] ∈ xs := fun j hj => Classical.not_not.mp (h3 j hj)
  refine ⟨i, h1, h2, h5, ?_⟩
  have hl : i < ROWL.length := by rw [ROWL_len]; exact h1
  have eg : ROWL.getD i [] = ROWL[i] := by rw [List.getD_eq_getElem?_getD, List.getElem?_eq_getElem hl]; rfl
  refine ⟨(ROWL.drop (i + 1)).filter (fun l => !decide (l ∈ xs)), ?_⟩
  have hs : ROWL = ROWL.take i ++ ROWL[i] :: ROWL.drop (i + 1) := by rw [← List.drop_eq_getElem_cons, List.take_append_drop]
  have h0 : (ROWL.take i).filter (fun l => !decide (l ∈ xs)) = [] := by
    rw [List.filter_eq_nil_iff]
    intro l hm
    obtain ⟨j, hj, e⟩ := List.getElem_of_mem hm
    have hj' : j < i := by rw [List.length_take] at hj; omega
    have hjl : j < ROWL.length := by omega
    have := h5 j hj'
    rw [List.getD_eq_getElem?_getD, List.getElem?_eq_getElem hjl] at this
    rw [List.getElem_take] at e
    rw [← e]
    simpa using this
  have h4 : (!decide (ROWL[i] ∈ xs)) = true := by rw [← eg]; simpa using h2
  conv => lhs; rw [hs]
  rw [List.filter_append, h0, List.nil_append, List.filter_cons_of_pos (p := fun l => !decide (l ∈ xs)) h4, eg]
theorem but_ok {xs : List (List Nat)} {k i : Nat} {st : Store} (h : st[k]? = some (.lst (xs.map tW))) (h1 : i < 72) (h2 : ROWL.getD i [] ∉ xs) (h3 : ∀ j, j < i → ROWL.getD j [] ∈ xs) : d_label_but [.loc k] st = .ok (tW (ROWL.getD i [])) st := by
  obtain ⟨env', S, e, rfl, hS⟩ := while_inv (c := dBool (dOp (inW false) (dCall 1 d_nth_label (dCons (dVar 1) dNil)) (dVar 0))) (b := sAug 1 addI (dC (.int 1)))
    (fun j env S => env = [some (.loc k), some (.int (j : Int))] ∧ S = st) i
    (fun j env S hj hI => by
      obtain ⟨rfl, rfl⟩ := hI
      have n1 := nth_row (i := j) (st := S) (by omega)
      have i1 := in_txts (neg := false) (x := ROWL.getD j []) h
      rw [decide_eq_true (h3 j hj)] at i1
      simp only [Bool.false_eq_true, if_false] at i1
      refine ⟨[some (.loc k), some (.int ((j : Int) + 1))], S, ?_, ?_, ?_, rfl⟩
      · simp -implicitDefEqProofs only [dBool_ap, dOp_ap, dCall_ap, dCons_ap, dVar_ap, List.getElem?_cons_zero, List.getElem?_cons_succ, Res.bind_ok, kCons1_ap, dNil_ap, kCons2_ap, kCall_1, n1, kOp1_ap, i1, kBool_ap]
      · rfl
      · simp)
    (fun env S hI => by
      obtain ⟨rfl, rfl⟩ := hI
      have n1 := nth_row (i := i) (st := S) h1
      have i1 := in_txts (neg := false) (x := ROWL.getD i []) h
      rw [decide_eq_false h2] at i1
      simp only [Bool.false_eq_true, if_false] at i1
      simp -implicitDefEqProofs only [dBool_ap, dOp_ap, dCall_ap, dCons_ap, dVar_ap, List.getElem?_cons_zero, List.getElem?_cons_succ, Res.bind_ok, kCons1_ap, dNil_ap, kCons2_ap, kCall_1, n1, kOp1_ap, i1, kBool_ap])
    (env := [some (.loc k), some (.int 0)]) (st := st) ⟨rfl, rfl⟩
  have n1 := nth_row (i := i) (st := st) h1
  have hg : gc st (tW (ROWL.getD i [])) st = .ok (tW (ROWL.getD i [])) st := gc_same rfl
  rw [hS] at e
  unfold d_label_but; rw [fnDen_ap]; unfold b_label_but
  simp -implicitDefEqProofs only [sSeq_ap, sAsg_ap, dC_ap, Res.then_ok, kAsg_n, List.map_cons, List.map_nil, List.length_cons, List.length_nil, Nat.reduceAdd, Nat.reduceSub, List.replicate_succ, List.replicate_zero, List.cons_append, List.nil_append, List.set_cons_succ, List.set_cons_zero, RsS.next_nx]
  rw [e]
  simp -implicitDefEqProofs only [RsS.next_nx, sRet_ap, dCall_ap, dCons_ap, dVar_ap, List.getElem?_cons_zero, List.getElem?_cons_succ, Res.bind_ok, kCons1_ap, dNil_ap, kCons2_ap, kCall_1, n1, Res.then_ok, kRet_ap, fnR_rt, hg]
end
end K03
namespace K03
open PySem PySem.Spec PyProof.Rows L2 MP
open Classical
noncomputable section
theorem ints0 (n : Nat) : intsW 0 n = (List.range n).map fun i : Nat => W.int (i : Int) := by simp [intsW]
theorem ix_tW {S : Store} {q i : Nat} {l : List (List Nat)} (h : S[q]? = some (.lst (l.map tW))) (hi : i < l.length) : ixW (.loc q) (.int (i : Int)) S = .ok (tW (l.getD i [])) S := by
  unfold ixW
  simp only [seq_loc h]
  rw [atI_nat (by simpa using hi), List.getElem?_map, List.getElem?_eq_getElem hi]
  simp [hi]
theorem listA_loc {S : Store} {q : Nat} {ws : List W} (h : S[q]? = some (.lst ws)) : listAW [.loc q] S = .ok (.loc S.length) (S ++ [.lst ws]) := by
  show listW [.loc q] S = _
  unfold listW
  simp only [seq_loc h]
theorem rev_loc {S : Store} {q : Nat} {ws : List W} (h : S[q]? = some (.lst ws)) : revW (.loc q) S = .ok (.loc S.length) (S ++ [.lst ws.reverse]) := by
  unfold revW lstW
  simp only [h]
theorem star_tW : (W.str "*") = tW [42] := by
  have : ("*" : Str) = txt [42] := by decide +kernel
  rw [this]; rfl
theorem txts_pic {S : Store} {q : Nat} {l : List (List Nat)} (h : S[q]? = some (.lst (l.map tW))) (hl : l.length ≤ 8192) (ho : ∀ x ∈ l, okS (txt x) = true) : Pic S (.loc q) (.fro (l.map tW)) := .ls q _ h (by simpa using hl) (fun w hw => by
  obtain ⟨x, hx, rfl⟩ := List.mem_map.mp hw
  exact ho x hx)
/-! the parts of a turn -/
def uS1 : DS := (sAsg (dLc (dRange1 (dCons (dCall 2 d__law_take (dCons (dVar 0) (dCons (dC (.int 4)) dNil))) dNil)) [7] (tName 7) dYes (dCall 2 d__law_take (dCons (dVar 0) (dCons (dC (.int 42)) dNil)))) (tName 3))
def uS2 : DS := (sAsg (dLc (dRange1 (dCons (dOp ixW (dLst (dCons (dCall 2 d__law_take (dCons (dVar 0) (dCons (dC (.int 39)) dNil))) (dCons (dC (.int 36)) (dCons (dC (.int 37)) dNil)))) (dCall 2 d__law_take (dCons (dVar 0) (dCons (dC (.int 3)) dNil)))) dNil)) [7] (tName 7) (dBool (dOp (inW true) (dVar 7) (dVar 3))) (dOp ixW (dVar 1) (dVar 7))) (tName 4))
def uS3 : DS := (sAsg (dOp addW (dVar 4) (dSl (dLst (dCons (dCall 1 d__law_label (dCons (dVar 0) dNil)) (dCons (dC (.str "*")) dNil))) dNoPart (dPart (dCall 2 d__law_take (dCons (dVar 0) (dCons (dC (.int 3)) dNil)))))) (tName 4))
def uS4 : DS := (sIf (dBool (dOp eqW (dCall 2 d__law_take (dCons (dVar 0) (dCons (dC (.int 2)) dNil))) (dC (.int 0))))
    (sAsg (dUn revW (dVar 4)) (tName 4))
    sNil)
def uS5 : DS := (sAsg (dApp listAW (dCons (dVar 4) dNil)) (tName 5))
def uS6 : DS := (sAsg (dOp ixW (dLc (dIt (dVar 1)) [8] (tName 8) (dBool (dOp (inW true) (dVar 8) (dVar 4))) (dVar 8)) (dC (.int 0))) (tName 6))
def uS7 : DS := (sIf (dOr (dNot (dBool (dCall 2 (d__law_same 8) (dCons (dCall 1 d_label_but (dCons (dVar 5) dNil)) (dCons (dVar 6) dNil))))) (dOr (dBool (dOp neW (dVar 5) (dVar 4))) (dBool (dOp neW (dCall 1 d_label_but (dCons (dVar 5) dNil)) (dVar 6)))))
    (sRet (dC (.bl false)))
    sNil)
def uB : DS := sSeq uS1 (sSeq uS2 (sSeq uS3 (sSeq uS4 (sSeq uS5 (sSeq uS6 uS7)))))
theorem but_eq : b__law_but_right = sSeq (sAsg (dCall 0 d__law_first_labels dNil) (tName 1)) (sSeq (sFor (dRange1 (dCons (dC (.int 4)) dNil)) (tName 2) uB) (sRet (dC (.bl true)))) := rfl
section
variable {p n R : Nat} {b2 b3 b4 b5 b6 b7 b8 : Option W} {S : Store}
theorem u1_ok (h : PotA p n S) (hn : n ≤ 900000) : ∃ (xs : List Int) (q : Nat) (S' : Store), uS1 [some (.loc p), some (.loc R), b2, b3, b4, b5, b6, b7, b8] S = .go .nx [some (.loc p), some (.loc R), b2, some (.loc q), b4, b5, b6, b7, b8] S' ∧ S'[q]? = some (.lst (xs.map W.int)) ∧ q ≠ p ∧ PotA p (n + 10) S' ∧ Ext p S S' := by
  obtain ⟨t1, s1, e1, a1, l1, P1, K1⟩ := take_ok (m := 4) h (by omega) (by decide) (by decide)
  have hr := kR1_ok (st := s1) (j := t1) (Int.le_trans (by decide) a1) (Int.lt_of_le_of_lt (show t1 ≤ 4 by omega) (by decide))
  obtain ⟨l, s2, e2, hll, P2, X2, xs, rfl⟩ := kLc_ok (env := [some (.loc p), some (.loc R), b2, b3, b4, b5, b6, none, b8]) (i := 7) (e := dCall 2 d__law_take (dCons (dVar 0) (dCons (dC (.int 42)) dNil))) (st := s1) (ws := intsW 0 t1.toNat)
    (fun i acc S => PotA p (n + 1 + i) S ∧ Ext p s1 S ∧ ∃ xs : List Int, acc = xs.map W.int) (fun i w acc S hw hJ => by
      obtain ⟨hP, hX, xs, rfl⟩ := hJ
      have hi : i < t1.toNat := (ints_get hw).1
      obtain ⟨t, s', e, a, b, P, Kq⟩ := take_ok (m := 42) hP (by omega) (by decide) (by decide)
      refine ⟨.int t, s', ?_, P, hX.trans Kq.ext, xs ++ [t], by simp⟩
      simp -implicitDefEqProofs [e]) (by rw [ints_len]; exact line8 (by omega)) ⟨P1, .refl, [], rfl⟩
  refine ⟨xs, s2.length, s2 ++ [.lst (xs.map W.int)], ?_, by simp, by have := P2.lt; omega, (P2.mono (by rw [ints_len]; omega)).app _, (K1.ext.trans X2).trans (.app _)⟩
  unfold uS1
  simp -implicitDefEqProofs only [sAsg_ap, dLc_ap, dRange1_ap, dCons_ap, dCall_ap, dVar_ap, dC_ap, dNil_ap, List.getElem?_cons_zero, List.getElem?_cons_succ, Res.bind_ok, kCons1_ap, kCons2_ap, kCall_2, e1, hr, wipeW, List.set_cons_succ, List.set_cons_zero]
  rw [e2]
  simp -implicitDefEqProofs only [Res.then_ok, kAsg_n, List.set_cons_succ, List.set_cons_zero]
theorem u2_ok {xs : List Int} {q : Nat} (h : PotA p n S) (hn : n ≤ 900000) (hR : S[R]? = some (.lst (ROWL.map tW))) (hRp : R ≠ p) (hq : S[q]? = some (.lst (xs.map W.int))) (hqp : q ≠ p) : ∃ (A : List (List Nat)) (a : Nat) (S' : Store), uS2 [some (.loc p), some (.loc R), b2, some (.loc q), b4, b5, b6, b7, b8] S = .go .nx [some (.loc p), some (.loc R), b2, some (.loc q), some (.loc a), b5, b6, b7, b8] S' ∧
    S'[a]? = some (.lst (A.map tW)) ∧ a ≠ p ∧ A.length ≤ 38 ∧ (∀ x ∈ A, ∃ i, i < 39 ∧ x = ROWL.getD i []) ∧ PotA p (n + 10) S' ∧ Ext p S S' := by
  obtain ⟨t1, s1, e1, a1, l1, P1, K1⟩ := take_ok (m := 39) h (by omega) (by decide) (by decide)
  have kl : kLst [W.int t1, .int 36, .int 37] s1 = .ok (.loc s1.length) (s1 ++ [.lst [.int t1, .int 36, .int 37]]) := lst5 (by simp)
  obtain ⟨t2, s2, e2, a2, l2, P2, K2⟩ := take_ok (m := 3) (P1.app [.lst [.int t1, .int 36, .int 37]]) (by omega) (by decide) (by decide)
  have g2 : s2[s1.length]? = some (.lst [.int t1, .int 36, .int 37]) := by rw [K2.keep _ (by have := P1.lt; omega)]; simp
  obtain ⟨w, wm, _, e3⟩ := ix_mem (st := s2) (a := .loc s1.length) (i := t2) (seq_loc g2) a2 (by simpa using l2)
  obtain ⟨m, rfl, hm⟩ : ∃ m : Nat, w = .int (m : Int) ∧ m ≤ 38 := by
    simp only [List.mem_cons, List.not_mem_nil, or_false] at wm
    rcases wm with rfl | rfl | rfl
    · exact ⟨t1.toNat, by rw [Int.toNat_of_nonneg a1], by omega⟩
    · exact ⟨36, rfl, by decide⟩
    · exact ⟨37, rfl, by decide⟩
  have hr := kR1_ok (st := s2) (j := (m : Int)) (Int.le_trans (by decide) (show (0 : Int) ≤ m by omega)) (Int.lt_of_le_of_lt (show (m : Int) ≤ 38 by omega) (by decide))
  rw [Int.toNat_natCast, ints0] at hr
  have X : Ext p S s2 := (K1.ext.trans (.app _)).trans K2.ext
  have hR2 : s2[R]? = some (.lst (ROWL.map tW)) := X.get hR hRp
  have hq2 : s2[q]? = some (.lst (xs.map W.int)) := X.get hq hqp
  have e4 := kLc_filter (env := [some (.loc p), some (.loc R), b2, some (.loc q), b4, b5, b6, none, b8]) (i := 7) (c := dBool (dOp (inW true) (dVar 7) (dVar 3))) (e := dOp ixW (dVar 1) (dVar 7)) (st := s2) (src := none) (fun i : Nat => W.int (i : Int)) (fun i : Nat => tW (ROWL.getD i [])) (fun i : Nat => !decide ((i : Int) ∈ xs)) (List.range m) (by simp)
    (fun i hi => by
      have hi : i < m := by simpa using hi
      have i1 := in_ints (neg := true) (x := (i : Int)) hq2
      simp only [if_true] at i1
      have i2 := ix_tW hR2 (i := i) (by rw [ROWL_len]; omega)
      refine ⟨?_, fun _ => ?_⟩
      · simp -implicitDefEqProofs only [List.set_cons_succ, List.set_cons_zero, dBool_ap, dOp_ap, dVar_ap, List.getElem?_cons_zero, List.getElem?_cons_succ, Res.bind_ok, kOp1_ap, i1, kBool_ap]
      · simp -implicitDefEqProofs only [List.set_cons_succ, List.set_cons_zero, dOp_ap, dVar_ap, List.getElem?_cons_zero, List.getElem?_cons_succ, Res.bind_ok, kOp1_ap, i2]) (by simp; exact line8 (by omega))
  obtain ⟨F, hF⟩ : ∃ F : List Nat, F = (List.range m).filter (fun i : Nat => !decide ((i : Int) ∈ xs)) := ⟨_, rfl⟩
  rw [← hF] at e4
  have hFm : ∀ i ∈ F, i < m := fun i hi => by rw [hF] at hi; have := (List.mem_filter.mp hi).1; simpa using this
  have hFl : F.length ≤ m := by rw [hF]; have := List.length_filter_le (fun i : Nat => !decide ((i : Int) ∈ xs)) (List.range m); simpa using this
  refine ⟨F.map fun i => ROWL.getD i [], s2.length, s2 ++ [.lst ((F.map fun i => ROWL.getD i []).map tW)], ?_, by simp, by have := P2.lt; omega, by simp; omega, fun x hx => ?_, (P2.mono (by omega)).app _, X.trans (.app _)⟩
  · rw [List.map_map]
    unfold uS2
    simp -implicitDefEqProofs only [sAsg_ap, dLc_ap, dRange1_ap, dOp_ap, dLst_ap, dCons_ap, dCall_ap, dVar_ap, dC_ap, dNil_ap, List.getElem?_cons_zero, List.getElem?_cons_succ, Res.bind_ok, kCons1_ap, kCons2_ap, kCall_2, e1, kl, kOp1_ap, e2, e3, hr, wipeW, List.set_cons_succ, List.set_cons_zero]
    rw [e4]
    simp -implicitDefEqProofs only [Res.then_ok, kAsg_n, List.set_cons_succ, List.set_cons_zero]
    rfl
  · obtain ⟨i, hi, rfl⟩ := List.mem_map.mp hx
    exact ⟨i, by have := hFm i hi; omega, rfl⟩
theorem u3_ok {A : List (List Nat)} {a : Nat} (h : PotA p n S) (hn : n ≤ 900000) (ha : S[a]? = some (.lst (A.map tW))) (hap : a ≠ p) (hA : A.length ≤ 38) : ∃ (B x : List (List Nat)) (b : Nat) (S' : Store), uS3 [some (.loc p), some (.loc R), b2, b3, some (.loc a), b5, b6, b7, b8] S = .go .nx [some (.loc p), some (.loc R), b2, b3, some (.loc b), b5, b6, b7, b8] S' ∧
    S'[b]? = some (.lst (B.map tW)) ∧ b ≠ p ∧ B = A ++ x ∧ x.length ≤ 2 ∧ (∃ y, PlainL y ∧ ∀ z ∈ x, z = y ∨ z = [42]) ∧ PotA p (n + 40) S' ∧ Ext p S S' := by
  obtain ⟨y, s1, e1, hy, P1, K1⟩ := label_drawP h (by omega)
  have kl : kLst [tW y, tW [42]] s1 = .ok (.loc s1.length) (s1 ++ [.lst ([y, [42]].map tW)]) := lst5 (by simp)
  obtain ⟨t, s2, e2, a2, l2, P2, K2⟩ := take_ok (m := 3) (P1.app [.lst ([y, [42]].map tW)]) (by omega) (by decide) (by decide)
  have X2 : Ext p S s2 := (K1.ext.trans (.app _)).trans K2.ext
  have g2 : s2[s1.length]? = some (.lst ([y, [42]].map tW)) := by rw [K2.keep _ (by have := P1.lt; omega)]; simp
  have sl := sl_take (n := t.toNat) g2
  rw [Int.toNat_of_nonneg a2] at sl
  obtain ⟨x, hx⟩ : ∃ x, x = [y, [42]].take t.toNat := ⟨_, rfl⟩
  have ex : (([y, [42]].map tW).take t.toNat) = x.map tW := by rw [hx, List.map_take]
  rw [ex] at sl
  obtain ⟨T, hT⟩ : ∃ T, T = s2 ++ [Ob.lst (x.map tW)] := ⟨_, rfl⟩
  rw [← hT] at sl
  have hT1 : T[s2.length]? = some (.lst (x.map tW)) := by rw [hT]; simp
  have hTa : T[a]? = some (.lst (A.map tW)) := by rw [hT]; exact get_app _ (X2.get ha hap)
  have xl : x.length ≤ 2 := by rw [hx, List.length_take]; simp; omega
  have ad := addW_l hTa hT1 (by simp; omega)
  rw [← List.map_append] at ad
  have hTp : p < T.length := by rw [hT]; exact (P2.app _).lt
  have e1' : d__law_label [.loc p] S = .ok (tW y) s1 := e1
  refine ⟨A ++ x, x, T.length, T ++ [.lst ((A ++ x).map tW)], ?_, by simp, by omega, rfl, xl, ⟨y, hy, fun z hz => ?_⟩, by rw [hT]; exact ((P2.app _).app _).mono (by omega), by rw [hT]; exact (X2.trans (.app _)).trans (.app _)⟩
  · unfold uS3
    simp -implicitDefEqProofs only [sAsg_ap, dOp_ap, dVar_ap, List.getElem?_cons_zero, List.getElem?_cons_succ, Res.bind_ok, kOp1_ap, dSl_ap, dLst_ap, dCons_ap, dCall_ap, dNil_ap, kCons1_ap, kCons2_ap, kCall_1, e1', dC_ap, star_tW, kl, kSl1_ap, dNoPart_ap, kSl2_ap, dPart_ap, kCall_2, e2, kPart_ap, sl, ad, Res.then_ok, kAsg_n, List.set_cons_succ, List.set_cons_zero]
  · rw [hx] at hz
    have := List.mem_of_mem_take hz
    simpa using this
theorem u4_ok {B : List (List Nat)} {b : Nat} (h : PotA p n S) (hn : n ≤ 900000) (hb : S[b]? = some (.lst (B.map tW))) (hbp : b ≠ p) : ∃ (C : List (List Nat)) (c : Nat) (S' : Store), uS4 [some (.loc p), some (.loc R), b2, b3, some (.loc b), b5, b6, b7, b8] S = .go .nx [some (.loc p), some (.loc R), b2, b3, some (.loc c), b5, b6, b7, b8] S' ∧
    S'[c]? = some (.lst (C.map tW)) ∧ c ≠ p ∧ (C = B ∨ C = B.reverse) ∧ PotA p (n + 1) S' ∧ Ext p S S' := by
  obtain ⟨t, s1, e1, a1, l1, P1, K1⟩ := take_ok (m := 2) h (by omega) (by decide) (by decide)
  have hb1 : s1[b]? = some (.lst (B.map tW)) := K1.ext.get hb hbp
  by_cases q : t = 0
  · subst q
    have rv := rev_loc hb1
    rw [← List.map_reverse] at rv
    refine ⟨B.reverse, s1.length, s1 ++ [.lst (B.reverse.map tW)], ?_, by simp, by have := P1.lt; omega, .inr rfl, P1.app _, K1.ext.trans (.app _)⟩
    unfold uS4
    simp -implicitDefEqProofs [e1, rv]
  · have q0 : (t == 0) = false := beq_false_of_ne q
    refine ⟨B, b, s1, ?_, hb1, hbp, .inl rfl, P1, K1.ext⟩
    unfold uS4
    simp -implicitDefEqProofs [e1, q0]
theorem u57_ok {C : List (List Nat)} {c : Nat} (h : PotA p n S) (hR : S[R]? = some (.lst (ROWL.map tW))) (hc : S[c]? = some (.lst (C.map tW))) (hcl : C.length ≤ 100) (ho : ∀ x ∈ C, okS (txt x) = true) (hout : ∃ i, i < 72 ∧ ROWL.getD i [] ∉ C) : ∃ (b5' b6' : Option W) (S' : Store), sSeq uS5 (sSeq uS6 uS7) [some (.loc p), some (.loc R), b2, b3, some (.loc c), b5, b6, b7, b8] S = .go .nx [some (.loc p), some (.loc R), b2, b3, some (.loc c), b5', b6', b7, b8] S' ∧ PotA p n S' ∧ Ext p S S' := by
  obtain ⟨i, h1, h2, h3, r, hf⟩ := first_out hout
  have e5 := listA_loc hc
  obtain ⟨T, hT⟩ : ∃ T, T = S ++ [Ob.lst (C.map tW)] := ⟨_, rfl⟩
  rw [← hT] at e5
  have hTh : T[S.length]? = some (.lst (C.map tW)) := by rw [hT]; simp
  have hTc : T[c]? = some (.lst (C.map tW)) := by rw [hT]; exact get_app _ hc
  have hTR : T[R]? = some (.lst (ROWL.map tW)) := by rw [hT]; exact get_app _ hR
  have it := itOf_loc hTR
  have e6 := kLc_filter (env := [some (.loc p), some (.loc R), b2, b3, some (.loc c), some (.loc S.length), b6, b7, none]) (i := 8) (c := dBool (dOp (inW true) (dVar 8) (dVar 4))) (e := dVar 8) (st := T) (src := some R) tW tW (fun l => !decide (l ∈ C)) ROWL (by simpa using hTR)
    (fun l hl => by
      have i1 := in_txts (neg := true) (x := l) hTc
      simp only [if_true] at i1
      refine ⟨?_, fun _ => ?_⟩
      · simp -implicitDefEqProofs only [List.set_cons_succ, List.set_cons_zero, dBool_ap, dOp_ap, dVar_ap, List.getElem?_cons_zero, List.getElem?_cons_succ, Res.bind_ok, kOp1_ap, i1, kBool_ap]
      · simp -implicitDefEqProofs only [List.set_cons_succ, List.set_cons_zero, dVar_ap, List.getElem?_cons_zero, List.getElem?_cons_succ]) (by rw [ROWL_len]; exact line8 (by decide))
  rw [hf] at e6
  obtain ⟨U, hU⟩ : ∃ U, U = T ++ [Ob.lst ((ROWL.getD i [] :: r).map tW)] := ⟨_, rfl⟩
  rw [← hU] at e6
  have hU0 : U[T.length]? = some (.lst ((ROWL.getD i [] :: r).map tW)) := by rw [hU]; simp
  have x0 : ixW (.loc T.length) (.int 0) U = .ok (tW (ROWL.getD i [])) U := ix_tW hU0 (i := 0) (by simp)
  have hUh : U[S.length]? = some (.lst (C.map tW)) := by rw [hU]; exact get_app _ hTh
  have hUc : U[c]? = some (.lst (C.map tW)) := by rw [hU]; exact get_app _ hTc
  have bt := but_ok hUh h1 h2 h3
  have hok : okS (txt (ROWL.getD i [])) = true := by
    have hm : ROWL.getD i [] ∈ ROWL := by
      have hl : i < ROWL.length := by rw [ROWL_len]; exact h1
      rw [List.getD_eq_getElem?_getD, List.getElem?_eq_getElem hl]; exact List.getElem_mem hl
    obtain ⟨c1, c2⟩ := ROWL_in _ hm
    exact ok_t c1 (by omega)
  have sm : d__law_same 8 [tW (ROWL.getD i []), tW (ROWL.getD i [])] U = .ok (.bl true) U := same_s hok
  have ne1 : neW (.loc S.length) (.loc c) U = .ok (.bl false) U := by
    have p1 := txts_pic hUh (by omega) ho
    have p2 := txts_pic hUc (by omega) ho
    rw [pic_ne p1 p2, p1.refl]; rfl
  have ne2 : neW (tW (ROWL.getD i [])) (tW (ROWL.getD i [])) U = .ok (.bl false) U := by
    have := neW_str (st := U) hok hok
    rw [beq_self_eq_true] at this
    exact this
  refine ⟨some (.loc S.length), some (tW (ROWL.getD i [])), U, ?_, by rw [hU, hT]; exact (h.app _).app _, by rw [hU, hT]; exact (Ext.app _).trans (.app _)⟩
  unfold uS5 uS6 uS7
  simp -implicitDefEqProofs only [sSeq_ap, sAsg_ap, dApp_ap, dCons_ap, dVar_ap, dNil_ap, List.getElem?_cons_zero, List.getElem?_cons_succ, Res.bind_ok, kCons1_ap, kCons2_ap, e5, Res.then_ok, kAsg_n, List.set_cons_succ, List.set_cons_zero, RsS.next_nx, dOp_ap, dLc_ap, dIt_ap, it, wipeW]
  rw [e6]
  simp -implicitDefEqProofs only [Res.bind_ok, kOp1_ap, dC_ap, x0, Res.then_ok, kAsg_n, List.set_cons_succ, List.set_cons_zero, RsS.next_nx, sIf_ap, dOr_ap, dNot_ap, dBool_ap, dCall_ap, dCons_ap, dVar_ap, dNil_ap, List.getElem?_cons_zero, List.getElem?_cons_succ, kCons1_ap, kCons2_ap, kCall_1, kCall_2, bt, sm, kBool_ap, kNot_ap, Bool.not_true, kOr_f, dOp_ap, ne1, ne2, kSIf_f, sNil_ap]
theorem ROWL_inj : ∀ i, i < 72 → ∀ j, j < 72 → ROWL.getD i [] = ROWL.getD j [] → i = j := by decide +kernel
/-- some of the row is left -/
theorem row_left {A x C : List (List Nat)} {y : List Nat} (hA : ∀ l ∈ A, ∃ i, i < 39 ∧ l = ROWL.getD i []) (hx : ∀ z ∈ x, z = y ∨ z = [42]) (hC : ∀ l, l ∈ C → l ∈ A ++ x) : ∃ i, i < 72 ∧ ROWL.getD i [] ∉ C := by
  have inj : ∀ i j, i < 72 → j < 72 → ROWL.getD i [] = ROWL.getD j [] → i = j := fun i j hi hj e => ROWL_inj i hi j hj e
  have st : ∀ i, i < 72 → ROWL.getD i [] ≠ [42] := fun i hi e => by
    have hi' : i < ROWL.length := by rw [ROWL_len]; exact hi
    refine ROWL_star ?_
    rw [← e, List.getD_eq_getElem?_getD, List.getElem?_eq_getElem hi']
    exact List.getElem_mem hi'
  have key : ∀ i, 39 ≤ i → i < 72 → ROWL.getD i [] ∈ C → ROWL.getD i [] = y := fun i h1 h2 hm => by
    rcases List.mem_append.mp (hC _ hm) with h | h
    · obtain ⟨j, hj, e⟩ := hA _ h
      have := inj i j h2 (by omega) e
      omega
    · rcases hx _ h with h | h
      · exact h
      · exact absurd h (st i h2)
  by_cases h39 : ROWL.getD 39 [] ∈ C
  · refine ⟨40, by decide, fun h40 => ?_⟩
    have e1 := key 39 (by decide) (by decide) h39
    have e2 := key 40 (by decide) (by decide) h40
    have := inj 39 40 (by decide) (by decide) (e1.trans e2.symm)
    omega
  · exact ⟨39, by decide, h39⟩
theorem uB_ok (h : PotA p n S) (hn : n ≤ 800000) (hR : S[R]? = some (.lst (ROWL.map tW))) (hRp : R ≠ p) : ∃ (b3' b4' b5' b6' : Option W) (S' : Store), uB [some (.loc p), some (.loc R), b2, b3, b4, b5, b6, b7, b8] S = .go .nx [some (.loc p), some (.loc R), b2, b3', b4', b5', b6', b7, b8] S' ∧ PotA p (n + 100) S' ∧ Ext p S S' := by
  obtain ⟨xs, q, s1, e1, hq, hqp, P1, X1⟩ := u1_ok (R := R) (b2 := b2) (b3 := b3) (b4 := b4) (b5 := b5) (b6 := b6) (b7 := b7) (b8 := b8) h (by omega)
  obtain ⟨A, a, s2, e2, ha, hap, hA, hAr, P2, X2⟩ := u2_ok (b2 := b2) (b4 := b4) (b5 := b5) (b6 := b6) (b7 := b7) (b8 := b8) P1 (by omega) (X1.get hR hRp) hRp hq hqp
  obtain ⟨B, x, b, s3, e3, hb, hbp, hB, hx, ⟨y, hy, hxy⟩, P3, X3⟩ := u3_ok (R := R) (b2 := b2) (b3 := some (.loc q)) (b5 := b5) (b6 := b6) (b7 := b7) (b8 := b8) P2 (by omega) ha hap hA
  obtain ⟨C, c, s4, e4, hc, hcp, hC, P4, X4⟩ := u4_ok (R := R) (b2 := b2) (b3 := some (.loc q)) (b5 := b5) (b6 := b6) (b7 := b7) (b8 := b8) P3 (by omega) hb hbp
  have X : Ext p S s4 := ((X1.trans X2).trans X3).trans X4
  have hCm : ∀ l, l ∈ C → l ∈ A ++ x := fun l hl => by
    rw [← hB]
    rcases hC with rfl | rfl
    · exact hl
    · exact List.mem_reverse.mp hl
  have hCl : C.length ≤ 100 := by
    have : C.length = B.length := by rcases hC with rfl | rfl <;> simp
    rw [this, hB, List.length_append]; omega
  have hCo : ∀ l ∈ C, okS (txt l) = true := fun l hl => by
    rcases List.mem_append.mp (hCm l hl) with h | h
    · obtain ⟨i, hi, rfl⟩ := hAr l h
      have hl : i < ROWL.length := by rw [ROWL_len]; omega
      have hm : ROWL.getD i [] ∈ ROWL := by
        rw [List.getD_eq_getElem?_getD, List.getElem?_eq_getElem hl]; exact List.getElem_mem hl
      obtain ⟨c1, c2⟩ := ROWL_in _ hm
      exact ok_t c1 (by omega)
    · rcases hxy l h with rfl | rfl
      · exact hy.okS
      · decide +kernel
  obtain ⟨b5', b6', s5, e5, P5, X5⟩ := u57_ok (b2 := b2) (b3 := some (.loc q)) (b5 := b5) (b6 := b6) (b7 := b7) (b8 := b8) P4 (X.get hR hRp) hc hCl hCo (row_left hAr hxy hCm)
  refine ⟨some (.loc q), some (.loc c), b5', b6', s5, ?_, P5.mono (by omega), X.trans X5⟩
  unfold uB
  rw [sSeq_ap, e1, RsS.next_nx, sSeq_ap, e2, RsS.next_nx, sSeq_ap, e3, RsS.next_nx, sSeq_ap, e4, RsS.next_nx, e5]
end
end
end K03
namespace K03
open PySem PySem.Spec PyProof.Rows L2 MP
open Classical
noncomputable section
theorem row_ok {st : Store} : d__law_first_labels [] st = .ok (.loc st.length) (st ++ [.lst (ROWL.map tW)]) := by
  have hE : EN.length = 36 := by decide +kernel
  have hal : ("0123456789abcdefghijklmnopqrstuvwxyz" : Str) = AL := rfl
  have e1 : listAW [.str AL] st = .ok (.loc st.length) (st ++ [.lst ((EN.map fun c => [c]).map tW)]) := by
    have hz : AL.length ≤ sizeLine := by decide +kernel
    have es : MP.signs AL = (EN.map fun c => [c]).map tW := by
      rw [List.map_map, ← al_en]; rfl
    unfold listAW
    simp only [if_pos hz, es]
  obtain ⟨T, hT⟩ : ∃ T, T = st ++ [Ob.lst ((EN.map fun c => [c]).map tW)] := ⟨_, rfl⟩
  rw [← hT] at e1
  have e2 := kLc_mapB (env := [some (.str AL), none]) (i := 1) (e := dOp addW (dC (.str "0")) (dVar 1)) (st := T) (src := none) (fun c : Nat => W.str ⟨#[c]⟩) (fun c : Nat => tW [48, c]) EN (by simp)
    (fun c hc => by
      have : addW (.str "0") (.str ⟨#[c]⟩) T = .ok (tW [48, c]) T := by
        rw [addW_s (Nat.le_trans (show ("0" : Str).length + (⟨#[c]⟩ : Str).length ≤ 2 from Nat.le_refl _) (by decide))]
        congr 2
      simp -implicitDefEqProofs only [List.set_cons_succ, List.set_cons_zero, dOp_ap, dC_ap, dVar_ap, List.getElem?_cons_zero, List.getElem?_cons_succ, Res.bind_ok, kOp1_ap, this]) (by rw [hE]; decide)
  have es : MP.signs AL = EN.map fun c : Nat => W.str ⟨#[c]⟩ := by rw [← al_en]; rfl
  rw [← es] at e2
  have g1 : (T ++ [Ob.lst (EN.map fun c : Nat => tW [48, c])])[st.length]? = some (.lst ((EN.map fun c => [c]).map tW)) := by
    rw [hT]; simp
  have g2 : (T ++ [Ob.lst (EN.map fun c : Nat => tW [48, c])])[T.length]? = some (.lst (EN.map fun c : Nat => tW [48, c])) := by simp
  have ad := addW_l g1 g2 (by simp [hE])
  have eR : (EN.map fun c => [c]).map tW ++ (EN.map fun c : Nat => tW [48, c]) = ROWL.map tW := by
    unfold ROWL
    rw [List.map_append, List.map_map (g := tW) (f := fun c : Nat => [48, c])]; rfl
  rw [eR] at ad
  obtain ⟨U, hU⟩ : ∃ U, U = T ++ [Ob.lst (EN.map fun c : Nat => tW [48, c])] := ⟨_, rfl⟩
  rw [← hU] at e2 ad
  have hcl : clBs st.length (ROWL.map tW) = true := by
    have : ∀ l : List (List Nat), clBs st.length (l.map tW) = true := fun l => by
      induction l with
      | nil => rfl
      | cons a l ih => simpa [clBs, clB, tW] using ih
    exact this _
  have hg : gc st (.loc U.length) (U ++ [.lst (ROWL.map tW)]) = .ok (.loc st.length) (st ++ [.lst (ROWL.map tW)]) := by
    have hs : U ++ [Ob.lst (ROWL.map tW)] = st ++ ([Ob.lst ((EN.map fun c => [c]).map tW)] ++ [Ob.lst (EN.map fun c : Nat => tW [48, c])] ++ [Ob.lst (ROWL.map tW)]) := by rw [hU, hT]; simp
    have hm : (U ++ [Ob.lst (ROWL.map tW)])[U.length]? = some (.lst (ROWL.map tW)) := by simp
    rw [hs] at hm ⊢
    exact gc_newA (by rw [hU, hT]; simp) hm hcl
  unfold d__law_first_labels; rw [fnDen_ap]; unfold b__law_first_labels
  rw [hal]
  simp -implicitDefEqProofs only [sSeq_ap, sAsg_ap, dC_ap, Res.then_ok, kAsg_n, List.map_nil, List.length_nil, Nat.reduceSub, List.replicate_succ, List.replicate_zero, List.nil_append, List.set_cons_zero, RsS.next_nx, sRet_ap, dOp_ap, dApp_ap, dCons_ap, dVar_ap, List.getElem?_cons_zero, List.getElem?_cons_succ, Res.bind_ok, kCons1_ap, dNil_ap, kCons2_ap, e1, kOp1_ap, dLc_ap, dIt_ap, itOf_str, wipeW, List.set_cons_succ]
  rw [e2]
  simp -implicitDefEqProofs only [Res.bind_ok, ad, Res.then_ok, kRet_ap, fnR_rt, hg]
theorem buts_ok {p n : Nat} {st : Store} (h : PotA p n st) (hn : n ≤ 700000) : ∃ st', d__law_but_right [.loc p] st = .ok (.bl true) st' ∧ PotA p (n + 1000) st' ∧ Kp p st st' := by
  have hl := h.lt
  obtain ⟨T, hT⟩ : ∃ T, T = st ++ [Ob.lst (ROWL.map tW)] := ⟨_, rfl⟩
  have e0 := row_ok (st := st)
  rw [← hT] at e0
  have hTR : T[st.length]? = some (.lst (ROWL.map tW)) := by rw [hT]; simp
  have PT : PotA p n T := by rw [hT]; exact h.app _
  have hr := kR1_ok (st := T) (j := 4) (by decide) (by decide)
  obtain ⟨env', S, e, ⟨c2, c3, c4, c5, c6, rfl⟩, P, X⟩ := forW_ok (chk := (ItW.mk (intsW 0 (4 : Int).toNat) none).Chk) (t := tName 2) (b := uB)
    (fun i env S => (∃ c2 c3 c4 c5 c6, env = [some (.loc p), some (.loc st.length), c2, c3, c4, c5, c6, none, none]) ∧ PotA p (n + 100 * i) S ∧ Ext p T S) (fun _ _ _ _ => by simp) (intsW 0 (4 : Int).toNat) 0 [some (.loc p), some (.loc st.length), none, none, none, none, none, none, none] T
    (fun j w env S hw hI => by
      obtain ⟨⟨c2, c3, c4, c5, c6, rfl⟩, P, X⟩ := hI
      rw [Nat.zero_add] at P ⊢
      have hj : j < 4 := (ints_get hw).1
      obtain ⟨b3, b4, b5, b6, S', e, P', X'⟩ := uB_ok (b2 := some w) (b3 := c3) (b4 := c4) (b5 := c5) (b6 := c6) (b7 := none) (b8 := none) P (by omega) (X.get hTR (by omega)) (by omega)
      exact ⟨_, _, _, S', rfl, e, ⟨some w, b3, b4, b5, b6, rfl⟩, P'.mono (by omega), X.trans X'⟩) ⟨⟨none, none, none, none, none, rfl⟩, by simpa using PT, .refl⟩
  have XU : Ext p st S := by
    have x0 : Ext p st T := by rw [hT]; exact .app _
    exact x0.trans X
  have hlen : (intsW 0 (4 : Int).toNat).length = 4 := rfl
  rw [hlen] at P
  obtain ⟨G1, G2, G3⟩ := gc_pot (v := .bl true) XU P hl rfl
  refine ⟨_, ?_, G3.mono (by omega), G2⟩
  unfold d__law_but_right; rw [fnDen_ap, but_eq]
  simp -implicitDefEqProofs only [sSeq_ap (a := sAsg _ _), sAsg_ap, dCall_ap, dNil_ap, Res.bind_ok, kCall, List.length_nil, if_true, e0, Res.then_ok, kAsg_n, List.map_cons, List.map_nil, List.length_cons, Nat.reduceAdd, Nat.reduceSub, List.replicate_succ, List.replicate_zero, List.cons_append, List.nil_append, List.set_cons_succ, List.set_cons_zero, RsS.next_nx]
  rw [sSeq_ap, sFor_ap]
  simp -implicitDefEqProofs only [dRange1_ap, dCons_ap, dC_ap, dNil_ap, Res.bind_ok, kCons1_ap, kCons2_ap, hr, Res.then_ok, kFor]
  rw [e]
  simp -implicitDefEqProofs only [RsS.next_nx, sRet_ap, dC_ap, Res.then_ok, kRet_ap, fnR_rt, G1]
/-! the law -/
def wB : DS := (sSeq (sAsg (dCall 2 d__law_pot (dCons (dVar 0) (dCons (dVar 1) dNil))) (tName 2))
    (sSeq (sIf (dOr (dNot (dBool (dCall 2 d__law_counts_right (dCons (dVar 2) (dCons (dOp eqW (dVar 1) (dC (.int 0))) dNil))))) (dNot (dBool (dCall 1 d__law_indexes_right (dCons (dVar 2) dNil)))))
    (sRet (dC (.bl false)))
    sNil)
    (sIf (dOr (dNot (dBool (dCall 1 d__law_but_right (dCons (dVar 2) dNil)))) (dNot (dBool (dCall 1 d__law_refusals_right (dCons (dVar 2) dNil)))))
    (sRet (dC (.bl false)))
    sNil)))
theorem law_eq : b_law = sSeq (sFor (dRange1 (dCons (dApp maxW (dCons (dC (.int 1)) (dCons (dApp minW (dCons (dC (.int 3)) (dCons (dApp lenW (dCons (dVar 0) dNil)) dNil))) dNil))) dNil)) (tName 1) wB) (sRet (dC (.bl true))) := rfl
theorem law_true (ns : List Int) (hl : ns.length ≤ 63) (hb : ∀ z ∈ ns, Builtin.Int.intBits z ≤ 1048576) : d_law [.fro (ns.map W.int)] [] = .ok (.bl true) [] := by
  have hlen : lenW [.fro (ns.map W.int)] [] = .ok (.int (ns.length : Int)) [] := by rw [len_seq (ws := ns.map W.int) rfl]; simp
  obtain ⟨m, hm, m0, m1⟩ : ∃ m : Int, (if (ns.length : Int) < 3 then (ns.length : Int) else 3) = m ∧ 0 ≤ m ∧ m ≤ 3 := by
    by_cases z : (ns.length : Int) < 3
    · exact ⟨ns.length, if_pos z, by omega, by omega⟩
    · exact ⟨3, if_neg z, by decide, by decide⟩
  obtain ⟨q, hq, q0, q1⟩ : ∃ q : Int, (if m > 1 then m else 1) = q ∧ 0 ≤ q ∧ q ≤ 3 := by
    by_cases z : m > 1
    · exact ⟨m, if_pos z, by omega, by omega⟩
    · exact ⟨1, if_neg z, by decide, by decide⟩
  have hmin : minW [.int 3, .int (ns.length : Int)] [] = .ok (.int m) [] := by rw [minW_i, hm]
  have hmax : maxW [.int 1, .int m] [] = .ok (.int q) [] := by rw [maxW_i, hq]
  have hr := kR1_ok (st := []) (j := q) (Int.le_trans (by decide) q0) (Int.lt_of_le_of_lt q1 (by decide))
  obtain ⟨env', S', e, a, b, rfl⟩ := forW_ok (chk := (ItW.mk (intsW 0 q.toNat) none).Chk) (t := tName 1) (b := wB)
    (fun i env S => ∃ a b, env = [some (.fro (ns.map W.int)), a, b]) (fun _ _ _ _ => by simp) (intsW 0 q.toNat) 0 [some (.fro (ns.map W.int)), none, none] []
    (fun j w env S hw hI => by
      obtain ⟨a, b, rfl⟩ := hI
      obtain ⟨hj, rfl⟩ := ints_get hw
      obtain ⟨s1, e1, P1, _⟩ := pot_ok (st := S) (i := 0 + (j : Nat)) hl (by omega) (by omega)
      obtain ⟨s2, e2, P2, _⟩ := counts_ok (wh := (0 + (j : Int)) == 0) P1 (by omega)
      obtain ⟨s3, e3, P3, _⟩ := indexes_ok P2 (by omega)
      obtain ⟨s4, e4, P4, _⟩ := buts_ok P3 (by omega)
      obtain ⟨s5, e5, P5, _⟩ := refusals_ok P4 (by omega)
      refine ⟨_, _, [some (.fro (ns.map W.int)), some (.int (0 + (j : Nat))), some (.loc S.length)], s5, rfl, ?_, _, _, rfl⟩
      unfold wB
      simp -implicitDefEqProofs only [sSeq_ap, sAsg_ap, dCall_ap, dCons_ap, dVar_ap, List.set_cons_succ, List.set_cons_zero, List.getElem?_cons_zero, List.getElem?_cons_succ, Res.bind_ok, kCons1_ap, dNil_ap, kCons2_ap, kCall_2, e1, Res.then_ok, kAsg_n, RsS.next_nx, sIf_ap, dOr_ap, dNot_ap, dBool_ap, dOp_ap, dC_ap, kOp1_ap, eqW_int, kCall_1, e2, kBool_ap, kNot_ap, Bool.not_true, kOr_f, e3, e4, e5, kSIf_f, sNil_ap]) ⟨none, none, rfl⟩
  have hg : gc [] (.bl true) S' = .ok (.bl true) [] := by
    have := gcx_ok (p := 0) (st := []) (st' := S') (v := .bl true) ⟨Nat.zero_le _, fun i hi _ => absurd hi (Nat.not_lt_zero _)⟩ (fun o hp _ => absurd hp (Nat.not_lt_zero _)) rfl
    exact this
  unfold d_law; rw [fnDen_ap, law_eq]
  simp -implicitDefEqProofs only [sSeq_ap, sFor_ap, dRange1_ap, dCons_ap, dApp_ap, dC_ap, dVar_ap, List.map_cons, List.map_nil, List.length_cons, List.length_nil, Nat.reduceAdd, Nat.reduceSub, List.replicate_succ, List.replicate_zero, List.cons_append, List.nil_append, List.getElem?_cons_zero, dNil_ap, Res.bind_ok, kCons1_ap, kCons2_ap, hlen, hmin, hmax, hr, Res.then_ok, kFor]
  rw [e]
  simp -implicitDefEqProofs only [RsS.next_nx, sRet_ap, dC_ap, Res.then_ok, kRet_ap, fnR_rt, hg]
end
end K03
namespace K03
open PySem PySem.Spec PyProof.Rows L2 MP
noncomputable section
theorem all_mk {P : Program} {w : World} {K : PySem.W.Frag} {h : Heap} {mg : Str → Option Value} {fa : Addr} (X : K.In h) (G : h.Ns mainGlobals mg) (hfa : mg "law" = some (.ref fa))
    {fd0 : Addr} {odd0 and0 : Option Addr} {sld0 : Array (Option Value)} {ocd0 kVd0 dcd0 pmd0 cdd0 ctd0 : Value}
    {fd1 : Addr} {odd1 and1 : Option Addr} {sld1 : Array (Option Value)} {ocd1 kVd1 dcd1 pmd1 cdd1 ctd1 : Value}
    {fd2 : Addr} {odd2 and2 : Option Addr} {sld2 : Array (Option Value)} {ocd2 kVd2 dcd2 pmd2 cdd2 ctd2 : Value}
    {fd3 : Addr} {odd3 and3 : Option Addr} {sld3 : Array (Option Value)} {ocd3 kVd3 dcd3 pmd3 cdd3 ctd3 : Value}
    {fd4 : Addr} {odd4 and4 : Option Addr} {sld4 : Array (Option Value)} {ocd4 kVd4 dcd4 pmd4 cdd4 ctd4 : Value}
    {fd5 : Addr} {odd5 and5 : Option Addr} {sld5 : Array (Option Value)} {ocd5 kVd5 dcd5 pmd5 cdd5 ctd5 : Value}
    {fd6 : Addr} {odd6 and6 : Option Addr} {sld6 : Array (Option Value)} {ocd6 kVd6 dcd6 pmd6 cdd6 ctd6 : Value}
    {fd7 : Addr} {odd7 and7 : Option Addr} {sld7 : Array (Option Value)} {ocd7 kVd7 dcd7 pmd7 cdd7 ctd7 : Value}
    {fd8 : Addr} {odd8 and8 : Option Addr} {sld8 : Array (Option Value)} {ocd8 kVd8 dcd8 pmd8 cdd8 ctd8 : Value}
    {fd9 : Addr} {odd9 and9 : Option Addr} {sld9 : Array (Option Value)} {ocd9 kVd9 dcd9 pmd9 cdd9 ctd9 : Value}
    {fd10 : Addr} {odd10 and10 : Option Addr} {sld10 : Array (Option Value)} {ocd10 kVd10 dcd10 pmd10 cdd10 ctd10 : Value}
    {fd11 : Addr} {odd11 and11 : Option Addr} {sld11 : Array (Option Value)} {ocd11 kVd11 dcd11 pmd11 cdd11 ctd11 : Value}
    {fd12 : Addr} {odd12 and12 : Option Addr} {sld12 : Array (Option Value)} {ocd12 kVd12 dcd12 pmd12 cdd12 ctd12 : Value}
    {fd13 : Addr} {odd13 and13 : Option Addr} {sld13 : Array (Option Value)} {ocd13 kVd13 dcd13 pmd13 cdd13 ctd13 : Value}
    {fd14 : Addr} {odd14 and14 : Option Addr} {sld14 : Array (Option Value)} {ocd14 kVd14 dcd14 pmd14 cdd14 ctd14 : Value}
    {fd15 : Addr} {odd15 and15 : Option Addr} {sld15 : Array (Option Value)} {ocd15 kVd15 dcd15 pmd15 cdd15 ctd15 : Value}
    {fd16 : Addr} {odd16 and16 : Option Addr} {sld16 : Array (Option Value)} {ocd16 kVd16 dcd16 pmd16 cdd16 ctd16 : Value}
    {fd17 : Addr} {odd17 and17 : Option Addr} {sld17 : Array (Option Value)} {ocd17 kVd17 dcd17 pmd17 cdd17 ctd17 : Value}
    {fd18 : Addr} {odd18 and18 : Option Addr} {sld18 : Array (Option Value)} {ocd18 kVd18 dcd18 pmd18 cdd18 ctd18 : Value}
    {fd19 : Addr} {odd19 and19 : Option Addr} {sld19 : Array (Option Value)} {ocd19 kVd19 dcd19 pmd19 cdd19 ctd19 : Value}
    {fd20 : Addr} {odd20 and20 : Option Addr} {sld20 : Array (Option Value)} {ocd20 kVd20 dcd20 pmd20 cdd20 ctd20 : Value}
    {fd21 : Addr} {odd21 and21 : Option Addr} {sld21 : Array (Option Value)} {ocd21 kVd21 dcd21 pmd21 cdd21 ctd21 : Value}
    {fd22 : Addr} {odd22 and22 : Option Addr} {sld22 : Array (Option Value)} {ocd22 kVd22 dcd22 pmd22 cdd22 ctd22 : Value}
    {fd23 : Addr} {odd23 and23 : Option Addr} {sld23 : Array (Option Value)} {ocd23 kVd23 dcd23 pmd23 cdd23 ctd23 : Value}
    {fI : Addr}
    {C0 : Addr}
    {C1 : Addr}
    {C2 : Addr}
    {odI anI : Option Addr} {slI : Array (Option Value)} {ocI kVI dcI pmI cdI ctI : Value}
    {nmC0 : _} {qC0 : _} {NC0 : _} {bsC0 : _} {bmC0 : _} {snC0 : _} {subC0 : _} {abC0 : _} {colC0 : _} {ddC0 : _} {k0C0 : _} {k1C0 : _} {k2C0 : _} {k3C0 : _} {k5C0 : _}
    {nmC1 : _} {qC1 : _} {NC1 : _} {bsC1 : _} {bmC1 : _} {snC1 : _} {subC1 : _} {abC1 : _} {colC1 : _} {ddC1 : _} {k0C1 : _} {k1C1 : _} {k2C1 : _} {k3C1 : _} {k5C1 : _}
    {nmC2 : _} {qC2 : _} {NC2 : _} {bsC2 : _} {bmC2 : _} {snC2 : _} {subC2 : _} {abC2 : _} {colC2 : _} {ddC2 : _} {k0C2 : _} {k1C2 : _} {k2C2 : _} {k3C2 : _} {k5C2 : _}
    {tK_WILD : Tok}
    {tK_LONGEST : Tok}
    {tK_ENDS : Tok}
    {tK_INNER : Tok}
    (ad0 : PySem.W.nsIn K mainGlobals "rebuilt" = some (some (.ref fd0)))
    (ld0 : K.lookup fd0 = some ⟨ocd0, odd0, .func (PySem.W.fnOf "rebuilt" "rebuilt" (defArgs (top 5)) (defBody (top 5)) (defScope (top 5)) .none kVd0 dcd0 pmd0 and0 cdd0 ctd0), sld0⟩)
    (cd0 : PySem.W.codeIn K cdd0 "rebuilt" = true)
    (kd0 : PySem.W.keepIn K (.ref fd0) = true)
    (ad1 : PySem.W.nsIn K mainGlobals "is_label" = some (some (.ref fd1)))
    (ld1 : K.lookup fd1 = some ⟨ocd1, odd1, .func (PySem.W.fnOf "is_label" "is_label" (defArgs (top 11)) (defBody (top 11)) (defScope (top 11)) .none kVd1 dcd1 pmd1 and1 cdd1 ctd1), sld1⟩)
    (cd1 : PySem.W.codeIn K cdd1 "is_label" = true)
    (kd1 : PySem.W.keepIn K (.ref fd1) = true)
    (ad2 : PySem.W.nsIn K mainGlobals "_is_plain" = some (some (.ref fd2)))
    (ld2 : K.lookup fd2 = some ⟨ocd2, odd2, .func (PySem.W.fnOf "_is_plain" "_is_plain" (defArgs (top 12)) (defBody (top 12)) (defScope (top 12)) .none kVd2 dcd2 pmd2 and2 cdd2 ctd2), sld2⟩)
    (cd2 : PySem.W.codeIn K cdd2 "_is_plain" = true)
    (kd2 : PySem.W.keepIn K (.ref fd2) = true)
    (ad3 : PySem.W.nsIn K mainGlobals "labels_of" = some (some (.ref fd3)))
    (ld3 : K.lookup fd3 = some ⟨ocd3, odd3, .func (PySem.W.fnOf "labels_of" "labels_of" (defArgs (top 13)) (defBody (top 13)) (defScope (top 13)) .none kVd3 dcd3 pmd3 and3 cdd3 ctd3), sld3⟩)
    (cd3 : PySem.W.codeIn K cdd3 "labels_of" = true)
    (kd3 : PySem.W.keepIn K (.ref fd3) = true)
    (ad4 : PySem.W.nsIn K mainGlobals "names_of" = some (some (.ref fd4)))
    (ld4 : K.lookup fd4 = some ⟨ocd4, odd4, .func (PySem.W.fnOf "names_of" "names_of" (defArgs (top 14)) (defBody (top 14)) (defScope (top 14)) .none kVd4 dcd4 pmd4 and4 cdd4 ctd4), sld4⟩)
    (cd4 : PySem.W.codeIn K cdd4 "names_of" = true)
    (kd4 : PySem.W.keepIn K (.ref fd4) = true)
    (ad5 : PySem.W.nsIn K mainGlobals "numbers_of_names" = some (some (.ref fd5)))
    (ld5 : K.lookup fd5 = some ⟨ocd5, odd5, .func (PySem.W.fnOf "numbers_of_names" "numbers_of_names" (defArgs (top 15)) (defBody (top 15)) (defScope (top 15)) .none kVd5 dcd5 pmd5 and5 cdd5 ctd5), sld5⟩)
    (cd5 : PySem.W.codeIn K cdd5 "numbers_of_names" = true)
    (kd5 : PySem.W.keepIn K (.ref fd5) = true)
    (ad6 : PySem.W.nsIn K mainGlobals "nth_label" = some (some (.ref fd6)))
    (ld6 : K.lookup fd6 = some ⟨ocd6, odd6, .func (PySem.W.fnOf "nth_label" "nth_label" (defArgs (top 16)) (defBody (top 16)) (defScope (top 16)) .none kVd6 dcd6 pmd6 and6 cdd6 ctd6), sld6⟩)
    (cd6 : PySem.W.codeIn K cdd6 "nth_label" = true)
    (kd6 : PySem.W.keepIn K (.ref fd6) = true)
    (ad7 : PySem.W.nsIn K mainGlobals "_spelled" = some (some (.ref fd7)))
    (ld7 : K.lookup fd7 = some ⟨ocd7, odd7, .func (PySem.W.fnOf "_spelled" "_spelled" (defArgs (top 17)) (defBody (top 17)) (defScope (top 17)) .none kVd7 dcd7 pmd7 and7 cdd7 ctd7), sld7⟩)
    (cd7 : PySem.W.codeIn K cdd7 "_spelled" = true)
    (kd7 : PySem.W.keepIn K (.ref fd7) = true)
    (ad8 : PySem.W.nsIn K mainGlobals "label_index" = some (some (.ref fd8)))
    (ld8 : K.lookup fd8 = some ⟨ocd8, odd8, .func (PySem.W.fnOf "label_index" "label_index" (defArgs (top 18)) (defBody (top 18)) (defScope (top 18)) .none kVd8 dcd8 pmd8 and8 cdd8 ctd8), sld8⟩)
    (cd8 : PySem.W.codeIn K cdd8 "label_index" = true)
    (kd8 : PySem.W.keepIn K (.ref fd8) = true)
    (ad9 : PySem.W.nsIn K mainGlobals "label_but" = some (some (.ref fd9)))
    (ld9 : K.lookup fd9 = some ⟨ocd9, odd9, .func (PySem.W.fnOf "label_but" "label_but" (defArgs (top 19)) (defBody (top 19)) (defScope (top 19)) .none kVd9 dcd9 pmd9 and9 cdd9 ctd9), sld9⟩)
    (cd9 : PySem.W.codeIn K cdd9 "label_but" = true)
    (kd9 : PySem.W.keepIn K (.ref fd9) = true)
    (ad10 : PySem.W.nsIn K mainGlobals "_law_pot" = some (some (.ref fd10)))
    (ld10 : K.lookup fd10 = some ⟨ocd10, odd10, .func (PySem.W.fnOf "_law_pot" "_law_pot" (defArgs (top 21)) (defBody (top 21)) (defScope (top 21)) .none kVd10 dcd10 pmd10 and10 cdd10 ctd10), sld10⟩)
    (cd10 : PySem.W.codeIn K cdd10 "_law_pot" = true)
    (kd10 : PySem.W.keepIn K (.ref fd10) = true)
    (ad11 : PySem.W.nsIn K mainGlobals "_law_take" = some (some (.ref fd11)))
    (ld11 : K.lookup fd11 = some ⟨ocd11, odd11, .func (PySem.W.fnOf "_law_take" "_law_take" (defArgs (top 22)) (defBody (top 22)) (defScope (top 22)) .none kVd11 dcd11 pmd11 and11 cdd11 ctd11), sld11⟩)
    (cd11 : PySem.W.codeIn K cdd11 "_law_take" = true)
    (kd11 : PySem.W.keepIn K (.ref fd11) = true)
    (ad12 : PySem.W.nsIn K mainGlobals "_law_same" = some (some (.ref fd12)))
    (ld12 : K.lookup fd12 = some ⟨ocd12, odd12, .func (PySem.W.fnOf "_law_same" "_law_same" (defArgs (top 23)) (defBody (top 23)) (defScope (top 23)) .none kVd12 dcd12 pmd12 and12 cdd12 ctd12), sld12⟩)
    (cd12 : PySem.W.codeIn K cdd12 "_law_same" = true)
    (kd12 : PySem.W.keepIn K (.ref fd12) = true)
    (ad13 : PySem.W.nsIn K mainGlobals "_law_label" = some (some (.ref fd13)))
    (ld13 : K.lookup fd13 = some ⟨ocd13, odd13, .func (PySem.W.fnOf "_law_label" "_law_label" (defArgs (top 24)) (defBody (top 24)) (defScope (top 24)) .none kVd13 dcd13 pmd13 and13 cdd13 ctd13), sld13⟩)
    (cd13 : PySem.W.codeIn K cdd13 "_law_label" = true)
    (kd13 : PySem.W.keepIn K (.ref fd13) = true)
    (ad14 : PySem.W.nsIn K mainGlobals "_law_odd" = some (some (.ref fd14)))
    (ld14 : K.lookup fd14 = some ⟨ocd14, odd14, .func (PySem.W.fnOf "_law_odd" "_law_odd" (defArgs (top 25)) (defBody (top 25)) (defScope (top 25)) .none kVd14 dcd14 pmd14 and14 cdd14 ctd14), sld14⟩)
    (cd14 : PySem.W.codeIn K cdd14 "_law_odd" = true)
    (kd14 : PySem.W.keepIn K (.ref fd14) = true)
    (ad15 : PySem.W.nsIn K mainGlobals "_law_many" = some (some (.ref fd15)))
    (ld15 : K.lookup fd15 = some ⟨ocd15, odd15, .func (PySem.W.fnOf "_law_many" "_law_many" (defArgs (top 26)) (defBody (top 26)) (defScope (top 26)) .none kVd15 dcd15 pmd15 and15 cdd15 ctd15), sld15⟩)
    (cd15 : PySem.W.codeIn K cdd15 "_law_many" = true)
    (kd15 : PySem.W.keepIn K (.ref fd15) = true)
    (ad16 : PySem.W.nsIn K mainGlobals "_law_names_of" = some (some (.ref fd16)))
    (ld16 : K.lookup fd16 = some ⟨ocd16, odd16, .func (PySem.W.fnOf "_law_names_of" "_law_names_of" (defArgs (top 27)) (defBody (top 27)) (defScope (top 27)) .none kVd16 dcd16 pmd16 and16 cdd16 ctd16), sld16⟩)
    (cd16 : PySem.W.codeIn K cdd16 "_law_names_of" = true)
    (kd16 : PySem.W.keepIn K (.ref fd16) = true)
    (ad17 : PySem.W.nsIn K mainGlobals "_law_refused" = some (some (.ref fd17)))
    (ld17 : K.lookup fd17 = some ⟨ocd17, odd17, .func (PySem.W.fnOf "_law_refused" "_law_refused" (defArgs (top 28)) (defBody (top 28)) (defScope (top 28)) .none kVd17 dcd17 pmd17 and17 cdd17 ctd17), sld17⟩)
    (cd17 : PySem.W.codeIn K cdd17 "_law_refused" = true)
    (kd17 : PySem.W.keepIn K (.ref fd17) = true)
    (ad18 : PySem.W.nsIn K mainGlobals "_law_indexes_right" = some (some (.ref fd18)))
    (ld18 : K.lookup fd18 = some ⟨ocd18, odd18, .func (PySem.W.fnOf "_law_indexes_right" "_law_indexes_right" (defArgs (top 29)) (defBody (top 29)) (defScope (top 29)) .none kVd18 dcd18 pmd18 and18 cdd18 ctd18), sld18⟩)
    (cd18 : PySem.W.codeIn K cdd18 "_law_indexes_right" = true)
    (kd18 : PySem.W.keepIn K (.ref fd18) = true)
    (ad19 : PySem.W.nsIn K mainGlobals "_law_first_labels" = some (some (.ref fd19)))
    (ld19 : K.lookup fd19 = some ⟨ocd19, odd19, .func (PySem.W.fnOf "_law_first_labels" "_law_first_labels" (defArgs (top 30)) (defBody (top 30)) (defScope (top 30)) .none kVd19 dcd19 pmd19 and19 cdd19 ctd19), sld19⟩)
    (cd19 : PySem.W.codeIn K cdd19 "_law_first_labels" = true)
    (kd19 : PySem.W.keepIn K (.ref fd19) = true)
    (ad20 : PySem.W.nsIn K mainGlobals "_law_but_right" = some (some (.ref fd20)))
    (ld20 : K.lookup fd20 = some ⟨ocd20, odd20, .func (PySem.W.fnOf "_law_but_right" "_law_but_right" (defArgs (top 31)) (defBody (top 31)) (defScope (top 31)) .none kVd20 dcd20 pmd20 and20 cdd20 ctd20), sld20⟩)
    (cd20 : PySem.W.codeIn K cdd20 "_law_but_right" = true)
    (kd20 : PySem.W.keepIn K (.ref fd20) = true)
    (ad21 : PySem.W.nsIn K mainGlobals "_law_counts_right" = some (some (.ref fd21)))
    (ld21 : K.lookup fd21 = some ⟨ocd21, odd21, .func (PySem.W.fnOf "_law_counts_right" "_law_counts_right" (defArgs (top 32)) (defBody (top 32)) (defScope (top 32)) .none kVd21 dcd21 pmd21 and21 cdd21 ctd21), sld21⟩)
    (cd21 : PySem.W.codeIn K cdd21 "_law_counts_right" = true)
    (kd21 : PySem.W.keepIn K (.ref fd21) = true)
    (ad22 : PySem.W.nsIn K mainGlobals "_law_refusals_right" = some (some (.ref fd22)))
    (ld22 : K.lookup fd22 = some ⟨ocd22, odd22, .func (PySem.W.fnOf "_law_refusals_right" "_law_refusals_right" (defArgs (top 33)) (defBody (top 33)) (defScope (top 33)) .none kVd22 dcd22 pmd22 and22 cdd22 ctd22), sld22⟩)
    (cd22 : PySem.W.codeIn K cdd22 "_law_refusals_right" = true)
    (kd22 : PySem.W.keepIn K (.ref fd22) = true)
    (ad23 : PySem.W.nsIn K mainGlobals "law" = some (some (.ref fd23)))
    (ld23 : K.lookup fd23 = some ⟨ocd23, odd23, .func (PySem.W.fnOf "law" "law" (defArgs (top 34)) (defBody (top 34)) (defScope (top 34)) .none kVd23 dcd23 pmd23 and23 cdd23 ctd23), sld23⟩)
    (cd23 : PySem.W.codeIn K cdd23 "law" = true)
    (kd23 : PySem.W.keepIn K (.ref fd23) = true)
    (aC0 : PySem.W.nsIn K mainGlobals "TreeError" = some (some (.ref C0)))
    (iC0 : PySem.W.findIn K (.ref C0) "__init__" = some (some (.ref fI)))
    (aC1 : PySem.W.nsIn K mainGlobals "InvalidLabel" = some (some (.ref C1)))
    (iC1 : PySem.W.findIn K (.ref C1) "__init__" = some (some (.ref fI)))
    (aC2 : PySem.W.nsIn K mainGlobals "InvalidNumber" = some (some (.ref C2)))
    (iC2 : PySem.W.findIn K (.ref C2) "__init__" = some (some (.ref fI)))
    (lI : K.lookup fI = some ⟨ocI, odI, .func (PySem.W.fnOf "__init__" "TreeError.__init__" (defArgs (inClass (top 1) 0)) (defBody (inClass (top 1) 0)) (defScope (inClass (top 1) 0)) .none kVI dcI pmI anI cdI ctI), slI⟩)
    (cI : PySem.W.codeIn K cdI "TreeError.__init__" = true)
    (kI : PySem.W.keepIn K (.ref fI) = true)
    (yI : PySem.W.typeIn K (.ref fI) = some (.type "function"))
    (eC0 : K.lookup C0 = some (excClassObj nmC0 qC0 C0 NC0 bsC0 bmC0 true snC0 subC0 abC0 colC0 ddC0 k0C0 k1C0 k2C0 k3C0 k5C0 "ValueError.__new__"))
    (rC0 : PySem.HandSPX.refsVE bmC0 = true)
    (sC0 : PySem.W.findIn K (.ref C0) "__setattr__" = some (some (.builtin "object.__setattr__")))
    (xC0 : PySem.W.subIn K (.ref C0) (.type "BaseException") = some true)
    (yC0 : PySem.W.typeIn K (.ref C0) = some (.type "type"))
    (kC0 : PySem.W.keepIn K (.ref C0) = true)
    (vC0 : PySem.W.findIn K (.ref C0) "value" = some none)
    (gC0 : PySem.W.findIn K (.ref C0) "__getattribute__" = some (some (.builtin "BaseException.__getattribute__")))
    (hC0 : PySem.W.findIn K (.ref C0) "__getattr__" = some none)
    (dC0 : PySem.W.hasDictIn K C0 = true)
    (eC1 : K.lookup C1 = some (excClassObj nmC1 qC1 C1 NC1 bsC1 bmC1 true snC1 subC1 abC1 colC1 ddC1 k0C1 k1C1 k2C1 k3C1 k5C1 "ValueError.__new__"))
    (rC1 : PySem.HandSPX.refsVE bmC1 = true)
    (sC1 : PySem.W.findIn K (.ref C1) "__setattr__" = some (some (.builtin "object.__setattr__")))
    (xC1 : PySem.W.subIn K (.ref C1) (.type "BaseException") = some true)
    (yC1 : PySem.W.typeIn K (.ref C1) = some (.type "type"))
    (kC1 : PySem.W.keepIn K (.ref C1) = true)
    (vC1 : PySem.W.findIn K (.ref C1) "value" = some none)
    (gC1 : PySem.W.findIn K (.ref C1) "__getattribute__" = some (some (.builtin "BaseException.__getattribute__")))
    (hC1 : PySem.W.findIn K (.ref C1) "__getattr__" = some none)
    (dC1 : PySem.W.hasDictIn K C1 = true)
    (eC2 : K.lookup C2 = some (excClassObj nmC2 qC2 C2 NC2 bsC2 bmC2 true snC2 subC2 abC2 colC2 ddC2 k0C2 k1C2 k2C2 k3C2 k5C2 "ValueError.__new__"))
    (rC2 : PySem.HandSPX.refsVE bmC2 = true)
    (sC2 : PySem.W.findIn K (.ref C2) "__setattr__" = some (some (.builtin "object.__setattr__")))
    (xC2 : PySem.W.subIn K (.ref C2) (.type "BaseException") = some true)
    (yC2 : PySem.W.typeIn K (.ref C2) = some (.type "type"))
    (kC2 : PySem.W.keepIn K (.ref C2) = true)
    (vC2 : PySem.W.findIn K (.ref C2) "value" = some none)
    (gC2 : PySem.W.findIn K (.ref C2) "__getattribute__" = some (some (.builtin "BaseException.__getattribute__")))
    (hC2 : PySem.W.findIn K (.ref C2) "__getattr__" = some none)
    (dC2 : PySem.W.hasDictIn K C2 = true)
    (aK_WILD : PySem.W.nsIn K mainGlobals "WILD" = some (some (.str c_WILD tK_WILD)))
    (aK_LONGEST : PySem.W.nsIn K mainGlobals "LONGEST" = some (some (.int 20 tK_LONGEST)))
    (aK_ENDS : PySem.W.nsIn K mainGlobals "ENDS" = some (some (.str c_ENDS tK_ENDS)))
    (aK_INNER : PySem.W.nsIn K mainGlobals "INNER" = some (some (.str c_INNER tK_INNER)))
    (n_abs : PySem.W.nsIn K mainGlobals "abs" = some none)
    (n_all : PySem.W.nsIn K mainGlobals "all" = some none)
    (n_bool : PySem.W.nsIn K mainGlobals "bool" = some none)
    (n_divmod : PySem.W.nsIn K mainGlobals "divmod" = some none)
    (n_int : PySem.W.nsIn K mainGlobals "int" = some none)
    (n_isinstance : PySem.W.nsIn K mainGlobals "isinstance" = some none)
    (n_len : PySem.W.nsIn K mainGlobals "len" = some none)
    (n_list : PySem.W.nsIn K mainGlobals "list" = some none)
    (n_max : PySem.W.nsIn K mainGlobals "max" = some none)
    (n_min : PySem.W.nsIn K mainGlobals "min" = some none)
    (n_range : PySem.W.nsIn K mainGlobals "range" = some none)
    (n_str : PySem.W.nsIn K mainGlobals "str" = some none)
    (n_sum : PySem.W.nsIn K mainGlobals "sum" = some none)
    (n_tuple : PySem.W.nsIn K mainGlobals "tuple" = some none)
    (u_TreeError_InvalidLabel : PySem.W.subIn K (.ref C0) (.ref C1) = some false)
    (u_InvalidLabel_InvalidLabel : PySem.W.subIn K (.ref C1) (.ref C1) = some true)
    (u_InvalidNumber_InvalidLabel : PySem.W.subIn K (.ref C2) (.ref C1) = some false)
    (u_TreeError_InvalidNumber : PySem.W.subIn K (.ref C0) (.ref C2) = some false)
    (u_InvalidLabel_InvalidNumber : PySem.W.subIn K (.ref C1) (.ref C2) = some false)
    (u_InvalidNumber_InvalidNumber : PySem.W.subIn K (.ref C2) (.ref C2) = some true) :
    ∃ fd : FuncData, (∀ (s : Shared) (v : Value), BindsTo s fd ⟨[v], []⟩ [("_law_script", v)]) ∧ ∀ base : Heap, K.In base → base.Ns mainGlobals mg → FnOk P w K mg base (L2.CX P w) 12 fa fd ["_law_script"] (spLaw K) := by
  have e := hfa.symm.trans (PySem.W.mg_of X G ad23)
  cases e
  refine ⟨PySem.W.fnOf "law" "law" (defArgs (top 34)) (defBody (top 34)) (defScope (top 34)) .none kVd23 dcd23 pmd23 and23 cdd23 ctd23, fun s v => .of_eq rfl, fun base _ _ => ?_⟩
  have FI := fun_mk (st := inClass (top 1) 0) lI cI kI
  have OI : FnOk P w K mg base (L2.CX P w) 1 fI _ ["self", "value"] (spExc K) := exc_init_ok FI ⟨rfl, rfl, rfl, by decide +kernel, rfl, by decide +kernel, by decide +kernel⟩ rfl rfl rfl
  have BI := FI.binds (ps := ["self", "value"]) fun _ _ _ _ _ _ us hl => match us, hl with | [_, _], _ => rfl
  have XC0 : XfC K C0 := ⟨gC0, hC0, xC0, dC0⟩
  have EC0 : ErrC K mg "TreeError" C0 fI := ⟨⟨⟨_, _, _, _, _, _, _, _, _, _, _, _, _, _, _, eC0, rC0⟩, sC0, xC0, yC0, kC0⟩, PySem.W.mg_of X G aC0, iC0, yI, vC0, XC0⟩
  have XC1 : XfC K C1 := ⟨gC1, hC1, xC1, dC1⟩
  have EC1 : ErrC K mg "InvalidLabel" C1 fI := ⟨⟨⟨_, _, _, _, _, _, _, _, _, _, _, _, _, _, _, eC1, rC1⟩, sC1, xC1, yC1, kC1⟩, PySem.W.mg_of X G aC1, iC1, yI, vC1, XC1⟩
  have XC2 : XfC K C2 := ⟨gC2, hC2, xC2, dC2⟩
  have EC2 : ErrC K mg "InvalidNumber" C2 fI := ⟨⟨⟨_, _, _, _, _, _, _, _, _, _, _, _, _, _, _, eC2, rC2⟩, sC2, xC2, yC2, kC2⟩, PySem.W.mg_of X G aC2, iC2, yI, vC2, XC2⟩
  let T : Txt P w K mg base := {
    D_rebuilt := ⟨fd0, _, fun_mk (st := top 5) ld0 cd0 kd0, PySem.W.mg_of X G ad0, (fun_mk (st := top 5) ld0 cd0 kd0).binds (ps := ["value"]) fun _ _ _ _ _ _ us hl => match us, hl with | [_], _ => rfl⟩,
    D_is_label := ⟨fd1, _, fun_mk (st := top 11) ld1 cd1 kd1, PySem.W.mg_of X G ad1, (fun_mk (st := top 11) ld1 cd1 kd1).binds (ps := ["value"]) fun _ _ _ _ _ _ us hl => match us, hl with | [_], _ => rfl⟩,
    D__is_plain := ⟨fd2, _, fun_mk (st := top 12) ld2 cd2 kd2, PySem.W.mg_of X G ad2, (fun_mk (st := top 12) ld2 cd2 kd2).binds (ps := ["text"]) fun _ _ _ _ _ _ us hl => match us, hl with | [_], _ => rfl⟩,
    D_labels_of := ⟨fd3, _, fun_mk (st := top 13) ld3 cd3 kd3, PySem.W.mg_of X G ad3, (fun_mk (st := top 13) ld3 cd3 kd3).binds (ps := ["length"]) fun _ _ _ _ _ _ us hl => match us, hl with | [_], _ => rfl⟩,
    k_labels_of := fun s ws _ hl => match ws, hl with | [_], _ => .of_eq rfl,
    D_names_of := ⟨fd4, _, fun_mk (st := top 14) ld4 cd4 kd4, PySem.W.mg_of X G ad4, (fun_mk (st := top 14) ld4 cd4 kd4).binds (ps := ["size"]) fun _ _ _ _ _ _ us hl => match us, hl with | [_], _ => rfl⟩,
    k_names_of := fun s ws _ hl => match ws, hl with | [_], _ => .of_eq rfl,
    D_numbers_of_names := ⟨fd5, _, fun_mk (st := top 15) ld5 cd5 kd5, PySem.W.mg_of X G ad5, (fun_mk (st := top 15) ld5 cd5 kd5).binds (ps := ["most"]) fun _ _ _ _ _ _ us hl => match us, hl with | [_], _ => rfl⟩,
    D_nth_label := ⟨fd6, _, fun_mk (st := top 16) ld6 cd6 kd6, PySem.W.mg_of X G ad6, (fun_mk (st := top 16) ld6 cd6 kd6).binds (ps := ["index"]) fun _ _ _ _ _ _ us hl => match us, hl with | [_], _ => rfl⟩,
    k_nth_label := fun s ws _ hl => match ws, hl with | [_], _ => .of_eq rfl,
    D__spelled := ⟨fd7, _, fun_mk (st := top 17) ld7 cd7 kd7, PySem.W.mg_of X G ad7, (fun_mk (st := top 17) ld7 cd7 kd7).binds (ps := ["index", "length"]) fun _ _ _ _ _ _ us hl => match us, hl with | [_, _], _ => rfl⟩,
    D_label_index := ⟨fd8, _, fun_mk (st := top 18) ld8 cd8 kd8, PySem.W.mg_of X G ad8, (fun_mk (st := top 18) ld8 cd8 kd8).binds (ps := ["label"]) fun _ _ _ _ _ _ us hl => match us, hl with | [_], _ => rfl⟩,
    k_label_index := fun s ws _ hl => match ws, hl with | [_], _ => .of_eq rfl,
    D_label_but := ⟨fd9, _, fun_mk (st := top 19) ld9 cd9 kd9, PySem.W.mg_of X G ad9, (fun_mk (st := top 19) ld9 cd9 kd9).binds (ps := ["labels"]) fun _ _ _ _ _ _ us hl => match us, hl with | [_], _ => rfl⟩,
    k_label_but := fun s ws _ hl => match ws, hl with | [_], _ => .of_eq rfl,
    D__law_pot := ⟨fd10, _, fun_mk (st := top 21) ld10 cd10 kd10, PySem.W.mg_of X G ad10, (fun_mk (st := top 21) ld10 cd10 kd10).binds (ps := ["_law_script", "_law_k"]) fun _ _ _ _ _ _ us hl => match us, hl with | [_, _], _ => rfl⟩,
    D__law_take := ⟨fd11, _, fun_mk (st := top 22) ld11 cd11 kd11, PySem.W.mg_of X G ad11, (fun_mk (st := top 22) ld11 cd11 kd11).binds (ps := ["_law_pot_here", "_law_many_here"]) fun _ _ _ _ _ _ us hl => match us, hl with | [_, _], _ => rfl⟩,
    D__law_same := ⟨fd12, _, fun_mk (st := top 23) ld12 cd12 kd12, PySem.W.mg_of X G ad12, (fun_mk (st := top 23) ld12 cd12 kd12).binds (ps := ["_law_told", "_law_due"]) fun _ _ _ _ _ _ us hl => match us, hl with | [_, _], _ => rfl⟩,
    D__law_label := ⟨fd13, _, fun_mk (st := top 24) ld13 cd13 kd13, PySem.W.mg_of X G ad13, (fun_mk (st := top 24) ld13 cd13 kd13).binds (ps := ["_law_pot_here"]) fun _ _ _ _ _ _ us hl => match us, hl with | [_], _ => rfl⟩,
    D__law_odd := ⟨fd14, _, fun_mk (st := top 25) ld14 cd14 kd14, PySem.W.mg_of X G ad14, (fun_mk (st := top 25) ld14 cd14 kd14).binds (ps := ["_law_pot_here"]) fun _ _ _ _ _ _ us hl => match us, hl with | [_], _ => rfl⟩,
    D__law_many := ⟨fd15, _, fun_mk (st := top 26) ld15 cd15 kd15, PySem.W.mg_of X G ad15, (fun_mk (st := top 26) ld15 cd15 kd15).binds (ps := ["_law_length"]) fun _ _ _ _ _ _ us hl => match us, hl with | [_], _ => rfl⟩,
    D__law_names_of := ⟨fd16, _, fun_mk (st := top 27) ld16 cd16 kd16, PySem.W.mg_of X G ad16, (fun_mk (st := top 27) ld16 cd16 kd16).binds (ps := ["_law_most"]) fun _ _ _ _ _ _ us hl => match us, hl with | [_], _ => rfl⟩,
    D__law_refused := ⟨fd17, _, fun_mk (st := top 28) ld17 cd17 kd17, PySem.W.mg_of X G ad17, (fun_mk (st := top 28) ld17 cd17 kd17).binds (ps := ["_law_way", "_law_value"]) fun _ _ _ _ _ _ us hl => match us, hl with | [_, _], _ => rfl⟩,
    D__law_indexes_right := ⟨fd18, _, fun_mk (st := top 29) ld18 cd18 kd18, PySem.W.mg_of X G ad18, (fun_mk (st := top 29) ld18 cd18 kd18).binds (ps := ["_law_pot_here"]) fun _ _ _ _ _ _ us hl => match us, hl with | [_], _ => rfl⟩,
    D__law_first_labels := ⟨fd19, _, fun_mk (st := top 30) ld19 cd19 kd19, PySem.W.mg_of X G ad19, (fun_mk (st := top 30) ld19 cd19 kd19).binds (ps := []) fun _ _ _ _ _ _ us hl => match us, hl with | [], _ => rfl⟩,
    D__law_but_right := ⟨fd20, _, fun_mk (st := top 31) ld20 cd20 kd20, PySem.W.mg_of X G ad20, (fun_mk (st := top 31) ld20 cd20 kd20).binds (ps := ["_law_pot_here"]) fun _ _ _ _ _ _ us hl => match us, hl with | [_], _ => rfl⟩,
    D__law_counts_right := ⟨fd21, _, fun_mk (st := top 32) ld21 cd21 kd21, PySem.W.mg_of X G ad21, (fun_mk (st := top 32) ld21 cd21 kd21).binds (ps := ["_law_pot_here", "_law_whole"]) fun _ _ _ _ _ _ us hl => match us, hl with | [_, _], _ => rfl⟩,
    D__law_refusals_right := ⟨fd22, _, fun_mk (st := top 33) ld22 cd22 kd22, PySem.W.mg_of X G ad22, (fun_mk (st := top 33) ld22 cd22 kd22).binds (ps := ["_law_pot_here"]) fun _ _ _ _ _ _ us hl => match us, hl with | [_], _ => rfl⟩,
    D_law := ⟨fa, _, fun_mk (st := top 34) ld23 cd23 kd23, PySem.W.mg_of X G ad23, (fun_mk (st := top 34) ld23 cd23 kd23).binds (ps := ["_law_script"]) fun _ _ _ _ _ _ us hl => match us, hl with | [_], _ => rfl⟩,
    E_TreeError := ⟨C0, fI, _, EC0, OI, BI⟩,
    E_InvalidLabel := ⟨C1, fI, _, EC1, OI, BI⟩,
    E_InvalidNumber := ⟨C2, fI, _, EC2, OI, BI⟩,
    c_WILD := ⟨_, PySem.W.mg_of X G aK_WILD⟩,
    c_LONGEST := ⟨_, PySem.W.mg_of X G aK_LONGEST⟩,
    c_ENDS := ⟨_, PySem.W.mg_of X G aK_ENDS⟩,
    c_INNER := ⟨_, PySem.W.mg_of X G aK_INNER⟩,
    n_abs := PySem.W.mg_none_of X G n_abs,
    n_all := PySem.W.mg_none_of X G n_all,
    n_bool := PySem.W.mg_none_of X G n_bool,
    n_divmod := PySem.W.mg_none_of X G n_divmod,
    n_int := PySem.W.mg_none_of X G n_int,
    n_isinstance := PySem.W.mg_none_of X G n_isinstance,
    n_len := PySem.W.mg_none_of X G n_len,
    n_list := PySem.W.mg_none_of X G n_list,
    n_max := PySem.W.mg_none_of X G n_max,
    n_min := PySem.W.mg_none_of X G n_min,
    n_range := PySem.W.mg_none_of X G n_range,
    n_str := PySem.W.mg_none_of X G n_str,
    n_sum := PySem.W.mg_none_of X G n_sum,
    n_tuple := PySem.W.mg_none_of X G n_tuple,
    sub_InvalidLabel := mem_all (⟨⟨C0, EC0.mgC, PySem.W.exm_ref xC1 dC1 yC1 u_TreeError_InvalidLabel, XC0, vC0⟩, ⟨⟨C1, EC1.mgC, PySem.W.exm_ref xC1 dC1 yC1 u_InvalidLabel_InvalidLabel, XC1, vC1⟩, ⟨⟨C2, EC2.mgC, PySem.W.exm_ref xC1 dC1 yC1 u_InvalidNumber_InvalidLabel, XC2, vC2⟩, trivial⟩⟩⟩),
    sub_InvalidNumber := mem_all (⟨⟨C0, EC0.mgC, PySem.W.exm_ref xC2 dC2 yC2 u_TreeError_InvalidNumber, XC0, vC0⟩, ⟨⟨C1, EC1.mgC, PySem.W.exm_ref xC2 dC2 yC2 u_InvalidLabel_InvalidNumber, XC1, vC1⟩, ⟨⟨C2, EC2.mgC, PySem.W.exm_ref xC2 dC2 yC2 u_InvalidNumber_InvalidNumber, XC2, vC2⟩, trivial⟩⟩⟩) }
  exact law_end (fn_law T) law_true
theorem walk {l : PySem.W.OpenLaw} {q : Program} {loose : List Str} {XP : (Str → Option Value) → Heap → Prop} {YP : World → Heap → Prop} {d : DefRec} {K : Params → PySem.W.Frag} (hn : l.most = some 63) (hdf : d.params.defaults = [])
    (hY : ∀ (w : World) (h : Heap), YP w h → (K w.params).In h)
    (F : ∀ (w : World) (mg : Str → Option Value) (fa : Addr) (h : Heap), (K w.params).In h → h.Ns mainGlobals mg → mg d.name = some (.ref fa) →
      ∃ fd : FuncData, (∀ (s : Shared) (u : Value), BindsTo s fd ⟨[u], []⟩ [("_law_script", u)]) ∧ ∀ base : Heap, (K w.params).In base → base.Ns mainGlobals mg → FnOk l.prog w (K w.params) mg base (L2.CX l.prog w) 12 fa fd ["_law_script"] (spLaw (K w.params))) :
    PySem.W.WalkO q loose XP YP l.row.toRowW d [] (fun f vs => PySem.call f vs) :=
  L2.walk_ofB (n := 63) (k := 12) (x := "_law_script") (CX := fun w => L2.CX l.prog w) (sp := fun w => spLaw (K w.params)) hn (by decide) hdf ⟨rfl, by decide, by decide⟩ hY F (fun _ _ a ns hl hb hO hS => ⟨a, ns, rfl, hO, hS, hl, hb, fun _ => rfl⟩) (fun _ _ _ _ _ z => by obtain ⟨_, _, _, _, _, _, _, _, _, _, _, _, z⟩ := z; exact z.elim)
end
end K03
open PySem PySem.W PyProof.Rows
theorem PySem.Challenge.cw_rootward_k03_numbers_of_labels_and_names_holds : PySem.Challenge.rw_rootward_k03_numbers_of_labels_and_names.Holds := by
  w_on; o_law; k_head; (case hw => w_witness2)
  k_fill
  refine K03.walk (l := PySem.Challenge.rw_rootward_k03_numbers_of_labels_and_names) rfl rfl (fun w h Y => PySem.W.kIn_of Y) ?F
  case F =>
    intro w mg fa h KX G hmg
    refine' K03.all_mk KX G hmg ?ad0 ?ld0 ?cd0 ?kd0 ?ad1 ?ld1 ?cd1 ?kd1 ?ad2 ?ld2 ?cd2 ?kd2 ?ad3 ?ld3 ?cd3 ?kd3 ?ad4 ?ld4 ?cd4 ?kd4 ?ad5 ?ld5 ?cd5 ?kd5 ?ad6 ?ld6 ?cd6 ?kd6 ?ad7 ?ld7 ?cd7 ?kd7 ?ad8 ?ld8 ?cd8 ?kd8 ?ad9 ?ld9 ?cd9 ?kd9 ?ad10 ?ld10 ?cd10 ?kd10 ?ad11 ?ld11 ?cd11 ?kd11 ?ad12 ?ld12 ?cd12 ?kd12 ?ad13 ?ld13 ?cd13 ?kd13 ?ad14 ?ld14 ?cd14 ?kd14 ?ad15 ?ld15 ?cd15 ?kd15 ?ad16 ?ld16 ?cd16 ?kd16 ?ad17 ?ld17 ?cd17 ?kd17 ?ad18 ?ld18 ?cd18 ?kd18 ?ad19 ?ld19 ?cd19 ?kd19 ?ad20 ?ld20 ?cd20 ?kd20 ?ad21 ?ld21 ?cd21 ?kd21 ?ad22 ?ld22 ?cd22 ?kd22 ?ad23 ?ld23 ?cd23 ?kd23 ?aC0 ?iC0 ?aC1 ?iC1 ?aC2 ?iC2 ?lI ?cI ?kI ?yI ?eC0 ?rC0 ?sC0 ?xC0 ?yC0 ?kC0 ?vC0 ?gC0 ?hC0 ?dC0 ?eC1 ?rC1 ?sC1 ?xC1 ?yC1 ?kC1 ?vC1 ?gC1 ?hC1 ?dC1 ?eC2 ?rC2 ?sC2 ?xC2 ?yC2 ?kC2 ?vC2 ?gC2 ?hC2 ?dC2 ?aK_WILD ?aK_LONGEST ?aK_ENDS ?aK_INNER ?n_abs ?n_all ?n_bool ?n_divmod ?n_int ?n_isinstance ?n_len ?n_list ?n_max ?n_min ?n_range ?n_str ?n_sum ?n_tuple ?u_TreeError_InvalidLabel ?u_InvalidLabel_InvalidLabel ?u_InvalidNumber_InvalidLabel ?u_TreeError_InvalidNumber ?u_InvalidLabel_InvalidNumber ?u_InvalidNumber_InvalidNumber
    (case ad0 => k_is)
    (case ld0 => k_is)
    (case cd0 => k_is)
    (case kd0 => k_is)
    (case ad1 => k_is)
    (case ld1 => k_is)
    (case cd1 => k_is)
    (case kd1 => k_is)
    (case ad2 => k_is)
    (case ld2 => k_is)
    (case cd2 => k_is)
    (case kd2 => k_is)
    (case ad3 => k_is)
    (case ld3 => k_is)
    (case cd3 => k_is)
    (case kd3 => k_is)
    (case ad4 => k_is)
    (case ld4 => k_is)
    (case cd4 => k_is)
    (case kd4 => k_is)
    (case ad5 => k_is)
    (case ld5 => k_is)
    (case cd5 => k_is)
    (case kd5 => k_is)
    (case ad6 => k_is)
    (case ld6 => k_is)
    (case cd6 => k_is)
    (case kd6 => k_is)
    (case ad7 => k_is)
    (case ld7 => k_is)
    (case cd7 => k_is)
    (case kd7 => k_is)
    (case ad8 => k_is)
    (case ld8 => k_is)
    (case cd8 => k_is)
    (case kd8 => k_is)
    (case ad9 => k_is)
    (case ld9 => k_is)
    (case cd9 => k_is)
    (case kd9 => k_is)
    (case ad10 => k_is)
    (case ld10 => k_is)
    (case cd10 => k_is)
    (case kd10 => k_is)
    (case ad11 => k_is)
    (case ld11 => k_is)
    (case cd11 => k_is)
    (case kd11 => k_is)
    (case ad12 => k_is)
    (case ld12 => k_is)
    (case cd12 => k_is)
    (case kd12 => k_is)
    (case ad13 => k_is)
    (case ld13 => k_is)
    (case cd13 => k_is)
    (case kd13 => k_is)
    (case ad14 => k_is)
    (case ld14 => k_is)
    (case cd14 => k_is)
    (case kd14 => k_is)
    (case ad15 => k_is)
    (case ld15 => k_is)
    (case cd15 => k_is)
    (case kd15 => k_is)
    (case ad16 => k_is)
    (case ld16 => k_is)
    (case cd16 => k_is)
    (case kd16 => k_is)
    (case ad17 => k_is)
    (case ld17 => k_is)
    (case cd17 => k_is)
    (case kd17 => k_is)
    (case ad18 => k_is)
    (case ld18 => k_is)
    (case cd18 => k_is)
    (case kd18 => k_is)
    (case ad19 => k_is)
    (case ld19 => k_is)
    (case cd19 => k_is)
    (case kd19 => k_is)
    (case ad20 => k_is)
    (case ld20 => k_is)
    (case cd20 => k_is)
    (case kd20 => k_is)
    (case ad21 => k_is)
    (case ld21 => k_is)
    (case cd21 => k_is)
    (case kd21 => k_is)
    (case ad22 => k_is)
    (case ld22 => k_is)
    (case cd22 => k_is)
    (case kd22 => k_is)
    (case ad23 => k_is)
    (case ld23 => k_is)
    (case cd23 => k_is)
    (case kd23 => k_is)
    (case aC0 => k_is)
    (case iC0 => k_is)
    (case aC1 => k_is)
    (case iC1 => k_is)
    (case aC2 => k_is)
    (case iC2 => k_is)
    (case lI => k_is)
    (case cI => k_is)
    (case kI => k_is)
    (case yI => k_is)
    (case eC0 => k_is)
    (case rC0 => first | k_is | decide +kernel)
    (case sC0 => k_is)
    (case xC0 => k_is)
    (case yC0 => k_is)
    (case kC0 => k_is)
    (case vC0 => k_is)
    (case gC0 => k_is)
    (case hC0 => k_is)
    (case dC0 => k_is)
    (case eC1 => k_is)
    (case rC1 => first | k_is | decide +kernel)
    (case sC1 => k_is)
    (case xC1 => k_is)
    (case yC1 => k_is)
    (case kC1 => k_is)
    (case vC1 => k_is)
    (case gC1 => k_is)
    (case hC1 => k_is)
    (case dC1 => k_is)
    (case eC2 => k_is)
    (case rC2 => first | k_is | decide +kernel)
    (case sC2 => k_is)
    (case xC2 => k_is)
    (case yC2 => k_is)
    (case kC2 => k_is)
    (case vC2 => k_is)
    (case gC2 => k_is)
    (case hC2 => k_is)
    (case dC2 => k_is)
    (case aK_WILD => k_is)
    (case aK_LONGEST => k_is)
    (case aK_ENDS => k_is)
    (case aK_INNER => k_is)
    (case n_abs => k_is)
    (case n_all => k_is)
    (case n_bool => k_is)
    (case n_divmod => k_is)
    (case n_int => k_is)
    (case n_isinstance => k_is)
    (case n_len => k_is)
    (case n_list => k_is)
    (case n_max => k_is)
    (case n_min => k_is)
    (case n_range => k_is)
    (case n_str => k_is)
    (case n_sum => k_is)
    (case n_tuple => k_is)
    (case u_TreeError_InvalidLabel => k_is)
    (case u_InvalidLabel_InvalidLabel => k_is)
    (case u_InvalidNumber_InvalidLabel => k_is)
    (case u_TreeError_InvalidNumber => k_is)
    (case u_InvalidLabel_InvalidNumber => k_is)
    (case u_InvalidNumber_InvalidNumber => k_is)
