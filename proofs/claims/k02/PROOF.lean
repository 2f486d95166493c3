import PyProof.Rows.All
import Wide.All
import OpenK.AllK
import Wide.FinOn
import HandS.ForMost
import HandS.ForExc
import HandS.ExcInit
import HandS.ExcField
import HandS.TryMany
import HandS.WideBits
import HandS.Flow
import HandS.IsInst
import HandS.EndBits
import HandS.ExcOwn
import HandS.TupAny
import HandS.StrMore
import HandS.Text
import HandS.Style
import HandS.ExcIs
import KE.KExcIs
import HandS.Sort
import HandS.Replace
import HandS.TupLe
import HandS.More
import PyProof.ListStr
import HandS.RaiseMore
import PyProof.P3Eq
import HandS.Deep
import HandS.TupMul
import KE.SortKeyHeap
import HandS.SortKw
import HandS.DictComp
import HandS.Conv
import KE.DataMinKey
import PySem.Challenge.RW_rootward_k02_order_and_sizes
set_option Elab.async false
set_option linter.all false
set_option maxRecDepth 100000
set_option maxHeartbeats 4000000
namespace MP
open PySem PySem.Spec PyProof.Rows L2

/-! ### values, objects, results -/
inductive W where
  | non | bl (b : Bool) | int (i : Int) | str (x : Str) | tup (xs : List W) | fro (xs : List W) | loc (n : Nat) | gl (v : V) | rng (i j : Int)
inductive Ob where
  | lst (xs : List W)
abbrev Store := List Ob
abbrev EnvW := List (Option W)
inductive Res (α : Type) where
  | ok (a : α) (st : Store)
  | err (c : Str) (fs : W) (st : Store)
  | stuck
def Res.bind {α β : Type} (r : Res α) (k : α → Store → Res β) : Res β := match r with
  | .ok a st => k a st
  | .err c fs st => .err c fs st
  | .stuck => .stuck
@[simp] theorem Res.bind_ok {α β : Type} (a : α) (st : Store) (k : α → Store → Res β) : (Res.ok a st).bind k = k a st := rfl
@[simp] theorem Res.bind_err {α β : Type} (c : Str) (fs : W) (st : Store) (k : α → Store → Res β) : (Res.err c fs st : Res α).bind k = .err c fs st := rfl
@[simp] theorem Res.bind_stuck {α β : Type} (k : α → Store → Res β) : (Res.stuck : Res α).bind k = .stuck := rfl
abbrev D (α : Type) := EnvW → Store → Res α

/-! ### how values and stores lie in the heap -/
/-- a list that is never written: the script, or the module's own -/
def SqF (K : PySem.W.Frag) (H : Hp) (a : Addr) (xs : List V) : Prop :=
  (∃ o, H a = some (.frz o (.lst xs))) ∨
    ∃ (o : Obj) (its : Array Value) (n : Nat), K.lookup a = some o ∧ o.cls = .type "list" ∧ o.dict = none ∧ o.data = .seq its n ∧ its.size ≤ sizeLine ∧ Vals xs its.toList
/-- a tuple: tracked, or the module's own -/
def TpF (K : PySem.W.Frag) (H : Hp) (a : Addr) (xs : List V) : Prop :=
  H a = some (.tup xs) ∨
    ∃ (o : Obj) (its : Array Value) (n : Nat), K.lookup a = some o ∧ o.cls = .type "tuple" ∧ o.data = .seq its n ∧ its.size ≤ sizeLine ∧ Vals xs its.toList
theorem SqF.sq {K : PySem.W.Frag} {H : Hp} {a : Addr} {xs : List V} (h : SqF K H a xs) : SqL K H a xs := by
  rcases h with ⟨o, h⟩ | h
  · exact .inl (.inr ⟨o, h⟩)
  · exact .inr h
theorem TpF.sq {K : PySem.W.Frag} {H : Hp} {a : Addr} {xs : List V} (h : TpF K H a xs) : SqT K H a xs := by
  rcases h with h | h
  · exact .inl (.inl h)
  · exact .inr h
mutual
def VR (K : PySem.W.Frag) (ρ : List Addr) (H : Hp) : W → V → Prop
  | .non, v => v = .non
  | .bl b, v => v = .bl b
  | .int i, v => v = .int i
  | .str x, v => v = .str x
  | .tup ws, v => ∃ a us, v = .ref a ∧ TpF K H a us ∧ VRs K ρ H ws us
  | .fro ws, v => ∃ a us, v = .ref a ∧ SqF K H a us ∧ VRs K ρ H ws us
  | .loc n, v => ∃ a, ρ[n]? = some a ∧ v = .ref a
  | .gl u, v => v = u
  | .rng i j, v => ∃ a, v = .ref a ∧ H a = some (.rng i j)
def VRs (K : PySem.W.Frag) (ρ : List Addr) (H : Hp) : List W → List V → Prop
  | [], vs => vs = []
  | w :: ws, vs => ∃ u us, vs = u :: us ∧ VR K ρ H w u ∧ VRs K ρ H ws us
end
/-- what may be written lies at the addresses of ρ -/
def ObR (K : PySem.W.Frag) (ρ : List Addr) (H : Hp) (a : Addr) : Ob → Prop
  | .lst ws => ∃ us, H a = some (.lst us) ∧ VRs K ρ H ws us
structure StR (K : PySem.W.Frag) (ρ : List Addr) (H : Hp) (st : Store) : Prop where
  len : ρ.length = st.length
  nd : ρ.Nodup
  ob : ∀ (n : Nat) (o : Ob), st[n]? = some o → ∃ a, ρ[n]? = some a ∧ ObR K ρ H a o
/-- in an except suite: the exception's slot, its address, its dict, its value -/
structure Exn where
  i : Nat
  a : Addr
  dd : Addr
  y : V
  w : W
structure EnvR (K : PySem.W.Frag) (ex : Option Exn) (ρ : List Addr) (H : Hp) (env : EnvW) (σ : L2.St) : Prop where
  len : σ.length = env.length
  at_ : ∀ (i : Nat) (w : W), env[i]? = some (some w) → ∃ v, σ[i]? = some (some v) ∧ VR K ρ H w v
  exc : ∀ x, ex = some x → σ[x.i]? = some (some (.ref x.a)) ∧ H x.dd = some (.xd [(("value" : Str), x.y)]) ∧ x.dd ∉ ρ ∧ VR K ρ H x.w x.y
def ExOk (ex : Option Exn) (i : Nat) : Prop := ∀ x, ex = some x → x.i ≠ i
theorem ExOk.none {i : Nat} : ExOk none i := fun _ h => nomatch h
/-- later: the store's part may be longer, nothing else that is tracked is changed -/
structure Grow (ρ : List Addr) (H : Hp) (ρ' : List Addr) (H' : Hp) : Prop where
  pre : ∃ m, ρ' = ρ ++ m ∧ ∀ a ∈ m, H a = none
  keep : ∀ a o, H a = some o → a ∉ ρ → H' a = some o
  live : ∀ a, a ∈ ρ → H a ≠ none → H' a ≠ none
/-- immutable things are never among the written ones -/
def Apart (ρ : List Addr) (H : Hp) : Prop := ∀ a ∈ ρ, ∃ o, H a = some o ∧ (∀ xs, o ≠ .tup xs) ∧ (∀ b u, o ≠ .frz b u) ∧ ∀ i j, o ≠ .rng i j

section
variable {K : PySem.W.Frag} {ρ ρ' ρ'' : List Addr} {H H' H'' : Hp} {st st' : Store}
theorem Grow.refl : Grow ρ H ρ H := ⟨⟨[], by simp, fun _ h => nomatch h⟩, fun _ _ h _ => h, fun _ _ h => h⟩
theorem Grow.fresh (g : Grow ρ H ρ' H') {a : Addr} (h : H' a = none) : H a = none := by
  cases e : H a with
  | none => rfl
  | some o =>
    by_cases m : a ∈ ρ
    · exact absurd h (g.live a m (by rw [e]; simp))
    · have := g.keep a o e m
      rw [this] at h; cases h
theorem Grow.trans (g : Grow ρ H ρ' H') (g' : Grow ρ' H' ρ'' H'') : Grow ρ H ρ'' H'' := by
  obtain ⟨m, e, f⟩ := g.pre
  obtain ⟨m', e', f'⟩ := g'.pre
  subst e; subst e'
  refine ⟨⟨m ++ m', by simp, fun a h => ?_⟩, fun a o h n => ?_, fun a h h' => ?_⟩
  · rcases List.mem_append.mp h with h | h
    · exact f a h
    · exact g.fresh (f' a h)
  · refine g'.keep a o (g.keep a o h n) fun z => ?_
    rcases List.mem_append.mp z with z | z
    · exact n z
    · have := f a z; rw [h] at this; cases this
  · exact g'.live a (List.mem_append_left _ h) (g.live a h h')
theorem StR.apart (s : StR K ρ H st) : Apart ρ H := fun a h => by
  obtain ⟨n, hn, e⟩ := List.getElem_of_mem h
  have hn' : n < st.length := by rw [← s.len]; exact hn
  obtain ⟨b, hb, hob⟩ := s.ob n st[n] (by rw [List.getElem?_eq_getElem hn'])
  rw [List.getElem?_eq_getElem hn, e] at hb
  cases hb
  cases ho : st[n] with
  | lst ws =>
    rw [ho] at hob
    obtain ⟨us, hu, _⟩ := hob
    exact ⟨_, hu, fun _ z => (nomatch z), fun _ _ z => (nomatch z), fun _ _ z => (nomatch z)⟩
theorem TpF.grow {a : Addr} {xs : List V} (h : TpF K H a xs) (ap : Apart ρ H) (g : Grow ρ H ρ' H') : TpF K H' a xs := by
  rcases h with h | h
  · refine .inl (g.keep a _ h fun m => ?_)
    obtain ⟨o, e, n, _⟩ := ap a m
    rw [h] at e; cases e
    exact n _ rfl
  · exact .inr h
theorem SqF.grow {a : Addr} {xs : List V} (h : SqF K H a xs) (ap : Apart ρ H) (g : Grow ρ H ρ' H') : SqF K H' a xs := by
  rcases h with ⟨o, h⟩ | h
  · refine .inl ⟨o, g.keep a _ h fun m => ?_⟩
    obtain ⟨o', e, _, n, _⟩ := ap a m
    rw [h] at e; cases e
    exact n _ _ rfl
  · exact .inr h
mutual
theorem VR.grow (ap : Apart ρ H) (g : Grow ρ H ρ' H') : ∀ (w : W) (v : V), VR K ρ H w v → VR K ρ' H' w v
  | .non, _, h => by simpa only [VR] using h
  | .bl _, _, h => by simpa only [VR] using h
  | .int _, _, h => by simpa only [VR] using h
  | .str _, _, h => by simpa only [VR] using h
  | .gl _, _, h => by simpa only [VR] using h
  | .rng i j, v, h => by
    simp only [VR] at h ⊢
    obtain ⟨a, e, r⟩ := h
    refine ⟨a, e, g.keep a _ r fun m => ?_⟩
    obtain ⟨o, e', _, _, n⟩ := ap a m
    rw [r] at e'; cases e'
    exact n _ _ rfl
  | .tup ws, v, h => by
    simp only [VR] at h ⊢
    obtain ⟨a, us, e, t, r⟩ := h
    exact ⟨a, us, e, t.grow ap g, VRs.grow ap g ws us r⟩
  | .fro ws, v, h => by
    simp only [VR] at h ⊢
    obtain ⟨a, us, e, t, r⟩ := h
    exact ⟨a, us, e, t.grow ap g, VRs.grow ap g ws us r⟩
  | .loc n, v, h => by
    simp only [VR] at h ⊢
    obtain ⟨a, e, r⟩ := h
    obtain ⟨m, e', _⟩ := g.pre
    subst e'
    refine ⟨a, ?_, r⟩
    have hl := (List.getElem?_eq_some_iff.mp e).1
    rw [List.getElem?_append_left hl]; exact e
theorem VRs.grow (ap : Apart ρ H) (g : Grow ρ H ρ' H') : ∀ (ws : List W) (vs : List V), VRs K ρ H ws vs → VRs K ρ' H' ws vs
  | [], _, h => by simpa only [VRs] using h
  | w :: ws, vs, h => by
    simp only [VRs] at h ⊢
    obtain ⟨u, us, e, r, rs⟩ := h
    exact ⟨u, us, e, VR.grow ap g w u r, VRs.grow ap g ws us rs⟩
end
theorem EnvR.grow {ex : Option Exn} {env : EnvW} {σ : L2.St} (e : EnvR K ex ρ H env σ) (ap : Apart ρ H) (g : Grow ρ H ρ' H') : EnvR K ex ρ' H' env σ :=
  ⟨e.len, fun i w h => let ⟨v, h1, h2⟩ := e.at_ i w h; ⟨v, h1, VR.grow ap g w v h2⟩, fun x h => by
    obtain ⟨h1, h2, h3, h4⟩ := e.exc x h
    refine ⟨h1, g.keep _ _ h2 h3, fun z => ?_, VR.grow ap g _ _ h4⟩
    obtain ⟨m, em, fm⟩ := g.pre
    subst em
    rcases List.mem_append.mp z with z | z
    · exact h3 z
    · have := fm _ z; rw [h2] at this; cases this⟩
theorem EnvR.put {ex : Option Exn} {env : EnvW} {σ : L2.St} (e : EnvR K ex ρ H env σ) {i : Nat} {w : Option W} {v : Option V} (hx : ExOk ex i) (r : ∀ w', w = some w' → ∃ v', v = some v' ∧ VR K ρ H w' v') : EnvR K ex ρ H (env.set i w) (σ.set i v) := by
  refine ⟨by simp [e.len], fun j w' h => ?_, fun x h => ?_⟩
  · by_cases hj : i = j
    · subst hj
      rw [List.getElem?_set] at h
      split at h
      · split at h
        · rename_i hl
          obtain ⟨v', e1, rv⟩ := r w' (Option.some.inj h)
          subst e1
          refine ⟨v', ?_, rv⟩
          rw [List.getElem?_set]; simp [e.len, *]
        · cases h
      · rename_i z; exact absurd rfl z
    · rw [List.getElem?_set_ne hj] at h
      obtain ⟨u, h1, h2⟩ := e.at_ j w' h
      exact ⟨u, by rw [List.getElem?_set_ne hj]; exact h1, h2⟩
  · obtain ⟨h1, h2⟩ := e.exc x h
    exact ⟨by rw [List.getElem?_set_ne (Ne.symm (hx x h))]; exact h1, h2⟩
theorem EnvR.set {ex : Option Exn} {env : EnvW} {σ : L2.St} (e : EnvR K ex ρ H env σ) {i : Nat} {w : W} {v : V} (hx : ExOk ex i) (r : VR K ρ H w v) : EnvR K ex ρ H (env.set i (some w)) (σ.set i (some v)) :=
  e.put hx fun w' h => by cases h; exact ⟨v, rfl, r⟩
theorem EnvR.unset {ex : Option Exn} {env : EnvW} {σ : L2.St} (e : EnvR K ex ρ H env σ) {i : Nat} (hx : ExOk ex i) : EnvR K ex ρ H (env.set i none) (σ.set i none) :=
  e.put hx fun w' h => by cases h
theorem VRs.length : ∀ {ws : List W} {vs : List V}, VRs K ρ H ws vs → ws.length = vs.length
  | [], vs, h => by simp only [VRs] at h; simp [h]
  | w :: ws, vs, h => by
    simp only [VRs] at h
    obtain ⟨u, us, rfl, _, r⟩ := h
    simp [VRs.length r]
theorem VRs.get : ∀ {ws : List W} {vs : List V} {i : Nat} {w : W}, VRs K ρ H ws vs → ws[i]? = some w → ∃ v, vs[i]? = some v ∧ VR K ρ H w v
  | [], _, _, _, _, e => by simp at e
  | w :: ws, vs, 0, w', h, e => by
    simp only [VRs] at h
    obtain ⟨u, us, rfl, r, _⟩ := h
    simp at e; subst e
    exact ⟨u, rfl, r⟩
  | w :: ws, vs, i + 1, w', h, e => by
    simp only [VRs] at h
    obtain ⟨u, us, rfl, _, r⟩ := h
    obtain ⟨v, h1, h2⟩ := VRs.get (i := i) r (by simpa using e)
    exact ⟨v, by simpa using h1, h2⟩
theorem VRs.append : ∀ {ws ws' : List W} {vs vs' : List V}, VRs K ρ H ws vs → VRs K ρ H ws' vs' → VRs K ρ H (ws ++ ws') (vs ++ vs')
  | [], _, vs, _, h, h' => by simp only [VRs] at h; subst h; simpa using h'
  | w :: ws, _, vs, _, h, h' => by
    simp only [VRs, List.cons_append] at h ⊢
    obtain ⟨u, us, rfl, r, rs⟩ := h
    exact ⟨u, us ++ _, rfl, r, VRs.append rs h'⟩
theorem VRs.take : ∀ {ws : List W} {vs : List V} (n : Nat), VRs K ρ H ws vs → VRs K ρ H (ws.take n) (vs.take n)
  | _, _, 0, _ => by simp [VRs]
  | [], vs, n + 1, h => by simp only [VRs] at h; subst h; simp [VRs]
  | w :: ws, vs, n + 1, h => by
    simp only [VRs] at h
    obtain ⟨u, us, rfl, r, rs⟩ := h
    simp only [List.take_succ_cons, VRs]
    exact ⟨u, _, rfl, r, rs.take n⟩
theorem VRs.drop : ∀ {ws : List W} {vs : List V} (n : Nat), VRs K ρ H ws vs → VRs K ρ H (ws.drop n) (vs.drop n)
  | _, _, 0, h => by simpa using h
  | [], vs, n + 1, h => by simp only [VRs] at h; subst h; simp [VRs]
  | w :: ws, vs, n + 1, h => by
    simp only [VRs] at h
    obtain ⟨u, us, rfl, r, rs⟩ := h
    simpa using rs.drop n
theorem VRs.one {w : W} {v : V} (r : VR K ρ H w v) : VRs K ρ H [w] [v] := by
  simp only [VRs]; exact ⟨v, [], rfl, r, rfl⟩
theorem VRs.cons' {w : W} {v : V} {ws : List W} {vs : List V} (r : VR K ρ H w v) (rs : VRs K ρ H ws vs) : VRs K ρ H (w :: ws) (v :: vs) := by
  simp only [VRs]; exact ⟨v, vs, rfl, r, rs⟩
theorem VRs.reverse : ∀ {ws : List W} {vs : List V}, VRs K ρ H ws vs → VRs K ρ H ws.reverse vs.reverse
  | [], vs, h => by simp only [VRs] at h; subst h; simp [VRs]
  | w :: ws, vs, h => by
    simp only [VRs] at h
    obtain ⟨u, us, rfl, r, rs⟩ := h
    rw [List.reverse_cons, List.reverse_cons]
    exact rs.reverse.append (.one r)
theorem VRs.set {w : W} {v : V} (r : VR K ρ H w v) : ∀ {ws : List W} {vs : List V} (i : Nat), VRs K ρ H ws vs → VRs K ρ H (ws.set i w) (vs.set i v)
  | [], vs, _, h => by simp only [VRs] at h; subst h; simp [VRs]
  | w' :: ws, vs, 0, h => by
    simp only [VRs] at h
    obtain ⟨u, us, rfl, _, rs⟩ := h
    exact .cons' r rs
  | w' :: ws, vs, i + 1, h => by
    simp only [VRs] at h
    obtain ⟨u, us, rfl, r', rs⟩ := h
    exact .cons' r' (rs.set r i)
theorem ObR.stay {a : Addr} {o : Ob} (h : ObR K ρ H a o) (e : H' a = H a) (ap : Apart ρ H) (g : Grow ρ H ρ' H') : ObR K ρ' H' a o := by
  cases o with
  | lst ws =>
    obtain ⟨us, hu, hr⟩ := h
    exact ⟨us, by rw [e]; exact hu, VRs.grow ap g ws us hr⟩
theorem StR.none_of (s : StR K ρ H st) {p : Addr} (hp : H p = none) : p ∉ ρ := fun m => by
  obtain ⟨o, e, _⟩ := s.apart p m; rw [hp] at e; cases e
/-- an object more -/
theorem StR.new (s : StR K ρ H st) {p : Addr} {o : Ob} {u : HO} (hp : H p = none) (g : Grow ρ H (ρ ++ [p]) (upd H p u)) (ho : ObR K (ρ ++ [p]) (upd H p u) p o) : StR K (ρ ++ [p]) (upd H p u) (st ++ [o]) := by
  have ap := s.apart
  have np : p ∉ ρ := fun m => by obtain ⟨o, e, _⟩ := ap p m; rw [hp] at e; cases e
  refine ⟨by simp [s.len], ?_, fun n o' e => ?_⟩
  · rw [List.nodup_append]
    exact ⟨s.nd, List.nodup_cons.mpr ⟨by simp, List.nodup_nil⟩, fun a ha b hb e => by
      have : b = p := by simpa using hb
      subst this; subst e; exact np ha⟩
  · by_cases hn : n < st.length
    · rw [List.getElem?_append_left hn] at e
      obtain ⟨a, ha, hob⟩ := s.ob n o' e
      have hl := (List.getElem?_eq_some_iff.mp ha).1
      have hap : a ≠ p := fun z => np (z ▸ List.mem_of_getElem? ha)
      exact ⟨a, by rw [List.getElem?_append_left hl]; exact ha, hob.stay (upd_ne hap) ap g⟩
    · have hl : n < (st ++ [o]).length := (List.getElem?_eq_some_iff.mp e).1
      have : n = st.length := by simp at hl; omega
      subst this
      rw [List.getElem?_append_right (Nat.le_refl _)] at e
      simp at e; subst e
      exact ⟨p, by rw [← s.len, List.getElem?_append_right (Nat.le_refl _)]; simp, ho⟩
theorem grow_new {p : Addr} {u : HO} (hp : H p = none) : Grow ρ H (ρ ++ [p]) (upd H p u) :=
  ⟨⟨[p], rfl, fun a h => by have : a = p := by simpa using h
                            subst this; exact hp⟩, fun a o h _ => by rw [upd_ne (ne_of_none h hp)]; exact h, fun a _ h z => by
    by_cases e : a = p
    · subst e; rw [upd_same] at z; cases z
    · rw [upd_ne e] at z; exact h z⟩
/-- an immutable thing more -/
theorem grow_imm {p : Addr} {u : HO} (hp : H p = none) : Grow ρ H ρ (upd H p u) :=
  ⟨⟨[], by simp, fun _ h => nomatch h⟩, fun a o h _ => by rw [upd_ne (ne_of_none h hp)]; exact h, fun a _ h z => by
    by_cases e : a = p
    · subst e; rw [upd_same] at z; cases z
    · rw [upd_ne e] at z; exact h z⟩
theorem StR.grow_imm (s : StR K ρ H st) {p : Addr} {u : HO} (hp : H p = none) : StR K ρ (upd H p u) st := by
  have ap := s.apart
  have np : p ∉ ρ := fun m => by obtain ⟨o, e, _⟩ := ap p m; rw [hp] at e; cases e
  refine ⟨s.len, s.nd, fun n o e => ?_⟩
  obtain ⟨a, ha, hob⟩ := s.ob n o e
  have hap : a ≠ p := fun z => np (z ▸ List.mem_of_getElem? ha)
  exact ⟨a, ha, hob.stay (upd_ne hap) ap (MP.grow_imm hp)⟩
/-- an object of the store changed -/
theorem grow_write {a : Addr} {u : HO} (ha : a ∈ ρ) : Grow ρ H ρ (upd H a u) :=
  ⟨⟨[], by simp, fun _ h => nomatch h⟩, fun b o h n => by rw [upd_ne (fun z : b = a => n (by rw [z]; exact ha))]; exact h, fun b _ h z => by
    by_cases e : b = a
    · subst e; rw [upd_same] at z; cases z
    · rw [upd_ne e] at z; exact h z⟩
theorem StR.write (s : StR K ρ H st) {n : Nat} {a : Addr} {o : Ob} {u : HO} (hn : ρ[n]? = some a) (ho : ObR K ρ (upd H a u) a o) : StR K ρ (upd H a u) (st.set n o) := by
  have ap := s.apart
  have hm : a ∈ ρ := List.mem_of_getElem? hn
  have hnl := (List.getElem?_eq_some_iff.mp hn).1
  refine ⟨by simp [s.len], s.nd, fun k o' e => ?_⟩
  by_cases hk : n = k
  · subst hk
    rw [List.getElem?_set] at e
    rw [if_pos rfl, if_pos (by rw [← s.len]; exact hnl)] at e
    cases e
    exact ⟨a, hn, ho⟩
  · rw [List.getElem?_set_ne hk] at e
    obtain ⟨b, hb, hob⟩ := s.ob k o' e
    refine ⟨b, hb, ?_⟩
    have hab : b ≠ a := fun z => by
      subst z
      have h1 := (List.getElem?_eq_some_iff.mp hn)
      have h2 := (List.getElem?_eq_some_iff.mp hb)
      exact hk ((List.getElem_inj s.nd).mp (h1.2.trans h2.2.symm))
    exact hob.stay (upd_ne hab) ap (grow_write hm)
end
end MP
namespace MP
open PySem PySem.Spec PyProof.Rows L2

/-! ### what is wanted of a result; judgements -/
/-- an exception: an own class, its dict -/
def ErR (K : PySem.W.Frag) (mg : Str → Option Value) (ρ : List Addr) (H : Hp) (c : Str) (w : W) (cls : Value) (d : Option Addr) : Prop :=
  ∃ (C dd : Addr) (y : V), mg c = some (.ref C) ∧ cls = .ref C ∧ d = some dd ∧ H dd = some (.xd [(("value" : Str), y)]) ∧ dd ∉ ρ ∧ VR K ρ H w y
def Post {α β : Type} (K : PySem.W.Frag) (mg : Str → Option Value) (Wx : WX) (rel : List Addr → Hp → α → β → Prop) (ρ : List Addr) (H : Hp) (σ : L2.St) (r : Res α) (Q : β → Hp → Prop) : Prop :=
  match r with
  | .ok a st' => ∀ ρ' H' x, Grow ρ H ρ' H' → StR K ρ' H' st' → rel ρ' H' a x → Q x H'
  | .err c fs st' => ∀ ρ' H' cls d, Grow ρ H ρ' H' → StR K ρ' H' st' → ErR K mg ρ' H' c fs cls d → Wx cls d σ H'
  | .stuck => False
abbrev relV (K : PySem.W.Frag) : List Addr → Hp → W → V → Prop := VR K
abbrev relVs (K : PySem.W.Frag) : List Addr → Hp → List W → List V → Prop := VRs K
abbrev relE {α : Type} : List Addr → Hp → α → α → Prop := fun _ _ a b => a = b
section
variable {K : PySem.W.Frag} {mg : Str → Option Value} {Wx : WX} {ρ ρ1 : List Addr} {H H1 : Hp} {σ : L2.St} {α β γ δ : Type}
theorem Post.mono {rel : List Addr → Hp → α → β → Prop} {r : Res α} {Q : β → Hp → Prop} (h : Post K mg Wx rel ρ H σ r Q) (g : Grow ρ H ρ1 H1) : Post K mg Wx rel ρ1 H1 σ r Q := by
  cases r with
  | ok a st => exact fun ρ' H' x g' => h ρ' H' x (g.trans g')
  | err c fs st => exact fun ρ' H' cls d g' => h ρ' H' cls d (g.trans g')
  | stuck => exact h
theorem Post.bind {relA : List Addr → Hp → α → β → Prop} {relC : List Addr → Hp → γ → δ → Prop} {r : Res α} {k : α → Store → Res γ} {Q : δ → Hp → Prop} (h : Post K mg Wx relC ρ H σ (r.bind k) Q) :
    Post K mg Wx relA ρ H σ r (fun x H1 => ∃ ρ1 st1 a, Grow ρ H ρ1 H1 ∧ StR K ρ1 H1 st1 ∧ relA ρ1 H1 a x ∧ Post K mg Wx relC ρ1 H1 σ (k a st1) Q) := by
  cases r with
  | ok a st => exact fun ρ' H' x g s r => ⟨ρ', st, a, g, s, r, Post.mono h g⟩
  | err c fs st => exact h
  | stuck => exact h
theorem Post.ok_ {rel : List Addr → Hp → α → β → Prop} {a : α} {st : Store} {x : β} {Q : β → Hp → Prop} (h : Post K mg Wx rel ρ H σ (.ok a st) Q) (s : StR K ρ H st) (r : rel ρ H a x) : Q x H := h ρ H x .refl s r
end
/-- the reading of a denotation -/
def RG {α β : Type} (X : Cx) (ex : Option Exn) (Wx : WX) (rel : List Addr → Hp → α → β → Prop) (m : D α) : L2.St → Hp → (β → Hp → Prop) → Prop := fun σ H Q =>
  ∃ ρ env st, StR X.K ρ H st ∧ EnvR X.K ex ρ H env σ ∧ Post X.K X.mg Wx rel ρ H σ (m env st) Q
abbrev IE (X : Cx) (ex : Option Exn) (Wx : WX) (e : Expr) (m : D W) : Prop := PE X e (RG X ex Wx (relV X.K) m)
abbrev IA (X : Cx) (ex : Option Exn) (Wx : WX) (es : List Expr) (m : D (List W)) : Prop := PA X es (RG X ex Wx (relVs X.K) m)
abbrev IT (X : Cx) (ex : Option Exn) (Wx : WX) (e : Expr) (m : D Bool) : Prop := PT X e (RG X ex Wx relE m)
abbrev IW (X : Cx) (ex : Option Exn) (Wx : WX) (e : Expr) (m : D Bool) : Prop := PW X e (RG X ex Wx relE m)
section
variable {X : Cx} {ex : Option Exn} {Wx : WX} {α β γ δ : Type}
theorem PE.of {e : Expr} {t t' : TE} (h : PE X e t) (w : ∀ σ H Q, t' σ H Q → t σ H Q) : PE X e t' := ⟨fun pins s σ H Q I q => h.run pins s σ H Q I (w _ _ _ q)⟩
theorem PT.of {e : Expr} {t t' : TT} (h : PT X e t) (w : ∀ σ H Q, t' σ H Q → t σ H Q) : PT X e t' := ⟨fun pins s σ H Q I q => h.run pins s σ H Q I (w _ _ _ q)⟩
theorem PW.of {e : Expr} {t t' : TT} (h : PW X e t) (w : ∀ σ H Q, t' σ H Q → t σ H Q) : PW X e t' := ⟨fun whole pins s σ H Q I q => h.run whole pins s σ H Q I (w _ _ _ q)⟩
theorem PA.of {es : List Expr} {t t' : TA} (h : PA X es t) (w : ∀ σ H Q, t' σ H Q → t σ H Q) : PA X es t' := ⟨fun pos pins s σ H Q I q => h.run pos pins s σ H Q I (w _ _ _ q)⟩
theorem PS.of {e : Stmt} {t t' : TS} (h : PS X e t) (w : ∀ D σ H, t' D σ H → t D σ H) : PS X e t' := ⟨fun pins s σ H D I q => h.run pins s σ H D I (w _ _ _ q)⟩
theorem PSs.of {e : List Stmt} {t t' : TS} (h : PSs X e t) (w : ∀ D σ H, t' D σ H → t D σ H) : PSs X e t' := ⟨fun pins s σ H D I q => h.run pins s σ H D I (w _ _ _ q)⟩
/-- one step of a reading: m's, then what k asks -/
theorem RG.bind {relA : List Addr → Hp → α → β → Prop} {relC : List Addr → Hp → γ → δ → Prop} {ρ : List Addr} {H : Hp} {σ : L2.St} {env : EnvW} {st : Store} {m : D α} {k : α → Store → Res γ} {Q : δ → Hp → Prop} {R : β → Hp → Prop}
    (s : StR X.K ρ H st) (e : EnvR X.K ex ρ H env σ) (h : Post X.K X.mg Wx relC ρ H σ ((m env st).bind k) Q)
    (hk : ∀ ρ1 H1 st1 a x, Grow ρ H ρ1 H1 → StR X.K ρ1 H1 st1 → EnvR X.K ex ρ1 H1 env σ → relA ρ1 H1 a x → Post X.K X.mg Wx relC ρ1 H1 σ (k a st1) Q → R x H1) : RG X ex Wx relA m σ H R := by
  refine ⟨ρ, env, st, s, e, ?_⟩
  generalize hm : m env st = r at h
  cases r with
  | ok a st' => exact fun ρ' H' x g s' r => hk ρ' H' st' a x g s' (e.grow s.apart g) r (Post.mono h g)
  | err c fs st' => exact h
  | stuck => exact h
end

/-! ### denotations -/
def dVar (i : Nat) : D W := fun env st => match env[i]? with
  | some (some w) => .ok w st
  | _ => .stuck
def dC (w : W) : D W := fun _ st => .ok w st
def dOp (f : W → W → Store → Res W) (ma mb : D W) : D W := fun env st => (ma env st).bind fun a st1 => (mb env st1).bind fun b st2 => f a b st2
def dUn (f : W → Store → Res W) (ma : D W) : D W := fun env st => (ma env st).bind fun a st1 => f a st1
def dIf (c : D Bool) (ma mb : D W) : D W := fun env st => (c env st).bind fun b st1 => if b = true then ma env st1 else mb env st1
def dNil : D (List W) := fun _ st => .ok [] st
def dCons (m : D W) (r : D (List W)) : D (List W) := fun env st => (m env st).bind fun a st1 => (r env st1).bind fun l st2 => .ok (a :: l) st2
def dTup (m : D (List W)) : D W := fun env st => (m env st).bind fun l st1 => if l.length ≤ sizeLine then .ok (.tup l) st1 else .stuck
def dLst (m : D (List W)) : D W := fun env st => (m env st).bind fun l st1 => if l.length ≤ sizeLine then .ok (.loc st1.length) (st1 ++ [.lst l]) else .stuck
def dApp (f : List W → Store → Res W) (m : D (List W)) : D W := fun env st => (m env st).bind fun l st1 => f l st1
/-- tests -/
def dBool (m : D W) : D Bool := fun env st => (m env st).bind fun a st1 => match a with
  | .bl b => .ok b st1
  | _ => .stuck
def dAnd (a b : D Bool) : D Bool := fun env st => (a env st).bind fun c st1 => if c = true then b env st1 else .ok false st1
def dOr (a b : D Bool) : D Bool := fun env st => (a env st).bind fun c st1 => if c = true then .ok true st1 else b env st1
def dNot (a : D Bool) : D Bool := fun env st => (a env st).bind fun c st1 => .ok (!c) st1
def dAndV (a b : D W) : D W := fun env st => (a env st).bind fun x st1 => match x with
  | .bl c => if c = true then b env st1 else .ok (.bl false) st1
  | _ => .stuck
def dOrV (a b : D W) : D W := fun env st => (a env st).bind fun x st1 => match x with
  | .bl c => if c = true then .ok (.bl true) st1 else b env st1
  | _ => .stuck
def dNotV (a : D W) : D W := fun env st => (a env st).bind fun x st1 => match x with
  | .bl c => .ok (.bl (!c)) st1
  | _ => .stuck
def dChain (f g : W → W → Store → Res W) (ma mb mc : D W) : D W := fun env st => (ma env st).bind fun a st1 => (mb env st1).bind fun b st2 => (f a b st2).bind fun x st3 => match x with
  | .bl true => (mc env st3).bind fun c st4 => g b c st4
  | .bl false => .ok (.bl false) st3
  | _ => .stuck

section
variable {X : Cx} {ex : Option Exn} {Wx : WX} {pos : Pos}
/-- a two-place operation by values -/
def OpOk (X : Cx) (r : R2) (f : W → W → Store → Res W) : Prop :=
  ∀ (Wx : WX) (ρ : List Addr) (H : Hp) (st : Store) (σ : L2.St) (a b : W) (x y : V) (Q : VK), StR X.K ρ H st → VR X.K ρ H a x → VR X.K ρ H b y → Post X.K X.mg Wx (relV X.K) ρ H σ (f a b st) Q → r x y H Q
def UnOk (X : Cx) (r : V → Hp → VK → Prop) (f : W → Store → Res W) : Prop :=
  ∀ (Wx : WX) (ρ : List Addr) (H : Hp) (st : Store) (σ : L2.St) (a : W) (x : V) (Q : VK), StR X.K ρ H st → VR X.K ρ H a x → Post X.K X.mg Wx (relV X.K) ρ H σ (f a st) Q → r x H Q
def CallOk (X : Cx) (r : List V → Hp → VK → Prop) (f : List W → Store → Res W) : Prop :=
  ∀ (Wx : WX) (ρ : List Addr) (H : Hp) (st : Store) (σ : L2.St) (l : List W) (vs : List V) (Q : VK), StR X.K ρ H st → VRs X.K ρ H l vs → Post X.K X.mg Wx (relV X.K) ρ H σ (f l st) Q → r vs H Q
theorem OpR.or {f : Value → Value → Sem Value} {r r' : R2} (h : OpR X f r) (h' : OpR X f r') : OpR X f (fun x y H Q => r x y H Q ∨ r' x y H Q) := fun pins s σ H x y v u Q I a b q => by
  rcases q with q | q
  · exact h pins s σ H x y v u Q I a b q
  · exact h' pins s σ H x y v u Q I a b q
theorem ie_var (i : Nat) {x : Str} (hN : X.N[i]? = some x := by rfl) (hv : Vis X.env.scope x := by first | exact Or.inl rfl | exact Or.inr (Or.inl rfl) | exact Or.inr (Or.inr rfl)) (hd : (x == ("__debug__" : Str)) = false := by decide)
    (hcd : (x == ("__classdict__" : Str)) = false := by decide) : IE X ex Wx (.Name x pos) (dVar i) := by
  refine PE.of (pe_var hN hv hd hcd) fun σ H Q ⟨ρ, env, st, s, e, p⟩ => ?_
  unfold dVar at p
  generalize hq : env[i]? = o at p
  match o, hq, p with
  | some (some w), hq, p =>
    obtain ⟨v, h1, h2⟩ := e.at_ i w hq
    exact ⟨v, h1, p.ok_ s h2⟩
  | some none, _, p => exact p.elim
  | none, _, p => exact p.elim
theorem ie_c {e : Expr} {v : V} {w : W} (h : PE X e (tC v)) (r : ∀ ρ H, VR X.K ρ H w v) : IE X ex Wx e (dC w) :=
  PE.of h fun σ H Q ⟨ρ, env, st, s, e, p⟩ => p.ok_ s (r ρ H)
theorem ie_op {a b : Expr} {op : Operator} {r : R2} {f : W → W → Store → Res W} {ma mb : D W} (ho : OpR X (binaryOp op) r) (hf : OpOk X r f) (ha : IE X ex Wx a ma) (hb : IE X ex Wx b mb) : IE X ex Wx (.BinOp a op b pos) (dOp f ma mb) :=
  PE.of (pe_op ho ha hb) fun σ H Q ⟨ρ, env, st, s, e, p⟩ => RG.bind s e p fun ρ1 H1 st1 a x g1 s1 e1 ra p1 => RG.bind s1 e1 p1 fun ρ2 H2 st2 b y g2 s2 e2 rb p2 =>
    hf Wx ρ2 H2 st2 σ a b x y Q s2 (VR.grow s1.apart g2 a x ra) rb p2
theorem ie_cmp {a b : Expr} {op : CmpOp} {r : R2} {f : W → W → Store → Res W} {ma mb : D W} (ho : OpR X (compareOp op) r) (hf : OpOk X r f) (ha : IE X ex Wx a ma) (hb : IE X ex Wx b mb) (hm : behindInMarks op b = false) : IE X ex Wx (.Compare a [op] [b] pos) (dOp f ma mb) :=
  PE.of (pe_cmpR ho ha hb hm) fun σ H Q ⟨ρ, env, st, s, e, p⟩ => RG.bind s e p fun ρ1 H1 st1 a x g1 s1 e1 ra p1 => RG.bind s1 e1 p1 fun ρ2 H2 st2 b y g2 s2 e2 rb p2 =>
    hf Wx ρ2 H2 st2 σ a b x y Q s2 (VR.grow s1.apart g2 a x ra) rb p2
/-- a value that is a bool, as a test -/
theorem dBool_step {m : D W} {σ : L2.St} {H : Hp} {Q : Bool → Hp → Prop} (h : RG X ex Wx relE (dBool m) σ H Q) : RG X ex Wx (relV X.K) m σ H fun x H' => ∃ k, x = .bl k ∧ Q k H' := by
  obtain ⟨ρ, env, st, s, e, p⟩ := h
  refine RG.bind s e p fun ρ1 H1 st1 a x g1 s1 e1 ra p1 => ?_
  cases a with
  | bl b =>
    simp only [VR] at ra
    exact ⟨b, ra, p1.ok_ s1 rfl⟩
  | _ => exact p1.elim
theorem it_cmp {a b : Expr} {op : CmpOp} {r : R2} {f : W → W → Store → Res W} {ma mb : D W} (ho : OpR X (compareOp op) r) (hf : OpOk X r f) (ha : IE X ex Wx a ma) (hb : IE X ex Wx b mb) (hm : behindInMarks op b = false) : IT X ex Wx (.Compare a [op] [b] pos) (dBool (dOp f ma mb)) :=
  PT.of (pt_cmpR ho ha hb hm) fun σ H Q h => by
    obtain ⟨ρ, env, st, s, e, p⟩ := dBool_step h
    exact RG.bind s e p fun ρ1 H1 st1 a x g1 s1 e1 ra p1 => RG.bind s1 e1 p1 fun ρ2 H2 st2 b y g2 s2 e2 rb p2 =>
      hf Wx ρ2 H2 st2 σ a b x y _ s2 (VR.grow s1.apart g2 a x ra) rb p2
theorem ie_un {a : Expr} {op : UnaryOp} {r : V → Hp → VK → Prop} {f : W → Store → Res W} {ma : D W} (ho : UnR X (unaryOp op) r) (hf : UnOk X r f) (ha : IE X ex Wx a ma) : IE X ex Wx (.UnaryOp op a pos) (dUn f ma) :=
  PE.of (pe_un ho ha) fun σ H Q ⟨ρ, env, st, s, e, p⟩ => RG.bind s e p fun ρ1 H1 st1 a x g1 s1 e1 ra p1 => hf Wx ρ1 H1 st1 σ a x Q s1 ra p1
theorem ie_if {c a b : Expr} {mc : D Bool} {ma mb : D W} (hc : IT X ex Wx c mc) (ha : IE X ex Wx a ma) (hb : IE X ex Wx b mb) : IE X ex Wx (.IfExp c a b pos) (dIf mc ma mb) :=
  PE.of (pe_ifExp hc ha hb) fun σ H Q ⟨ρ, env, st, s, e, p⟩ => RG.bind s e p fun ρ1 H1 st1 a x g1 s1 e1 ra p1 => by
    have ra' : a = x := ra
    subst ra'
    by_cases h : a = true
    · rw [if_pos h] at p1 ⊢; exact ⟨ρ1, env, st1, s1, e1, p1⟩
    · rw [if_neg h] at p1 ⊢; exact ⟨ρ1, env, st1, s1, e1, p1⟩
theorem ia_nil : IA X ex Wx [] dNil := PA.of pa_nil fun σ H Q ⟨ρ, env, st, s, e, p⟩ => p.ok_ s (by simp [VRs])
theorem ia_cons {e : Expr} {es : List Expr} {m : D W} {r : D (List W)} (he : IE X ex Wx e m) (hr : IA X ex Wx es r) (hs : starEach (e :: es) X.env = (false, eval e X.env) :: starEach es X.env := by rfl) : IA X ex Wx (e :: es) (dCons m r) :=
  PA.of (pa_cons he hr hs) fun σ H Q ⟨ρ, env, st, s, e, p⟩ => RG.bind s e p fun ρ1 H1 st1 a x g1 s1 e1 ra p1 => RG.bind s1 e1 p1 fun ρ2 H2 st2 l xs g2 s2 e2 rb p2 =>
    p2.ok_ s2 (VRs.cons' (VR.grow s1.apart g2 a x ra) rb)
theorem tup_new {ρ : List Addr} {H : Hp} {st : Store} {l : List W} {xs : List V} {p : Addr} (s : StR X.K ρ H st) (r : VRs X.K ρ H l xs) (hp : H p = none) : VR X.K ρ (upd H p (.tup xs)) (.tup l) (.ref p) := by
  simp only [VR]
  exact ⟨p, xs, rfl, .inl upd_same, VRs.grow s.apart (grow_imm hp) l xs r⟩
theorem lst_new {ρ : List Addr} {H : Hp} {st : Store} {l : List W} {xs : List V} {p : Addr} (s : StR X.K ρ H st) (r : VRs X.K ρ H l xs) (hp : H p = none) : StR X.K (ρ ++ [p]) (upd H p (.lst xs)) (st ++ [.lst l]) ∧ VR X.K (ρ ++ [p]) (upd H p (.lst xs)) (.loc st.length) (.ref p) := by
  have g : Grow ρ H (ρ ++ [p]) (upd H p (.lst xs)) := grow_new hp
  refine ⟨s.new hp g ⟨xs, upd_same, VRs.grow s.apart g l xs r⟩, ?_⟩
  simp only [VR]
  exact ⟨p, by rw [← s.len]; simp, rfl⟩
theorem ie_tup {es : List Expr} {m : D (List W)} {x1} (h : IA X ex Wx es m) : IE X ex Wx (.Tuple es x1 pos) (dTup m) :=
  PE.of (pe_tup h) fun σ H Q ⟨ρ, env, st, s, e, p⟩ => RG.bind s e p fun ρ1 H1 st1 l xs g1 s1 e1 r p1 => by
    by_cases hz : l.length ≤ sizeLine
    · rw [if_pos hz] at p1
      refine ⟨by rw [← VRs.length r]; exact hz, fun q hq => ?_⟩
      exact p1 ρ1 _ _ (grow_imm hq) (s1.grow_imm hq) (tup_new s1 r hq)
    · rw [if_neg hz] at p1; exact p1.elim
theorem ie_lst {es : List Expr} {m : D (List W)} (h : IA X ex Wx es m) : IE X ex Wx (.List es pos) (dLst m) :=
  PE.of (pe_lst h) fun σ H Q ⟨ρ, env, st, s, e, p⟩ => RG.bind s e p fun ρ1 H1 st1 l xs g1 s1 e1 r p1 => by
    by_cases hz : l.length ≤ sizeLine
    · rw [if_pos hz] at p1
      refine ⟨by rw [← VRs.length r]; exact hz, fun q hq => ?_⟩
      obtain ⟨a, b⟩ := lst_new s1 r hq
      exact p1 (ρ1 ++ [q]) _ _ (grow_new hq) a b
    · rw [if_neg hz] at p1; exact p1.elim
/-! tests -/
theorem iw_and1 {a : Expr} {m : D Bool} (ha : IT X ex Wx a m) : IW X ex Wx (.BoolOp .And [a] pos) m := pw_and1 ha
theorem iw_or1 {a : Expr} {m : D Bool} (ha : IT X ex Wx a m) : IW X ex Wx (.BoolOp .Or [a] pos) m := pw_or1 ha
theorem iw_and {a b : Expr} {rest : List Expr} {ma mb : D Bool} (ha : IT X ex Wx a ma) (hb : IW X ex Wx (.BoolOp .And (b :: rest) pos) mb) : IW X ex Wx (.BoolOp .And (a :: b :: rest) pos) (dAnd ma mb) :=
  PW.of (pw_and ha hb) fun σ H Q ⟨ρ, env, st, s, e, p⟩ => RG.bind s e p fun ρ1 H1 st1 a x g1 s1 e1 ra p1 => by
    have ra' : a = x := ra
    subst ra'
    by_cases h : a = true
    · rw [if_pos h] at p1 ⊢; exact ⟨ρ1, env, st1, s1, e1, p1⟩
    · rw [if_neg h] at p1 ⊢; exact p1.ok_ s1 rfl
theorem iw_or {a b : Expr} {rest : List Expr} {ma mb : D Bool} (ha : IT X ex Wx a ma) (hb : IW X ex Wx (.BoolOp .Or (b :: rest) pos) mb) : IW X ex Wx (.BoolOp .Or (a :: b :: rest) pos) (dOr ma mb) :=
  PW.of (pw_or ha hb) fun σ H Q ⟨ρ, env, st, s, e, p⟩ => RG.bind s e p fun ρ1 H1 st1 a x g1 s1 e1 ra p1 => by
    have ra' : a = x := ra
    subst ra'
    by_cases h : a = true
    · rw [if_pos h] at p1 ⊢; exact p1.ok_ s1 rfl
    · rw [if_neg h] at p1 ⊢; exact ⟨ρ1, env, st1, s1, e1, p1⟩
theorem it_w {e : Expr} {m : D Bool} (h : IW X ex Wx e m) : IT X ex Wx e m := PW.pt h
theorem it_not {a : Expr} {m : D Bool} (ha : IT X ex Wx a m) : IT X ex Wx (.UnaryOp .Not a pos) (dNot m) :=
  PT.of (pt_not ha) fun σ H Q ⟨ρ, env, st, s, e, p⟩ => RG.bind s e p fun ρ1 H1 st1 a x g1 s1 e1 ra p1 => by
    have ra' : a = x := ra
    subst ra'
    exact p1.ok_ s1 rfl
/-! as values -/
theorem ie_one {a : Expr} {op} {m : D W} (ha : IE X ex Wx a m) : IE X ex Wx (.BoolOp op [a] pos) m := pe_one ha
theorem ie_and {a b : Expr} {rest : List Expr} {ma mb : D W} (ha : IE X ex Wx a ma) (hb : IE X ex Wx (.BoolOp .And (b :: rest) pos) mb) : IE X ex Wx (.BoolOp .And (a :: b :: rest) pos) (dAndV ma mb) :=
  PE.of (pe_and ha hb) fun σ H Q ⟨ρ, env, st, s, e, p⟩ => RG.bind s e p fun ρ1 H1 st1 a x g1 s1 e1 ra p1 => by
    cases a with
    | bl c =>
      simp only [VR] at ra
      refine ⟨c, ra, ?_⟩
      simp only at p1
      by_cases h : c = true
      · rw [if_pos h] at p1 ⊢; exact ⟨ρ1, env, st1, s1, e1, p1⟩
      · rw [if_neg h] at p1 ⊢; exact p1.ok_ s1 (by simp [VR])
    | _ => exact p1.elim
theorem ie_or {a b : Expr} {rest : List Expr} {ma mb : D W} (ha : IE X ex Wx a ma) (hb : IE X ex Wx (.BoolOp .Or (b :: rest) pos) mb) : IE X ex Wx (.BoolOp .Or (a :: b :: rest) pos) (dOrV ma mb) :=
  PE.of (pe_or ha hb) fun σ H Q ⟨ρ, env, st, s, e, p⟩ => RG.bind s e p fun ρ1 H1 st1 a x g1 s1 e1 ra p1 => by
    cases a with
    | bl c =>
      simp only [VR] at ra
      refine ⟨c, ra, ?_⟩
      simp only at p1
      by_cases h : c = true
      · rw [if_pos h] at p1 ⊢; exact p1.ok_ s1 (by simp [VR])
      · rw [if_neg h] at p1 ⊢; exact ⟨ρ1, env, st1, s1, e1, p1⟩
    | _ => exact p1.elim
theorem ie_notV {a : Expr} {ma : D W} (ha : IE X ex Wx a ma) : IE X ex Wx (.UnaryOp .Not a pos) (dNotV ma) :=
  PE.of (pe_not ha) fun σ H Q ⟨ρ, env, st, s, e, p⟩ => RG.bind s e p fun ρ1 H1 st1 a x g1 s1 e1 ra p1 => by
    cases a with
    | bl c =>
      simp only [VR] at ra
      exact ⟨c, ra, p1.ok_ s1 (by simp [VR])⟩
    | _ => exact p1.elim
theorem ie_chain {a b c : Expr} {op op' : CmpOp} {r r' : R2} {f g : W → W → Store → Res W} {ma mb mc : D W} (ho : OpR X (compareOp op) r) (hf : OpOk X r f) (ho' : OpR X (compareOp op') r') (hg : OpOk X r' g) (ha : IE X ex Wx a ma) (hb : IE X ex Wx b mb) (hc : IE X ex Wx c mc)
    (hm : lastMarks [op, op'] [b, c] = false := by with_unfolding_all rfl) : IE X ex Wx (.Compare a [op, op'] [b, c] pos) (dChain f g ma mb mc) := by
  refine PE.of (pe_chain ho ho' ha hb hc hm) fun σ H Q ⟨ρ, env, st, s, e, p⟩ => RG.bind s e p fun ρ1 H1 st1 a x g1 s1 e1 ra p1 => RG.bind s1 e1 p1 fun ρ2 H2 st2 b y g2 s2 e2 rb p2 => ?_
  refine hf Wx ρ2 H2 st2 σ a b x y _ s2 (VR.grow s1.apart g2 a x ra) rb ?_
  generalize f a b st2 = q at p2
  cases q with
  | stuck => exact p2
  | err c fs st' => exact p2
  | ok z st3 =>
    intro ρ3 H3 zv g3 s3 rz
    simp only [Res.bind_ok] at p2
    cases z with
    | bl k =>
      simp only [relV, VR] at rz
      refine ⟨k, rz, ?_⟩
      cases k with
      | true =>
        rw [if_pos rfl]
        simp only at p2
        exact RG.bind s3 (e2.grow s2.apart g3) (Post.mono p2 g3) fun ρ4 H4 st4 c z g4 s4 e4 rc p4 => hg Wx ρ4 H4 st4 σ b c y z Q s4 (VR.grow s3.apart g4 b y (VR.grow s2.apart g3 b y rb)) rc p4
      | false =>
        rw [if_neg (by decide)]
        simp only at p2
        exact (Post.mono p2 g3).ok_ s3 (by simp [VR])
    | _ => exact p2.elim
end
end MP
namespace MP
open PySem PySem.Spec PyProof.Rows L2

/-! ### statements -/
inductive Fl where
  | nx | rt (v : W) | bk | ct
inductive RsS where
  | go (f : Fl) (env : EnvW) (st : Store)
  | err (c : Str) (fs : W) (env : EnvW) (st : Store)
  | stuck
abbrev DS := EnvW → Store → RsS
abbrev DT := W → EnvW → Store → Option (EnvW × Store)
/-- an expression's result, then a statement's -/
def Res.then {α : Type} (r : Res α) (env : EnvW) (k : α → Store → RsS) : RsS := match r with
  | .ok a st => k a st
  | .err c fs st => .err c fs env st
  | .stuck => .stuck
@[simp] theorem Res.then_ok {α : Type} (a : α) (st : Store) (env : EnvW) (k : α → Store → RsS) : (Res.ok a st).then env k = k a st := rfl
@[simp] theorem Res.then_err {α : Type} (c : Str) (fs : W) (st : Store) (env : EnvW) (k : α → Store → RsS) : (Res.err c fs st : Res α).then env k = .err c fs env st := rfl
@[simp] theorem Res.then_stuck {α : Type} (env : EnvW) (k : α → Store → RsS) : (Res.stuck : Res α).then env k = .stuck := rfl
def RsS.next (r : RsS) (k : EnvW → Store → RsS) : RsS := match r with
  | .go .nx env st => k env st
  | r => r
@[simp] theorem RsS.next_nx (env : EnvW) (st : Store) (k) : (RsS.go .nx env st).next k = k env st := rfl
@[simp] theorem RsS.next_rt (v : W) (env : EnvW) (st : Store) (k) : (RsS.go (.rt v) env st).next k = .go (.rt v) env st := rfl
@[simp] theorem RsS.next_bk (env : EnvW) (st : Store) (k) : (RsS.go .bk env st).next k = .go .bk env st := rfl
@[simp] theorem RsS.next_ct (env : EnvW) (st : Store) (k) : (RsS.go .ct env st).next k = .go .ct env st := rfl
@[simp] theorem RsS.next_err (c : Str) (fs : W) (env : EnvW) (st : Store) (k) : (RsS.err c fs env st).next k = .err c fs env st := rfl
@[simp] theorem RsS.next_stuck (k) : (RsS.stuck).next k = .stuck := rfl
def PostF (K : PySem.W.Frag) (D : Ends) (ρ : List Addr) (H : Hp) (σ : L2.St) : Fl → Prop
  | .nx => D.nx σ H
  | .bk => D.bk σ H
  | .ct => D.ct σ H
  | .rt v => ∀ x, VR K ρ H v x → D.rt x H
def PostS (K : PySem.W.Frag) (ex : Option Exn) (mg : Str → Option Value) (Wx : WX) (D : Ends) (ρ : List Addr) (H : Hp) (r : RsS) : Prop := match r with
  | .go f env' st' => ∀ ρ' H' σ', Grow ρ H ρ' H' → StR K ρ' H' st' → EnvR K ex ρ' H' env' σ' → PostF K D ρ' H' σ' f
  | .err c fs env' st' => ∀ ρ' H' σ' cls d, Grow ρ H ρ' H' → StR K ρ' H' st' → EnvR K ex ρ' H' env' σ' → ErR K mg ρ' H' c fs cls d → Wx cls d σ' H'
  | .stuck => False
section
variable {K : PySem.W.Frag} {ex : Option Exn} {mg : Str → Option Value} {Wx : WX} {ρ ρ1 : List Addr} {H H1 : Hp} {De : Ends}
theorem PostS.mono {r : RsS} (h : PostS K ex mg Wx De ρ H r) (g : Grow ρ H ρ1 H1) : PostS K ex mg Wx De ρ1 H1 r := by
  cases r with
  | go f env st => exact fun ρ' H' σ' g' => h ρ' H' σ' (g.trans g')
  | err c fs env st => exact fun ρ' H' σ' cls d g' => h ρ' H' σ' cls d (g.trans g')
  | stuck => exact h
theorem PostS.go_ {f : Fl} {env : EnvW} {st : Store} {σ : L2.St} (h : PostS K ex mg Wx De ρ H (.go f env st)) (s : StR K ρ H st) (e : EnvR K ex ρ H env σ) : PostF K De ρ H σ f := h ρ H σ .refl s e
end
def RS (X : Cx) (ex : Option Exn) (Wx : WX) (m : DS) : TS := fun D σ H => ∃ ρ env st, StR X.K ρ H st ∧ EnvR X.K ex ρ H env σ ∧ PostS X.K ex X.mg Wx D ρ H (m env st)
abbrev IS (X : Cx) (ex : Option Exn) (Wx : WX) (s : Stmt) (m : DS) : Prop := PS X s (RS X ex Wx m)
abbrev ISs (X : Cx) (ex : Option Exn) (Wx : WX) (s : List Stmt) (m : DS) : Prop := PSs X s (RS X ex Wx m)
theorem wipe_set {σ : L2.St} {i : Nat} {v : Option V} : ∀ {vs : List Nat}, i ∈ vs → wipe (σ.set i v) vs = wipe σ vs
  | [], h => nomatch h
  | j :: vs, h => by
    show (wipe (σ.set i v) vs).set j none = (wipe σ vs).set j none
    by_cases hj : i ∈ vs
    · rw [wipe_set hj]
    · have hij : i = j := by
        rcases List.mem_cons.mp h with h | h
        · exact h
        · exact absurd h hj
      subst hij
      have : ∀ (l : List Nat), i ∉ l → wipe (σ.set i v) l = (wipe σ l).set i v := by
        intro l
        induction l with
        | nil => intro _; rfl
        | cons k l ih =>
          intro hn
          have hk : i ≠ k := fun z => hn (z ▸ List.mem_cons_self)
          show (wipe (σ.set i v) l).set k none = ((wipe σ l).set k none).set i v
          rw [ih (fun z => hn (List.mem_cons_of_mem _ z)), List.set_comm _ _ hk]
      rw [this vs hj, List.set_set]
theorem wipe_wipe {σ : L2.St} {vs : List Nat} : wipe (wipe σ vs) vs = wipe σ vs := by
  have : ∀ (l : List Nat) (τ : L2.St), (∀ i ∈ l, i ∈ vs) → wipe (wipe τ l) vs = wipe τ vs := by
    intro l
    induction l with
    | nil => intro τ _; rfl
    | cons k l ih =>
      intro τ h
      show wipe ((wipe τ l).set k none) vs = wipe τ vs
      rw [wipe_set (h k List.mem_cons_self), ih τ fun i hi => h i (List.mem_cons_of_mem _ hi)]
  exact this vs σ fun _ h => h
/-- a target's reading: of the slots only those at vs may change -/
def RT (X : Cx) (ex : Option Exn) (vs : List Nat) (t : DT) : TG := fun v σ H Q => ∃ ρ env st w, StR X.K ρ H st ∧ EnvR X.K ex ρ H env σ ∧ VR X.K ρ H w v ∧ ∃ env' st', t w env st = some (env', st') ∧ ∀ ρ' H' σ', Grow ρ H ρ' H' → StR X.K ρ' H' st' → EnvR X.K ex ρ' H' env' σ' → wipe σ' vs = wipe σ vs → Q σ' H'
abbrev IG (X : Cx) (ex : Option Exn) (vs : List Nat) (e : Expr) (t : DT) : Prop := PG X e (RT X ex vs t)

/-! denotations -/
def sSeq (a b : DS) : DS := fun env st => (a env st).next b
def sNil : DS := fun env st => .go .nx env st
def sExpr (m : D W) : DS := fun env st => (m env st).then env fun _ st1 => .go .nx env st1
def sRet (m : D W) : DS := fun env st => (m env st).then env fun a st1 => .go (.rt a) env st1
def sRetN : DS := fun env st => .go (.rt .non) env st
def sBk : DS := fun env st => .go .bk env st
def sCt : DS := fun env st => .go .ct env st
def sIf (c : D Bool) (a b : DS) : DS := fun env st => (c env st).then env fun k st1 => if k = true then a env st1 else b env st1
def sNever : DS := fun _ _ => .stuck
def sAsg (m : D W) (t : DT) : DS := fun env st => (m env st).then env fun a st1 => match t a env st1 with
  | some (env', st2) => .go .nx env' st2
  | none => .stuck
def tName (i : Nat) : DT := fun w env st => some (env.set i (some w), st)
def tAll : List DT → List W → EnvW → Store → Option (EnvW × Store)
  | [], [], env, st => some (env, st)
  | t :: ts, w :: ws, env, st => (t w env st).bind fun p => tAll ts ws p.1 p.2
  | _, _, _, _ => none
def tTupT (ts : List DT) : DT := fun w env st => match w with
  | .tup ws => tAll ts ws env st
  | _ => none

section
variable {X : Cx} {ex : Option Exn} {Wx : WX} {pos : Pos} {α β : Type}
/-- an expression within a statement -/
theorem RS.step {rel : List Addr → Hp → α → β → Prop} {De : Ends} {ρ : List Addr} {H : Hp} {σ : L2.St} {env : EnvW} {st : Store} {m : D α} {k : α → Store → RsS} {R : β → Hp → Prop}
    (s : StR X.K ρ H st) (e : EnvR X.K ex ρ H env σ) (h : PostS X.K ex X.mg Wx De ρ H ((m env st).then env k))
    (hk : ∀ ρ1 H1 st1 a x, Grow ρ H ρ1 H1 → StR X.K ρ1 H1 st1 → EnvR X.K ex ρ1 H1 env σ → rel ρ1 H1 a x → PostS X.K ex X.mg Wx De ρ1 H1 (k a st1) → R x H1) : RG X ex Wx rel m σ H R := by
  refine ⟨ρ, env, st, s, e, ?_⟩
  generalize hm : m env st = r at h
  cases r with
  | ok a st' => exact fun ρ' H' x g s' r => hk ρ' H' st' a x g s' (e.grow s.apart g) r (PostS.mono h g)
  | err c fs st' => exact fun ρ' H' cls d g s' r => h ρ' H' σ cls d g s' (e.grow s.apart g) r
  | stuck => exact h
/-- the first of two statements -/
theorem PostS.seq {De : Ends} {ρ : List Addr} {H : Hp} {r : RsS} {k : DS} (h : PostS X.K ex X.mg Wx De ρ H (r.next k)) : PostS X.K ex X.mg Wx { De with nx := RS X ex Wx k De } ρ H r := by
  cases r with
  | stuck => exact h
  | err c fs env st => exact h
  | go f env st =>
    cases f with
    | nx => exact fun ρ' H' σ' g s e => ⟨ρ', env, st, s, e, PostS.mono h g⟩
    | rt v => exact h
    | bk => exact h
    | ct => exact h
theorem is_cons {a : Stmt} {rest : List Stmt} {m k : DS} (ha : IS X ex Wx a m) (hr : ISs X ex Wx rest k) : ISs X ex Wx (a :: rest) (sSeq m k) :=
  PSs.of (pss_cons ha hr) fun D σ H ⟨ρ, env, st, s, e, p⟩ => ⟨ρ, env, st, s, e, PostS.seq p⟩
theorem is_one {a : Stmt} {m : DS} (ha : IS X ex Wx a m) : ISs X ex Wx [a] m := pss_one ha
theorem is_nil : ISs X ex Wx [] sNil := PSs.of pss_nil fun D σ H ⟨ρ, env, st, s, e, p⟩ => p.go_ s e
theorem is_never {a : Stmt} : IS X ex Wx a sNever := PS.of ps_never fun D σ H ⟨ρ, env, st, s, e, p⟩ => p
theorem is_neverS {a : List Stmt} : ISs X ex Wx a sNever := PSs.of pss_never fun D σ H ⟨ρ, env, st, s, e, p⟩ => p
theorem is_pass : IS X ex Wx (.Pass pos) sNil := PS.of ps_pass fun D σ H ⟨ρ, env, st, s, e, p⟩ => p.go_ s e
theorem is_break : IS X ex Wx (.Break pos) sBk := PS.of ps_break fun D σ H ⟨ρ, env, st, s, e, p⟩ => p.go_ s e
theorem is_continue : IS X ex Wx (.Continue pos) sCt := PS.of ps_continue fun D σ H ⟨ρ, env, st, s, e, p⟩ => p.go_ s e
theorem is_expr {e : Expr} {m : D W} (he : IE X ex Wx e m) (hs : swapsWith e none pos.line X.env = pure false := by rfl) : IS X ex Wx (.Expr e pos) (sExpr m) :=
  PS.of (ps_expr he hs) fun De σ H ⟨ρ, env, st, s, e, p⟩ => RS.step s e p fun ρ1 H1 st1 a x g s1 e1 r p1 => PostS.go_ (f := .nx) p1 s1 e1
theorem is_ret {e : Expr} {m : D W} (he : IE X ex Wx e m) : IS X ex Wx (.Return (some e) pos) (sRet m) :=
  PS.of (ps_ret he) fun D σ H ⟨ρ, env, st, s, e, p⟩ => RS.step s e p fun ρ1 H1 st1 a x g s1 e1 r p1 => PostS.go_ (f := .rt a) p1 s1 e1 x r
theorem is_retN : IS X ex Wx (.Return none pos) sRetN := PS.of ps_retN fun D σ H ⟨ρ, env, st, s, e, p⟩ => p.go_ s e .non (by simp [VR])
theorem is_if {c : Expr} {a b : List Stmt} {mc : D Bool} {ma mb : DS} (hc : IT X ex Wx c mc) (ha : ISs X ex Wx a ma) (hb : ISs X ex Wx b mb) : IS X ex Wx (.If c a b pos) (sIf mc ma mb) :=
  PS.of (ps_if hc ha hb) fun D σ H ⟨ρ, env, st, s, e, p⟩ => RS.step (rel := relE) s e p fun ρ1 H1 st1 k x g s1 e1 r p1 => by
    have r' : k = x := r
    subst r'
    by_cases h : k = true
    · rw [if_pos h] at p1 ⊢; exact ⟨ρ1, env, st1, s1, e1, p1⟩
    · rw [if_neg h] at p1 ⊢; exact ⟨ρ1, env, st1, s1, e1, p1⟩
/-! targets -/
theorem ig_name {vs : List Nat} {i : Nat} {x : Str} (hv : i ∈ vs) (hx0 : ExOk ex i := by exact ExOk.none) (hN : X.N.Nodup) (hi : X.N[i]? = some x) (hx : Loc X.env.scope x) (hf : X.fn x = true ∨ X.env.scope.names.lookup x = some .local := by first | exact .inl rfl | exact .inr rfl | assumption) : IG X ex vs (.Name x pos) (tName i) :=
  ⟨fun pins s σ H v u Q I r h => (pg_name hN hi hx hf).run pins s σ H v u Q I r (by
    obtain ⟨ρ, env, st, w, s, e, rv, env', st', q, p⟩ := h
    cases q
    exact p ρ H _ .refl s (e.set hx0 rv) (wipe_set hv))⟩
theorem is_asg {vs : List Nat} {tg e : Expr} {m : D W} {t : DT} (he : IE X ex Wx e m) (hg : IG X ex vs tg t) (hs : swapsWithSole [tg] e pos.line X.env = pure false := by rfl) (hw : swappedStores [tg] e X.env = pure none := by rfl)
    (h1 : (assignEach [tg] X.env).map (·.2) = [assign tg X.env] := by rfl) : IS X ex Wx (.Assign [tg] e pos) (sAsg m t) :=
  PS.of (ps_asg he hg hs hw h1) fun D σ H ⟨ρ, env, st, s, e, p⟩ => RS.step s e p fun ρ1 H1 st1 a x g s1 e1 r p1 => by
    refine ⟨ρ1, env, st1, a, s1, e1, r, ?_⟩
    generalize t a env st1 = q at p1
    match q, p1 with
    | some (env', st'), p1 => exact ⟨env', st', rfl, fun ρ' H' σ' g' s' e' _ => p1 ρ' H' σ' g' s' e'⟩
    | none, p1 => exact p1.elim
theorem is_set {i : Nat} {x : Str} {e : Expr} {m : D W} {pos' : Pos} (hx0 : ExOk ex i) (hN : X.N.Nodup) (hi : X.N[i]? = some x) (hx : Loc X.env.scope x) (he : IE X ex Wx e m) (hs : swapsWith e (some (.Name x pos')) pos.line X.env = pure false := by rfl)
    (hf : X.fn x = true ∨ X.env.scope.names.lookup x = some .local := by first | exact .inl rfl | exact .inr rfl | assumption) : IS X ex Wx (.Assign [.Name x pos'] e pos) (sAsg m (tName i)) :=
  PS.of (ps_set hN hi hx he hs hf) fun D σ H ⟨ρ, env, st, s, e, p⟩ => RS.step s e p fun ρ1 H1 st1 a x g s1 e1 r p1 => PostS.go_ p1 s1 (e1.set hx0 r)
/-- several targets by the parts of a tuple -/
def RTs (X : Cx) (ex : Option Exn) (vl : List Nat) (ts : List DT) : TGs := fun vs σ H Q => ∃ ρ env st ws, StR X.K ρ H st ∧ EnvR X.K ex ρ H env σ ∧ VRs X.K ρ H ws vs ∧
  ∃ env' st', tAll ts ws env st = some (env', st') ∧ ∀ ρ' H' σ', Grow ρ H ρ' H' → StR X.K ρ' H' st' → EnvR X.K ex ρ' H' env' σ' → wipe σ' vl = wipe σ vl → Q σ' H'
abbrev IGs (X : Cx) (ex : Option Exn) (vl : List Nat) (es : List Expr) (ts : List DT) : Prop := PGs X es (RTs X ex vl ts)
theorem PGs.of {es : List Expr} {t t' : TGs} (h : PGs X es t) (w : ∀ vs σ H Q, t' vs σ H Q → t vs σ H Q) : PGs X es t' := ⟨fun pins s σ H vs us Q I r q => h.run pins s σ H vs us Q I r (w _ _ _ _ q)⟩
theorem PG.of {e : Expr} {t t' : TG} (h : PG X e t) (w : ∀ v σ H Q, t' v σ H Q → t v σ H Q) : PG X e t' := ⟨fun pins s σ H v u Q I r q => h.run pins s σ H v u Q I r (w _ _ _ _ q)⟩
theorem igs_nil {vl : List Nat} : IGs X ex vl [] [] := PGs.of pgs_nil fun vs σ H Q ⟨ρ, env, st, ws, s, e, r, env', st', q, p⟩ => by
  cases ws with
  | nil =>
    simp only [VRs] at r
    simp only [tAll, Option.some.injEq, Prod.mk.injEq] at q
    obtain ⟨rfl, rfl⟩ := q
    exact ⟨r, p ρ H σ .refl s e rfl⟩
  | cons w ws => simp [tAll] at q
theorem igs_cons {vl : List Nat} {e : Expr} {es : List Expr} {t : DT} {ts : List DT} (h1 : IG X ex vl e t) (h2 : IGs X ex vl es ts) (hs : (assignEach (e :: es) X.env).map (·.2) = assign e X.env :: (assignEach es X.env).map (·.2) := by rfl) : IGs X ex vl (e :: es) (t :: ts) :=
  PGs.of (pgs_cons h1 h2 hs) fun vs σ H Q ⟨ρ, env, st, ws, s, e, r, env', st', q, p⟩ => by
    cases ws with
    | nil => simp [tAll] at q
    | cons w ws =>
      simp only [VRs] at r
      obtain ⟨u, us, rfl, ru, rs⟩ := r
      unfold tAll at q
      cases ht : t w env st with
      | none => rw [ht] at q; cases q
      | some pr =>
        obtain ⟨env1, st1⟩ := pr
        rw [ht] at q
        refine ⟨u, us, rfl, ρ, env, st, w, s, e, ru, env1, st1, ht, fun ρ1 H1 σ1 g s1 e1 w1 => ?_⟩
        exact ⟨ρ1, env1, st1, ws, s1, e1, VRs.grow s.apart g ws us rs, env', st', q, fun ρ' H' σ' g' s' e' w' => p ρ' H' σ' (g.trans g') s' e' (w'.trans w1)⟩
theorem tAll_len : ∀ {ts : List DT} {ws : List W} {env : EnvW} {st : Store} {r : EnvW × Store}, tAll ts ws env st = some r → ws.length = ts.length
  | [], [], _, _, _, _ => rfl
  | [], _ :: _, _, _, _, h => by simp [tAll] at h
  | _ :: _, [], _, _, _, h => by simp [tAll] at h
  | t :: ts, w :: ws, env, st, r, h => by
    unfold tAll at h
    cases ht : t w env st with
    | none => rw [ht] at h; cases h
    | some pr => rw [ht] at h; simp [tAll_len (show tAll ts ws pr.1 pr.2 = some r from h)]
theorem ig_tup {vl : List Nat} {es : List Expr} {k : Nat} {ts : List DT} (hc : X.calm = true) (h : IGs X ex vl es ts) (hn : (assignEach es X.env).length = ts.length := by rfl) (hst : (assignEach es X.env).findIdx? (·.1) = none := by rfl) : IG X ex vl (.Tuple es k pos) (tTupT ts) :=
  PG.of (pg_tup hc h hn hst) fun v σ H Q ⟨ρ, env, st, w, s, e, r, env', st', q, p⟩ => by
    cases w with
    | tup ws =>
      simp only [VR] at r
      obtain ⟨a, us, rfl, ht, rs⟩ := r
      have q' : tAll ts ws env st = some (env', st') := q
      exact ⟨a, us, rfl, ht.sq, by rw [← VRs.length rs, tAll_len q'], ρ, env, st, ws, s, e, rs, env', st', q', p⟩
    | _ => simp [tTupT] at q
end
end MP
namespace MP
open PySem PySem.Spec PyProof.Rows L2
open Classical
noncomputable section

/-! ### what is walked -/
structure ItW where
  items : List W
  src : Option Nat
/-- the list that is walked stands as it stood -/
def ItW.Chk (it : ItW) (st : Store) : Prop := match it.src with
  | none => True
  | some n => st[n]? = some (.lst it.items)
@[simp] theorem ItW.chk_none (l : List W) (st : Store) : ItW.Chk ⟨l, none⟩ st = True := rfl
@[simp] theorem ItW.chk_some (l : List W) (n : Nat) (st : Store) : ItW.Chk ⟨l, some n⟩ st = (st[n]? = some (.lst l)) := rfl
def signs (x : Str) : List W := x.cps.toList.map fun c => .str ⟨#[c]⟩
def intsW (lo : Int) (n : Nat) : List W := (List.range n).map fun i => .int (lo + (i : Nat))
def itOf (a : W) (st : Store) : Res ItW := match a with
  | .tup xs => .ok ⟨xs, none⟩ st
  | .fro xs => .ok ⟨xs, none⟩ st
  | .str x => .ok ⟨signs x, none⟩ st
  | .loc n => match st[n]? with
    | some (.lst xs) => .ok ⟨xs, some n⟩ st
    | none => .stuck
  | .rng lo hi => if -(2 ^ 62) ≤ lo ∧ lo < 2 ^ 62 ∧ -(2 ^ 62) ≤ hi ∧ hi < 2 ^ 62 then .ok ⟨intsW lo (hi - lo).toNat, none⟩ st else .stuck
  | _ => .stuck
def dIt (m : D W) : D ItW := fun env st => (m env st).bind fun a st1 => itOf a st1
def rangeW (lo hi : Int) (st : Store) : Res ItW := if -(2 ^ 62) ≤ lo ∧ lo < 2 ^ 62 ∧ -(2 ^ 62) ≤ hi ∧ hi < 2 ^ 62 then .ok ⟨intsW lo (hi - lo).toNat, none⟩ st else .stuck
def rangeOf (l : List W) (st : Store) : Res ItW := match l with
  | [.int j] => rangeW 0 j st
  | [.int i, .int j] => rangeW i j st
  | _ => .stuck
def dRange (m : D (List W)) : D ItW := fun env st => (m env st).bind fun l st1 => rangeOf l st1
def dRange1 (m : D (List W)) : D ItW := dRange (fun env st => (m env st).bind fun l st1 => match l with | [.int j] => .ok [.int j] st1 | _ => .stuck)
def dRange2 (m : D (List W)) : D ItW := dRange (fun env st => (m env st).bind fun l st1 => match l with | [.int i, .int j] => .ok [.int i, .int j] st1 | _ => .stuck)
def forW (chk : Store → Prop) (t : DT) (b : DS) : List W → DS
  | [], env, st => if chk st then .go .nx env st else .stuck
  | w :: ws, env, st => if chk st then
      match t w env st with
      | none => .stuck
      | some (env1, st1) => match b env1 st1 with
        | .go .nx env2 st2 => forW chk t b ws env2 st2
        | .go .ct env2 st2 => forW chk t b ws env2 st2
        | .go .bk env2 st2 => .go .nx env2 st2
        | r => r
    else .stuck
def sFor (m : D ItW) (t : DT) (b : DS) : DS := fun env st => (m env st).then env fun it st1 => forW it.Chk t b it.items env st1
def whileF (c : D Bool) (b : DS) : Nat → DS
  | 0, _, _ => .stuck
  | n + 1, env, st => (c env st).then env fun k st1 => if k = true then
      match b env st1 with
      | .go .nx env2 st2 => whileF c b n env2 st2
      | .go .ct env2 st2 => whileF c b n env2 st2
      | .go .bk env2 st2 => .go .nx env2 st2
      | r => r
    else .go .nx env st1
def sWhile (c : D Bool) (b : DS) : DS := fun env st => if h : ∃ n, whileF c b n env st ≠ .stuck then whileF c b h.choose env st else .stuck
/-- a comprehension's elements -/
def wipeW (env : EnvW) : List Nat → EnvW
  | [] => env
  | v :: vs => (wipeW env vs).set v none
def lcW (chk : Store → Prop) (env : EnvW) (t : DT) (c : D Bool) (e : D W) : List W → List W → Store → Option (List W × Store)
  | [], acc, st => if chk st then some (acc, st) else none
  | w :: ws, acc, st => if chk st then
      match t w env st with
      | none => none
      | some (env1, st1) => match c env1 st1 with
        | .ok true st2 => match e env1 st2 with
          | .ok y st3 => if acc.length < sizeLine then lcW chk env t c e ws (acc ++ [y]) st3 else none
          | _ => none
        | .ok false st2 => lcW chk env t c e ws acc st2
        | _ => none
    else none
def dYes : D Bool := fun _ st => .ok true st
def dLc (m : D ItW) (vs : List Nat) (t : DT) (c : D Bool) (e : D W) : D W := fun env st => (m env st).bind fun it st1 =>
  match lcW it.Chk (wipeW env vs) t c e it.items [] st1 with
  | some (acc, st2) => .ok (.loc st2.length) (st2 ++ [.lst acc])
  | none => .stuck

section
variable {X : Cx} {ex : Option Exn} {Wx : WX} {pos : Pos}
/-- an iterator walks these things -/
def relI (X : Cx) : List Addr → Hp → ItW → It → Prop := fun ρ0 H0 it J =>
  ∀ ρ H st, Grow ρ0 H0 ρ H → StR X.K ρ H st → it.Chk st → ∀ i, (∀ w, it.items[i]? = some w → J.go i H ∧ ∀ x H', J.yld i H x H' → Grow ρ H ρ H' ∧ StR X.K ρ H' st ∧ VR X.K ρ H' w x) ∧ (it.items.length ≤ i → J.stop i H)
abbrev II (X : Cx) (ex : Option Exn) (Wx : WX) (tg e : Expr) (m : D ItW) : Prop := PI X tg e (RG X ex Wx (relI X) m)
theorem PI.of {tg e : Expr} {t t' : TI} (h : PI X tg e t) (w : ∀ σ H R, t' σ H R → t σ H R) : PI X tg e t' := ⟨fun pins s σ H R I q => h.run pins s σ H R I (w _ _ _ q)⟩
theorem PI.or {tg e : Expr} {t t' : TI} (h : PI X tg e t) (h' : PI X tg e t') : PI X tg e (fun σ H R => t σ H R ∨ t' σ H R) := ⟨fun pins s σ H R I q => by
  rcases q with q | q
  · exact h.run pins s σ H R I q
  · exact h'.run pins s σ H R I q⟩
theorem relI_list {ρ : List Addr} {H : Hp} {st : Store} {ws : List W} {us : List V} {a : Addr} (s : StR X.K ρ H st) (ht : SqF X.K H a us) (r : VRs X.K ρ H ws us) : relI X ρ H ⟨ws, none⟩ (Itl X.K a) := by
  intro ρ' H' st' g s' _ i
  have h' := ht.grow s.apart g
  have r' := VRs.grow s.apart g ws us r
  refine ⟨fun w e => ?_, fun h => ⟨us, h'.sq, by rw [← VRs.length r]; exact h⟩⟩
  obtain ⟨v, e1, rv⟩ := r'.get e
  refine ⟨⟨us, v, h'.sq, e1⟩, fun x H2 ⟨e2, y⟩ => ?_⟩
  subst e2
  have := y us h'.sq
  rw [e1] at this; cases this
  exact ⟨.refl, s', rv⟩
theorem relI_tup {ρ : List Addr} {H : Hp} {st : Store} {ws : List W} {us : List V} {a : Addr} (s : StR X.K ρ H st) (ht : TpF X.K H a us) (r : VRs X.K ρ H ws us) : relI X ρ H ⟨ws, none⟩ (Itt X.K a) := by
  intro ρ' H' st' g s' _ i
  have h' := ht.grow s.apart g
  have r' := VRs.grow s.apart g ws us r
  refine ⟨fun w e => ?_, fun h => ⟨us, h'.sq, by rw [← VRs.length r]; exact h⟩⟩
  obtain ⟨v, e1, rv⟩ := r'.get e
  refine ⟨⟨us, v, h'.sq, e1⟩, fun x H2 ⟨e2, y⟩ => ?_⟩
  subst e2
  have := y us h'.sq
  rw [e1] at this; cases this
  exact ⟨.refl, s', rv⟩
theorem relI_loc {ρ : List Addr} {H : Hp} {ws : List W} {n : Nat} {a : Addr} (hn : ρ[n]? = some a) : relI X ρ H ⟨ws, some n⟩ (Itl X.K a) := by
  intro ρ' H' st' g s' ck i
  obtain ⟨m, e, _⟩ := g.pre
  subst e
  obtain ⟨b, hb, us, hu, r⟩ := s'.ob n (.lst ws) ck
  have : b = a := by
    rw [List.getElem?_append_left (List.getElem?_eq_some_iff.mp hn).1, hn] at hb
    exact (Option.some.inj hb).symm
  subst this
  have hs : SqL X.K H' b us := .inl (.inl hu)
  refine ⟨fun w e => ?_, fun h => ⟨us, hs, by rw [← VRs.length r]; exact h⟩⟩
  obtain ⟨v, e1, rv⟩ := r.get e
  refine ⟨⟨us, v, hs, e1⟩, fun x H2 ⟨e2, y⟩ => ?_⟩
  subst e2
  have := y us hs
  rw [e1] at this; cases this
  exact ⟨.refl, s', rv⟩
theorem relI_str {ρ : List Addr} {H : Hp} {z : Str} : relI X ρ H ⟨signs z, none⟩ (Its z) := by
  intro ρ' H' st' g s' _ i
  have hl : (signs z).length = z.cps.size := by simp [signs]
  refine ⟨fun w e => ?_, fun h => by show z.cps.size ≤ i; rw [← hl]; exact h⟩
  simp only [signs, List.getElem?_map] at e
  cases hc : z.cps.toList[i]? with
  | none => rw [hc] at e; cases e
  | some c =>
    rw [hc] at e
    cases e
    have hi : i < z.cps.size := by simpa using (List.getElem?_eq_some_iff.mp hc).1
    refine ⟨hi, fun x H2 ⟨e2, c', hc', e3⟩ => ?_⟩
    subst e2; subst e3
    have hcc : z.cps[i]? = some c := by simpa using hc
    rw [hcc] at hc'; cases hc'
    exact ⟨.refl, s', by simp [VR]⟩
theorem relI_range {ρ : List Addr} {H : Hp} {lo : Int} {n : Nat} : relI X ρ H ⟨intsW lo n, none⟩ (Itr lo n) := by
  intro ρ' H' st' g s' _ i
  have hl : (intsW lo n).length = n := by simp [intsW]
  refine ⟨fun w e => ?_, fun h => by show n ≤ i; rw [← hl]; exact h⟩
  have hi : i < n := by rw [← hl]; exact (List.getElem?_eq_some_iff.mp e).1
  refine ⟨hi, fun x H2 ⟨e2, e3⟩ => ?_⟩
  subst e2; subst e3
  simp only [intsW, List.getElem?_map, List.getElem?_range hi, Option.map_some, Option.some.injEq] at e
  subst e
  exact ⟨.refl, s', by simp [VR]⟩
/-- a range that a name holds -/
def iRngV (te : TE) : TI := fun σ H R => te σ H fun x H1 => ∃ (a : Addr) (lo hi : Int), x = .ref a ∧ H1 a = some (.rng lo hi) ∧ (-(2 ^ 62) ≤ lo ∧ lo < 2 ^ 62 ∧ -(2 ^ 62) ≤ hi ∧ hi < 2 ^ 62) ∧ R (Itr lo (hi - lo).toNat) H1
theorem pi_rngV {X : Cx} {tg e : Expr} {te : TE} (he : PE X e te) : PI X tg e (iRngV te) := by
  refine ⟨fun pins s σ H R I h => thn (he.run pins s σ H _ I h) fun v s1 ⟨x, H1, I1, r1, q1⟩ => ?_⟩
  obtain ⟨a, lo, hi, rfl, hq, ⟨h1, h2, h3, h4⟩, q⟩ := q1
  cases r1
  obtain ⟨t, u, v, hget⟩ := I1.hok a _ hq
  refine wpAny_pyIter_range (show IsRange s1.heap a lo hi 1 t u v from hget) (small_one h1 h2 h3 h4) ?_
  refine ⟨s1.heap.objs.size, [s1.heap.objs.size], _, _, H1, rfl, I1.kept (t' := s1.toks) fun b o e => Heap.get?_push_of_some _ e, turn_range _ lo (hi - lo).toNat, ?_, fun b hb => ?_, q⟩
  · have e1 : lo + ((0 : Nat) : Int) * 1 = lo := by simp
    have e2 : (((hi - lo).toNat : Nat) : Int) - ((0 : Nat) : Int) = Builtin.Range.rangeSize lo hi 1 := by rw [rangeSize_one]; split <;> omega
    show IsRangeIter _ _ (lo + ((0 : Nat) : Int) * 1) ((((hi - lo).toNat : Nat) : Int) - ((0 : Nat) : Int)) 1
    rw [e1, e2]
    exact Heap.get?_push_size _ rfl
  · have e : b = s1.heap.objs.size := by simpa using hb
    subst e
    exact I1.fpOk (Nat.le_refl _) (I1.hok.fresh (Nat.le_refl _))
theorem ii_val {tg e : Expr} {m : D W} (he : IE X ex Wx e m) : II X ex Wx tg e (dIt m) := by
  refine PI.of (PI.or (pi_list he) (PI.or (pi_tup he) (PI.or (pi_str he) (pi_rngV he)))) fun σ H R ⟨ρ, env, st, s, e, p⟩ => ?_
  have key : ∀ (ok : W → Store → Prop) (R' : V → Hp → Prop), (∀ a st1, m env st = .ok a st1 → ok a st1) →
      (∀ ρ1 H1 st1 a x, ok a st1 → Grow ρ H ρ1 H1 → StR X.K ρ1 H1 st1 → VR X.K ρ1 H1 a x → Post X.K X.mg Wx (relI X) ρ1 H1 σ (itOf a st1) R → R' x H1) → RG X ex Wx (relV X.K) m σ H R' := fun ok R' h1 h2 => by
    refine ⟨ρ, env, st, s, e, ?_⟩
    unfold dIt at p
    generalize hm : m env st = r at p h1
    cases r with
    | ok a st' => exact fun ρ' H' x g s' r => h2 ρ' H' st' a x (h1 a st' rfl) g s' r (Post.mono p g)
    | err c fs st' => exact p
    | stuck => exact p
  have p0 := p
  unfold dIt at p0
  generalize hm : m env st = r at p0
  cases r with
  | stuck => exact p0.elim
  | err c fs st' =>
    refine .inl (key (fun _ _ => False) _ (fun a st1 h => ?_) (fun _ _ _ _ _ h => h.elim))
    rw [hm] at h; cases h
  | ok a0 st0 =>
    have same : ∀ a st1, m env st = .ok a st1 → (a = a0 ∧ st1 = st0) := fun a st1 h => by rw [hm] at h; cases h; exact ⟨rfl, rfl⟩
    cases a0 with
    | tup xs =>
      refine .inr (.inl (key _ _ same fun ρ1 H1 st1 a x h g s1 r q => ?_))
      obtain ⟨rfl, rfl⟩ := h
      simp only [VR] at r
      obtain ⟨ad, us, rfl, ht, rs⟩ := r
      exact ⟨ad, rfl, ⟨us, ht.sq⟩, q ρ1 H1 _ .refl s1 (relI_tup s1 ht rs)⟩
    | fro xs =>
      refine .inl (key _ _ same fun ρ1 H1 st1 a x h g s1 r q => ?_)
      obtain ⟨rfl, rfl⟩ := h
      simp only [VR] at r
      obtain ⟨ad, us, rfl, ht, rs⟩ := r
      exact ⟨ad, rfl, ⟨us, ht.sq⟩, q ρ1 H1 _ .refl s1 (relI_list s1 ht rs)⟩
    | loc n =>
      refine .inl (key _ _ same fun ρ1 H1 st1 a x h g s1 r q => ?_)
      obtain ⟨rfl, rfl⟩ := h
      simp only [VR] at r
      obtain ⟨ad, hn, rfl⟩ := r
      simp only [itOf] at q
      split at q
      · rename_i xs hx
        obtain ⟨b, hb, us, hu, rs⟩ := s1.ob n (.lst xs) hx
        rw [hn] at hb; cases hb
        exact ⟨ad, rfl, ⟨us, .inl (.inl hu)⟩, q ρ1 H1 _ .refl s1 (relI_loc hn)⟩
      · exact q.elim
    | str z =>
      refine .inr (.inr (.inl (key _ _ same fun ρ1 H1 st1 a x h g s1 r q => ?_)))
      obtain ⟨rfl, rfl⟩ := h
      simp only [VR] at r
      exact ⟨z, r, q ρ1 H1 _ .refl s1 relI_str⟩
    | rng lo hi =>
      refine .inr (.inr (.inr (key _ _ same fun ρ1 H1 st1 a x h g s1 r q => ?_)))
      obtain ⟨rfl, rfl⟩ := h
      simp only [VR] at r
      obtain ⟨ad, rfl, hr⟩ := r
      simp only [itOf] at q
      split at q
      · rename_i hb
        exact ⟨ad, lo, hi, rfl, hr, hb, q ρ1 H1 _ .refl s1 relI_range⟩
      · exact q.elim
    | _ => exact p0.elim
theorem ii_range1 {tg a : Expr} {m : D (List W)} {p' : Pos} (hg : Gl X "range") (hm : X.mg "range" = none) (ha : IA X ex Wx [a] m) (hs : starEach [a] X.env = [(false, eval a X.env)] := by rfl) : II X ex Wx tg (.Call (.Name "range" p') [a] [] pos) (dRange1 m) :=
  PI.of (pi_range1 hg hm ha hs) fun σ H R ⟨ρ, env, st, s, e, p⟩ => by
    have p' : Post X.K X.mg Wx (relI X) ρ H σ ((m env st).bind fun l st1 => match l with | [.int j] => rangeW 0 j st1 | _ => .stuck) R := by
      unfold dRange1 dRange at p
      simp only at p
      generalize m env st = r at p ⊢
      cases r with
      | ok l st1 =>
        simp only [Res.bind_ok] at p ⊢
        match l, p with
        | [.int j], p => exact p
      | err c fs st1 => exact p
      | stuck => exact p
    refine RG.bind s e p' fun ρ1 H1 st1 l vs g1 s1 e1 r q => ?_
    match l, q, r with
    | [.int j], q, r =>
      simp only [VRs, VR] at r
      obtain ⟨_, _, rfl, rfl, rfl⟩ := r
      simp only [rangeW] at q
      split at q
      · rename_i hb
        have e0 : (j - 0).toNat = j.toNat := by omega
        rw [e0] at q
        exact ⟨j, rfl, hb.2.2.1, hb.2.2.2, q ρ1 H1 _ .refl s1 relI_range⟩
      · exact q.elim
theorem ii_range2 {tg a b : Expr} {m : D (List W)} {p' : Pos} (hg : Gl X "range") (hm : X.mg "range" = none) (ha : IA X ex Wx [a, b] m) (hs : starEach [a, b] X.env = [(false, eval a X.env), (false, eval b X.env)] := by rfl) (hs2 : starEach [b] X.env = [(false, eval b X.env)] := by rfl) :
    II X ex Wx tg (.Call (.Name "range" p') [a, b] [] pos) (dRange2 m) :=
  PI.of (pi_range2 hg hm ha hs hs2) fun σ H R ⟨ρ, env, st, s, e, p⟩ => by
    have p' : Post X.K X.mg Wx (relI X) ρ H σ ((m env st).bind fun l st1 => match l with | [.int i, .int j] => rangeW i j st1 | _ => .stuck) R := by
      unfold dRange2 dRange at p
      simp only at p
      generalize m env st = r at p ⊢
      cases r with
      | ok l st1 =>
        simp only [Res.bind_ok] at p ⊢
        match l, p with
        | [.int i, .int j], p => exact p
      | err c fs st1 => exact p
      | stuck => exact p
    refine RG.bind s e p' fun ρ1 H1 st1 l vs g1 s1 e1 r q => ?_
    match l, q, r with
    | [.int i, .int j], q, r =>
      simp only [VRs, VR] at r
      obtain ⟨_, _, rfl, rfl, _, _, rfl, rfl, rfl⟩ := r
      simp only [rangeW] at q
      split at q
      · rename_i hb
        exact ⟨i, j, rfl, hb, q ρ1 H1 _ .refl s1 relI_range⟩
      · exact q.elim
/-! ### loops -/
theorem is_for {vs : List Nat} {tg iter : Expr} {body : List Stmt} {m : D ItW} {t : DT} {b : DS} (hp : PassesOwn (model X.prog X.w) X.A X.env X.xe) (hc : X.calm = true) (hi : II X ex Wx tg iter m) (hg : IG X ex vs tg t) (hb : ISs X ex Wx body b) (hs : ∀ x, foldedSetIterable iter X.env x = pure x := by intro _; rfl) : IS X ex Wx (.For tg iter body [] pos) (sFor m t b) :=
  PS.of (ps_for hp hc hi hg hb hs) fun De σ H ⟨ρ, env, st, s, e, p⟩ => RS.step (rel := relI X) s e p fun ρ1 H1 st1 it J g s1 e1 r q => by
    refine ⟨fun i m σ H => m = it.items.length - i ∧ i ≤ it.items.length ∧ ∃ ρ env st, Grow ρ1 H1 ρ H ∧ StR X.K ρ H st ∧ EnvR X.K ex ρ H env σ ∧ PostS X.K ex X.mg Wx De ρ H (forW it.Chk t b (it.items.drop i) env st),
      ⟨_, rfl, Nat.zero_le _, ρ1, env, st1, .refl, s1, e1, q⟩, ?_⟩
    rintro i m σ' H' ⟨rfl, hi, ρ', env', st', g', s', e', q'⟩
    by_cases hlt : i < it.items.length
    · rw [List.drop_eq_getElem_cons hlt] at q'
      unfold forW at q'
      split at q'
      · rename_i ck
        obtain ⟨go, stop⟩ := r ρ' H' st' g' s' ck i
        obtain ⟨hgo, hy⟩ := go _ (List.getElem?_eq_getElem hlt)
        refine .inr ⟨hgo, fun σ2 H2 => ∃ ρ env st, Grow ρ1 H1 ρ H2 ∧ StR X.K ρ H2 st ∧ EnvR X.K ex ρ H2 env σ2 ∧ PostS X.K ex X.mg Wx De ρ H2 (forW it.Chk t b (it.items.drop (i + 1)) env st), fun σ2 H2 n => ⟨_, by omega, rfl, hlt, n⟩, fun x H2 y => ?_⟩
        obtain ⟨g2, s2, rv⟩ := hy x H2 y
        have e2 := e'.grow s'.apart g2
        cases ht : t it.items[i] env' st' with
        | none => rw [ht] at q'; exact q'.elim
        | some pr =>
          obtain ⟨env3, st3⟩ := pr
          rw [ht] at q'
          refine ⟨ρ', env', st', _, s2, e2, rv, env3, st3, ht, fun ρ3 H3 σ3 g3 s3 e3 _ => ⟨ρ3, env3, st3, s3, e3, ?_⟩⟩
          simp only at q'
          have gg := g'.trans (g2.trans g3)
          have q3 := PostS.mono q' (g2.trans g3)
          generalize hbr : b env3 st3 = br at q3
          cases br with
          | stuck => exact q3
          | err c fs env4 st4 => exact q3
          | go f env4 st4 =>
            cases f with
            | nx => exact fun ρ4 H4 σ4 g4 s4 e4 => ⟨ρ4, env4, st4, gg.trans g4, s4, e4, PostS.mono q3 g4⟩
            | ct => exact fun ρ4 H4 σ4 g4 s4 e4 => ⟨ρ4, env4, st4, gg.trans g4, s4, e4, PostS.mono q3 g4⟩
            | bk => exact q3
            | rt v => exact q3
      · exact q'.elim
    · have : i = it.items.length := by omega
      subst this
      rw [List.drop_length] at q'
      unfold forW at q'
      split at q'
      · rename_i ck
        exact .inl ⟨(r ρ' H' st' g' s' ck _).2 (Nat.le_refl _), PostS.go_ (f := .nx) q' s' e'⟩
      · exact q'.elim
theorem is_while {c : Expr} {body : List Stmt} {mc : D Bool} {b : DS} (hp : PassesOwn (model X.prog X.w) X.A X.env X.xe) (hc : IT X ex Wx c mc) (hb : ISs X ex Wx body b) : IS X ex Wx (.While c body [] pos) (sWhile mc b) :=
  PS.of (ps_while hp hc hb) fun De σ H ⟨ρ, env, st, s, e, p⟩ => by
    unfold sWhile at p
    split at p
    · rename_i hn
      refine ⟨fun m σ H => ∃ ρ env st, StR X.K ρ H st ∧ EnvR X.K ex ρ H env σ ∧ PostS X.K ex X.mg Wx De ρ H (whileF mc b m env st), ⟨_, ρ, env, st, s, e, p⟩, ?_⟩
      rintro m σ' H' ⟨ρ', env', st', s', e', q⟩
      cases m with
      | zero => exact q.elim
      | succ m =>
        unfold whileF at q
        refine RS.step (rel := relE) s' e' q fun ρ1 H1 st1 k x g1 s1 e1 r p1 => ?_
        have r' : k = x := r
        subst r'
        by_cases h : k = true
        · rw [if_pos h] at p1 ⊢
          refine ⟨fun σ2 H2 => ∃ ρ env st, StR X.K ρ H2 st ∧ EnvR X.K ex ρ H2 env σ2 ∧ PostS X.K ex X.mg Wx De ρ H2 (whileF mc b m env st), fun σ2 H2 n => ⟨m, Nat.lt_succ_self m, n⟩, ρ1, env', st1, s1, e1, ?_⟩
          generalize hbr : b env' st1 = br at p1
          cases br with
          | stuck => exact p1
          | err c fs env4 st4 => exact p1
          | go f env4 st4 =>
            cases f with
            | nx => exact fun ρ4 H4 σ4 g4 s4 e4 => ⟨ρ4, env4, st4, s4, e4, PostS.mono p1 g4⟩
            | ct => exact fun ρ4 H4 σ4 g4 s4 e4 => ⟨ρ4, env4, st4, s4, e4, PostS.mono p1 g4⟩
            | bk => exact p1
            | rt v => exact p1
        · rw [if_neg h] at p1 ⊢
          exact PostS.go_ (f := .nx) p1 s1 e1
    · exact p.elim
end
theorem whileF_mono {c : D Bool} {b : DS} : ∀ {n m : Nat} {env : EnvW} {st : Store}, whileF c b n env st ≠ .stuck → n ≤ m → whileF c b m env st = whileF c b n env st
  | 0, _, _, _, h, _ => absurd rfl h
  | n + 1, 0, _, _, _, hl => by omega
  | n + 1, m + 1, env, st, h, hl => by
    unfold whileF at h ⊢
    cases hc : c env st with
    | stuck => rfl
    | err x fs st1 => rfl
    | ok k st1 =>
      rw [hc] at h
      simp only [Res.then_ok] at h ⊢
      by_cases hk : k = true
      · rw [if_pos hk] at h ⊢
        rw [if_pos hk]
        cases hb : b env st1 with
        | stuck => rfl
        | err x fs env2 st2 => rfl
        | go f env2 st2 =>
          rw [hb] at h
          cases f with
          | nx => exact whileF_mono (n := n) (m := m) h (by omega)
          | ct => exact whileF_mono (n := n) (m := m) h (by omega)
          | bk => rfl
          | rt v => rfl
      · rw [if_neg hk, if_neg hk]
theorem sWhile_eq {c : D Bool} {b : DS} {env : EnvW} {st : Store} {r : RsS} (n : Nat) (h : whileF c b n env st = r) (hr : r ≠ .stuck) : sWhile c b env st = r := by
  have h1 : whileF c b n env st ≠ .stuck := by rw [h]; exact hr
  unfold sWhile
  rw [dif_pos ⟨n, h1⟩]
  have h2 := (⟨n, h1⟩ : ∃ n, whileF c b n env st ≠ .stuck).choose_spec
  rcases Nat.le_total n (⟨n, h1⟩ : ∃ n, whileF c b n env st ≠ .stuck).choose with hl | hl
  · rw [whileF_mono h1 hl, h]
  · rw [← whileF_mono h2 hl, h]
end
end MP
namespace MP
open PySem PySem.Spec PyProof.Rows L2
open Classical
noncomputable section

/-! ### comprehensions -/
mutual
theorem VR.imm {K : PySem.W.Frag} {ρ : List Addr} {H H' : Hp} (h1 : ∀ a xs, H a = some (.tup xs) → H' a = some (.tup xs)) (h2 : ∀ a o u, H a = some (.frz o u) → H' a = some (.frz o u)) (h3 : ∀ a i j, H a = some (.rng i j) → H' a = some (.rng i j)) : ∀ (w : W) (v : V), VR K ρ H w v → VR K ρ H' w v
  | .non, _, h => by simpa only [VR] using h
  | .bl _, _, h => by simpa only [VR] using h
  | .int _, _, h => by simpa only [VR] using h
  | .str _, _, h => by simpa only [VR] using h
  | .gl _, _, h => by simpa only [VR] using h
  | .loc n, _, h => by simpa only [VR] using h
  | .rng i j, v, h => by
    simp only [VR] at h ⊢
    obtain ⟨a, e, r⟩ := h
    exact ⟨a, e, h3 a i j r⟩
  | .tup ws, v, h => by
    simp only [VR] at h ⊢
    obtain ⟨a, us, e, t, r⟩ := h
    exact ⟨a, us, e, t.imp (h1 a us) id, VRs.imm h1 h2 h3 ws us r⟩
  | .fro ws, v, h => by
    simp only [VR] at h ⊢
    obtain ⟨a, us, e, t, r⟩ := h
    exact ⟨a, us, e, t.imp (fun ⟨o, z⟩ => ⟨o, h2 a o _ z⟩) id, VRs.imm h1 h2 h3 ws us r⟩
theorem VRs.imm {K : PySem.W.Frag} {ρ : List Addr} {H H' : Hp} (h1 : ∀ a xs, H a = some (.tup xs) → H' a = some (.tup xs)) (h2 : ∀ a o u, H a = some (.frz o u) → H' a = some (.frz o u)) (h3 : ∀ a i j, H a = some (.rng i j) → H' a = some (.rng i j)) : ∀ (ws : List W) (vs : List V), VRs K ρ H ws vs → VRs K ρ H' ws vs
  | [], _, h => by simpa only [VRs] using h
  | w :: ws, vs, h => by
    simp only [VRs] at h ⊢
    obtain ⟨u, us, e, r, rs⟩ := h
    exact ⟨u, us, e, VR.imm h1 h2 h3 w u r, VRs.imm h1 h2 h3 ws us rs⟩
end
mutual
theorem VR.more {K : PySem.W.Frag} {ρ m : List Addr} {H : Hp} : ∀ (w : W) (v : V), VR K ρ H w v → VR K (ρ ++ m) H w v
  | .non, _, h => by simpa only [VR] using h
  | .bl _, _, h => by simpa only [VR] using h
  | .int _, _, h => by simpa only [VR] using h
  | .str _, _, h => by simpa only [VR] using h
  | .gl _, _, h => by simpa only [VR] using h
  | .rng i j, _, h => by simpa only [VR] using h
  | .loc n, _, h => by
    simp only [VR] at h ⊢
    obtain ⟨a, e, r⟩ := h
    exact ⟨a, by rw [List.getElem?_append_left (List.getElem?_eq_some_iff.mp e).1]; exact e, r⟩
  | .tup ws, v, h => by
    simp only [VR] at h ⊢
    obtain ⟨a, us, e, t, r⟩ := h
    exact ⟨a, us, e, t, VRs.more ws us r⟩
  | .fro ws, v, h => by
    simp only [VR] at h ⊢
    obtain ⟨a, us, e, t, r⟩ := h
    exact ⟨a, us, e, t, VRs.more ws us r⟩
theorem VRs.more {K : PySem.W.Frag} {ρ m : List Addr} {H : Hp} : ∀ (ws : List W) (vs : List V), VRs K ρ H ws vs → VRs K (ρ ++ m) H ws vs
  | [], _, h => by simpa only [VRs] using h
  | w :: ws, vs, h => by
    simp only [VRs] at h ⊢
    obtain ⟨u, us, e, r, rs⟩ := h
    exact ⟨u, us, e, VR.more w u r, VRs.more ws us rs⟩
end
section
variable {X : Cx} {Wx : WX} {pos : Pos}
/-- a list that the store doesn't have is changed -/
theorem side_imm {H : Hp} {D : Addr} {xs : List V} {o : HO} (hD : H D = some (.lst xs)) : (∀ a ys, H a = some (.tup ys) → upd H D o a = some (.tup ys)) ∧ (∀ a b u, H a = some (.frz b u) → upd H D o a = some (.frz b u)) ∧ (∀ a i j, H a = some (.rng i j) → upd H D o a = some (.rng i j)) := by
  refine ⟨fun a ys e => ?_, fun a b u e => ?_, fun a i j e => ?_⟩
  · rw [upd_ne (ne_of e hD (by intro z; cases z))]; exact e
  · rw [upd_ne (ne_of e hD (by intro z; cases z))]; exact e
  · rw [upd_ne (ne_of e hD (by intro z; cases z))]; exact e
theorem StR.side {K : PySem.W.Frag} {ρ : List Addr} {H : Hp} {st : Store} {D : Addr} {xs : List V} {o : HO} (s : StR K ρ H st) (hD : H D = some (.lst xs)) (hn : D ∉ ρ) : StR K ρ (upd H D o) st := by
  obtain ⟨i1, i2, i3⟩ := side_imm (o := o) hD
  refine ⟨s.len, s.nd, fun n ob e => ?_⟩
  obtain ⟨a, ha, hob⟩ := s.ob n ob e
  have hne : a ≠ D := fun z => hn (z ▸ List.mem_of_getElem? ha)
  refine ⟨a, ha, ?_⟩
  cases ob with
  | lst ws =>
    obtain ⟨us, hu, hr⟩ := hob
    exact ⟨us, by rw [upd_ne hne]; exact hu, VRs.imm i1 i2 i3 ws us hr⟩
theorem EnvR.side {K : PySem.W.Frag} {ρ : List Addr} {H : Hp} {env : EnvW} {σ : L2.St} {D : Addr} {xs : List V} {o : HO} (e : EnvR K none ρ H env σ) (hD : H D = some (.lst xs)) : EnvR K none ρ (upd H D o) env σ := by
  obtain ⟨i1, i2, i3⟩ := side_imm (o := o) hD
  exact ⟨e.len, fun i w h => let ⟨v, h1, h2⟩ := e.at_ i w h; ⟨v, h1, VR.imm i1 i2 i3 w v h2⟩, fun _ h => nomatch h⟩
theorem EnvR.wipe {K : PySem.W.Frag} {ρ : List Addr} {H : Hp} {env : EnvW} {σ : L2.St} (e : EnvR K none ρ H env σ) : ∀ vs : List Nat, EnvR K none ρ H (wipeW env vs) (wipe σ vs)
  | [] => e
  | v :: vs => (e.wipe vs).unset .none
abbrev W0 : WX := fun _ _ _ _ => False
/-- a comprehension with one for -/
theorem lc_read {env : EnvW} {st : Store} {ρ : List Addr} {H : Hp} {σ : L2.St} {Q : VK} {m : D ItW} {t : DT} {vs : List Nat} {c : D Bool} {el : D W} {tt : TT}
    (s : StR X.K ρ H st) (e : EnvR X.K none ρ H env σ) (p : Post X.K X.mg Wx (relV X.K) ρ H σ (dLc m vs t c el env st) Q)
    (htt : ∀ σ H Q, RG X none W0 relE c σ H Q → tt σ H Q) :
    tLc (RG X none Wx (relI X) m) (RT X none vs t) tt (RG X none W0 (relV X.K) el) vs σ H Q := by
  refine RG.bind s e p fun ρ1 H1 st1 it J g s1 e1 r q => fun D hD => ?_
  have nD : D ∉ ρ1 := s1.none_of hD
  generalize hl : lcW it.Chk (wipeW env vs) t c el it.items [] st1 = res at q
  cases res with
  | none => exact q.elim
  | some pr =>
    obtain ⟨fin, stf⟩ := pr
    simp only at q
    have ew : EnvR X.K none ρ1 H1 (wipeW env vs) (wipe σ vs) := e1.wipe vs
    refine ⟨fun i m H => m = it.items.length - i ∧ i ≤ it.items.length ∧ ∃ ρ st acc us, Grow ρ1 H1 ρ H ∧ StR X.K ρ H st ∧ H D = some (.lst us) ∧ D ∉ ρ ∧ VRs X.K ρ H acc us ∧ lcW it.Chk (wipeW env vs) t c el (it.items.drop i) acc st = some (fin, stf),
      ⟨_, rfl, Nat.zero_le _, ρ1, st1, [], [], grow_imm hD, s1.grow_imm hD, upd_same, nD, by simp [VRs], hl⟩, ?_⟩
    rintro i m H' ⟨rfl, hi, ρ', st', acc, us, g', s', hD', nD', ra, hq⟩
    have ew' : EnvR X.K none ρ' H' (wipeW env vs) (wipe σ vs) := ew.grow s1.apart g'
    by_cases hlt : i < it.items.length
    · rw [List.drop_eq_getElem_cons hlt] at hq
      unfold lcW at hq
      split at hq
      · rename_i ck
        obtain ⟨go, stop⟩ := r ρ' H' st' g' s' ck i
        obtain ⟨hgo, hy⟩ := go _ (List.getElem?_eq_getElem hlt)
        refine .inr ⟨hgo, fun H2 => ∃ ρ st acc us, Grow ρ1 H1 ρ H2 ∧ StR X.K ρ H2 st ∧ H2 D = some (.lst us) ∧ D ∉ ρ ∧ VRs X.K ρ H2 acc us ∧ lcW it.Chk (wipeW env vs) t c el (it.items.drop (i + 1)) acc st = some (fin, stf), fun H2 n => ⟨_, by omega, rfl, hlt, n⟩, fun x H2 y => ?_⟩
        obtain ⟨g2, s2, rv⟩ := hy x H2 y
        have hD2 : H2 D = some (.lst us) := g2.keep D _ hD' nD'
        have e2 := ew'.grow s'.apart g2
        cases htt' : t it.items[i] (wipeW env vs) st' with
        | none => rw [htt'] at hq; cases hq
        | some pr =>
          obtain ⟨env3, st3⟩ := pr
          rw [htt'] at hq
          simp only at hq
          refine ⟨ρ', wipeW env vs, st', _, s2, e2, rv, env3, st3, htt', fun ρ3 H3 σ3 g3 s3 e3 w3 => ⟨w3.trans wipe_wipe, ?_⟩⟩
          have hD3 : H3 D = some (.lst us) := g3.keep D _ hD2 nD'
          have nD3 : D ∉ ρ3 := fun z => by
            obtain ⟨mm, em, fm⟩ := g3.pre
            subst em
            rcases List.mem_append.mp z with z | z
            · exact nD' z
            · have := fm D z; rw [hD2] at this; cases this
          refine htt _ _ _ ⟨ρ3, env3, st3, s3, e3, ?_⟩
          generalize hc : c env3 st3 = rc at hq
          cases rc with
          | stuck => cases hq
          | err cc fs st4 => cases hq
          | ok b st4 =>
            intro ρ4 H4 b' g4 s4 rb
            have rb' : b = b' := rb
            subst rb'
            have hD4 : H4 D = some (.lst us) := g4.keep D _ hD3 nD3
            have nD4 : D ∉ ρ4 := fun z => by
              obtain ⟨mm, em, fm⟩ := g4.pre
              subst em
              rcases List.mem_append.mp z with z | z
              · exact nD3 z
              · have := fm D z; rw [hD3] at this; cases this
            have g24 : Grow ρ' H' ρ4 H4 := g2.trans (g3.trans g4)
            have ra4 : VRs X.K ρ4 H4 acc us := VRs.grow s'.apart g24 acc us ra
            have e4 := e3.grow s3.apart g4
            cases b with
            | false =>
              rw [if_neg (by decide)]
              exact ⟨ρ4, st4, acc, us, g'.trans g24, s4, hD4, nD4, ra4, hq⟩
            | true =>
              rw [if_pos rfl]
              simp only at hq
              refine ⟨ρ4, env3, st4, s4, e4, ?_⟩
              generalize hel : el env3 st4 = re at hq
              cases re with
              | stuck => cases hq
              | err cc fs st5 => cases hq
              | ok y st5 =>
                intro ρ5 H5 yv g5 s5 ry
                simp only at hq
                split at hq
                · rename_i hsz
                  have hD5 : H5 D = some (.lst us) := g5.keep D _ hD4 nD4
                  have nD5 : D ∉ ρ5 := fun z => by
                    obtain ⟨mm, em, fm⟩ := g5.pre
                    subst em
                    rcases List.mem_append.mp z with z | z
                    · exact nD4 z
                    · have := fm D z; rw [hD4] at this; cases this
                  have ra5 : VRs X.K ρ5 H5 acc us := VRs.grow s4.apart g5 acc us ra4
                  obtain ⟨i1, i2, i3⟩ := side_imm (o := .lst (us ++ [yv])) hD5
                  refine ⟨us, hD5, by rw [← VRs.length ra5]; exact hsz, ρ5, st5, acc ++ [y], us ++ [yv], ?_, s5.side hD5 nD5, upd_same, nD5, VRs.imm i1 i2 i3 _ _ (ra5.append (.one ry)), hq⟩
                  have g15 : Grow ρ1 H1 ρ5 H5 := g'.trans (g24.trans g5)
                  exact ⟨g15.pre, fun a o ha hn => by rw [upd_ne (ne_of_none ha hD)]; exact g15.keep a o ha hn, fun a ha hn => by
                    by_cases z : a = D
                    · subst z; rw [upd_same]; simp
                    · rw [upd_ne z]; exact g15.live a ha hn⟩
                · cases hq
      · cases hq
    · have : i = it.items.length := by omega
      subst this
      rw [List.drop_length] at hq
      unfold lcW at hq
      split at hq
      · rename_i ck
        cases hq
        refine .inl ⟨(r ρ' H' _ g' s' ck _).2 (Nat.le_refl _), ?_⟩
        have gD : Grow ρ1 H1 (ρ' ++ [D]) H' := by
          obtain ⟨mm, em, fm⟩ := g'.pre
          subst em
          exact ⟨⟨mm ++ [D], by simp, fun a ha => by
            rcases List.mem_append.mp ha with ha | ha
            · exact fm a ha
            · have : a = D := by simpa using ha
              subst this; exact hD⟩, g'.keep, g'.live⟩
        have sD : StR X.K (ρ' ++ [D]) H' (stf ++ [.lst fin]) := by
          have gg : Grow ρ' H' (ρ' ++ [D]) H' ∨ True := .inr trivial
          refine ⟨by simp [s'.len], ?_, fun n o en => ?_⟩
          · rw [List.nodup_append]
            exact ⟨s'.nd, List.nodup_cons.mpr ⟨by simp, List.nodup_nil⟩, fun a ha b hb ee => by
              have : b = D := by simpa using hb
              subst this; subst ee; exact nD' ha⟩
          · by_cases hn : n < stf.length
            · rw [List.getElem?_append_left hn] at en
              obtain ⟨a, ha, hob⟩ := s'.ob n o en
              have hl2 := (List.getElem?_eq_some_iff.mp ha).1
              refine ⟨a, by rw [List.getElem?_append_left hl2]; exact ha, ?_⟩
              cases o with
              | lst ws =>
                obtain ⟨us2, hu, hr⟩ := hob
                exact ⟨us2, hu, VRs.more ws us2 hr⟩
            · have hl2 : n < (stf ++ [Ob.lst fin]).length := (List.getElem?_eq_some_iff.mp en).1
              have : n = stf.length := by simp at hl2; omega
              subst this
              rw [List.getElem?_append_right (Nat.le_refl _)] at en
              simp at en; subst en
              exact ⟨D, by rw [← s'.len, List.getElem?_append_right (Nat.le_refl _)]; simp, us, hD', VRs.more _ _ ra⟩
        exact q (ρ' ++ [D]) H' (.ref D) gD sD (by
          simp only [relV, VR]
          exact ⟨D, by rw [← s'.len]; simp, rfl⟩)
      · cases hq
theorem ie_lc {elt tg iter : Expr} {scope : Scope} {own : List (Str × Nat)} {m : D ItW} {t : DT} {el : D W} (hc : X.calm = true) (hN : X.N.Nodup) (hi : II X none Wx tg iter m) (ok : BlkOk X.N X.env.scope scope own)
    (hg : ∀ (s : Shared) (H : Hp) (C : Addr) (cl : List (Str × Addr)) (fp : List Addr), IG (X.blk s H scope (compEnvC scope cl C X.env) fp) none (own.map (·.2)) tg t)
    (he : ∀ (s : Shared) (H : Hp) (C : Addr) (cl : List (Str × Addr)) (fp : List Addr), IE (X.blk s H scope (compEnvC scope cl C X.env) fp) none W0 elt el) (hs : ∀ x, foldedSetIterable iter X.env x = pure x := by intro _; rfl) :
    IE X none Wx (.ListComp elt [⟨tg, iter, [], 0⟩] scope pos) (dLc m (own.map (·.2)) t dYes el) :=
  PE.of (pe_lc hc hN hi ok hg (fun _ _ _ _ _ => pts_nil) he hs) fun σ H Q ⟨ρ, env, st, s, e, p⟩ => lc_read s e p fun σ H Q ⟨ρ, env, st, s, e, p⟩ => Post.ok_ p s rfl
theorem ie_lcIf {elt tg iter cnd : Expr} {scope : Scope} {own : List (Str × Nat)} {m : D ItW} {t : DT} {c : D Bool} {el : D W} (hc : X.calm = true) (hN : X.N.Nodup) (hi : II X none Wx tg iter m) (ok : BlkOk X.N X.env.scope scope own)
    (hg : ∀ (s : Shared) (H : Hp) (C : Addr) (cl : List (Str × Addr)) (fp : List Addr), IG (X.blk s H scope (compEnvC scope cl C X.env) fp) none (own.map (·.2)) tg t)
    (ht : ∀ (s : Shared) (H : Hp) (C : Addr) (cl : List (Str × Addr)) (fp : List Addr), IT (X.blk s H scope (compEnvC scope cl C X.env) fp) none W0 cnd c)
    (he : ∀ (s : Shared) (H : Hp) (C : Addr) (cl : List (Str × Addr)) (fp : List Addr), IE (X.blk s H scope (compEnvC scope cl C X.env) fp) none W0 elt el) (hs : ∀ x, foldedSetIterable iter X.env x = pure x := by intro _; rfl) :
    IE X none Wx (.ListComp elt [⟨tg, iter, [cnd], 0⟩] scope pos) (dLc m (own.map (·.2)) t c el) :=
  PE.of (pe_lc hc hN hi ok hg (fun s H C cl fp => pts_one (ht s H C cl fp)) he hs) fun σ H Q ⟨ρ, env, st, s, e, p⟩ => lc_read s e p fun σ H Q h => h
/-- y = [..] -/
theorem is_setLc {i : Nat} {y : Str} {py spos : Pos} {elt tg iter : Expr} {scope : Scope} {own : List (Str × Nat)} {m : D ItW} {t : DT} {el : D W} (hc : X.calm = true) (hN : X.N.Nodup) (hy : X.N[i]? = some y) (hyl : X.env.scope.names.lookup y = some .local)
    (hsw : swapsWith (.ListComp elt [⟨tg, iter, [], 0⟩] scope pos) (some (.Name y py)) spos.line X.env = pure true) (hi : II X none Wx tg iter m) (ok : BlkOk X.N X.env.scope scope own)
    (hg : ∀ (s : Shared) (H : Hp) (C : Addr) (cl : List (Str × Addr)) (fp : List Addr), IG (X.blk s H scope (compEnvC scope cl C X.env) fp) none (own.map (·.2)) tg t)
    (he : ∀ (s : Shared) (H : Hp) (C : Addr) (cl : List (Str × Addr)) (fp : List Addr), IE (X.blk s H scope (compEnvC scope cl C X.env) fp) none W0 elt el) (hs : ∀ x, foldedSetIterable iter X.env x = pure x := by intro _; rfl) :
    IS X none Wx (.Assign [.Name y py] (.ListComp elt [⟨tg, iter, [], 0⟩] scope pos) spos) (sAsg (dLc m (own.map (·.2)) t dYes el) (tName i)) :=
  PS.of (ps_setLc hc hN hy hyl hsw hi ok hg (fun _ _ _ _ _ => pts_nil) he hs) fun De σ H ⟨ρ, env, st, s, e, p⟩ => by
    have z : RG X none Wx (relV X.K) (dLc m (own.map (·.2)) t dYes el) σ H fun x H1 => gName i x σ H1 De.nx :=
      RS.step s e p fun ρ1 H1 st1 a x g s1 e1 r p1 => PostS.go_ (f := .nx) p1 s1 (e1.set .none r)
    obtain ⟨ρ', env', st', s', e', p'⟩ := z
    exact lc_read s' e' p' fun σ H Q ⟨ρ, env, st, s, e, p⟩ => Post.ok_ p s rfl
theorem is_setLcIf {i : Nat} {y : Str} {py spos : Pos} {elt tg iter cnd : Expr} {scope : Scope} {own : List (Str × Nat)} {m : D ItW} {t : DT} {c : D Bool} {el : D W} (hc : X.calm = true) (hN : X.N.Nodup) (hy : X.N[i]? = some y) (hyl : X.env.scope.names.lookup y = some .local)
    (hsw : swapsWith (.ListComp elt [⟨tg, iter, [cnd], 0⟩] scope pos) (some (.Name y py)) spos.line X.env = pure true) (hi : II X none Wx tg iter m) (ok : BlkOk X.N X.env.scope scope own)
    (hg : ∀ (s : Shared) (H : Hp) (C : Addr) (cl : List (Str × Addr)) (fp : List Addr), IG (X.blk s H scope (compEnvC scope cl C X.env) fp) none (own.map (·.2)) tg t)
    (ht : ∀ (s : Shared) (H : Hp) (C : Addr) (cl : List (Str × Addr)) (fp : List Addr), IT (X.blk s H scope (compEnvC scope cl C X.env) fp) none W0 cnd c)
    (he : ∀ (s : Shared) (H : Hp) (C : Addr) (cl : List (Str × Addr)) (fp : List Addr), IE (X.blk s H scope (compEnvC scope cl C X.env) fp) none W0 elt el) (hs : ∀ x, foldedSetIterable iter X.env x = pure x := by intro _; rfl) :
    IS X none Wx (.Assign [.Name y py] (.ListComp elt [⟨tg, iter, [cnd], 0⟩] scope pos) spos) (sAsg (dLc m (own.map (·.2)) t c el) (tName i)) :=
  PS.of (ps_setLc hc hN hy hyl hsw hi ok hg (fun s H C cl fp => pts_one (ht s H C cl fp)) he hs) fun De σ H ⟨ρ, env, st, s, e, p⟩ => by
    have z : RG X none Wx (relV X.K) (dLc m (own.map (·.2)) t c el) σ H fun x H1 => gName i x σ H1 De.nx :=
      RS.step s e p fun ρ1 H1 st1 a x g s1 e1 r p1 => PostS.go_ (f := .nx) p1 s1 (e1.set .none r)
    obtain ⟨ρ', env', st', s', e', p'⟩ := z
    exact lc_read s' e' p' fun σ H Q h => h
end
end
end MP
namespace MP
open PySem PySem.Spec PyProof.Rows L2
open Classical
noncomputable section

/-! ### what a def leaves behind is let go -/
mutual
def clB (n : Nat) : W → Bool
  | .loc k => decide (k < n)
  | .tup ws => clBs n ws
  | .fro ws => clBs n ws
  | .non => true
  | .bl _ => true
  | .int _ => true
  | .str _ => true
  | .gl _ => true
  | .rng _ _ => true
def clBs (n : Nat) : List W → Bool
  | [] => true
  | w :: ws => clB n w && clBs n ws
end
def clO (n : Nat) : Ob → Bool
  | .lst ws => clBs n ws
/-- what stood at the entry stands, or is closed -/
def GcOk (st0 st : Store) : Prop := ∀ i : Nat, i < st0.length → st[i]? = st0[i]? ∨ ∃ o, st[i]? = some o ∧ clO st0.length o = true
def gc (st0 : Store) (v : W) (st : Store) : Res W :=
  if GcOk st0 st then
    if clB st0.length v = true then .ok v (st.take st0.length)
    else match v with
      | .loc m => match st[m]? with
        | some (.lst ws) => if clBs st0.length ws = true then .ok (.loc st0.length) (st.take st0.length ++ [.lst ws]) else .ok v st
        | _ => .ok v st
      | _ => .ok v st
  else .ok v st
section
variable {K : PySem.W.Frag} {ρ m : List Addr} {H : Hp}
mutual
theorem VR.less : ∀ (w : W) (v : V), clB ρ.length w = true → VR K (ρ ++ m) H w v → VR K ρ H w v
  | .non, _, _, h => by simpa only [VR] using h
  | .bl _, _, _, h => by simpa only [VR] using h
  | .int _, _, _, h => by simpa only [VR] using h
  | .str _, _, _, h => by simpa only [VR] using h
  | .gl _, _, _, h => by simpa only [VR] using h
  | .rng _ _, _, _, h => by simpa only [VR] using h
  | .loc n, _, c, h => by
    simp only [VR] at h ⊢
    simp only [clB, decide_eq_true_eq] at c
    obtain ⟨a, e, r⟩ := h
    exact ⟨a, by rw [List.getElem?_append_left c] at e; exact e, r⟩
  | .tup ws, v, c, h => by
    simp only [VR] at h ⊢
    simp only [clB] at c
    obtain ⟨a, us, e, t, r⟩ := h
    exact ⟨a, us, e, t, VRs.less ws us c r⟩
  | .fro ws, v, c, h => by
    simp only [VR] at h ⊢
    simp only [clB] at c
    obtain ⟨a, us, e, t, r⟩ := h
    exact ⟨a, us, e, t, VRs.less ws us c r⟩
theorem VRs.less : ∀ (ws : List W) (vs : List V), clBs ρ.length ws = true → VRs K (ρ ++ m) H ws vs → VRs K ρ H ws vs
  | [], _, _, h => by simpa only [VRs] using h
  | w :: ws, vs, c, h => by
    simp only [VRs] at h ⊢
    simp only [clBs, Bool.and_eq_true] at c
    obtain ⟨u, us, e, r, rs⟩ := h
    exact ⟨u, us, e, VR.less w u c.1 r, VRs.less ws us c.2 rs⟩
end
mutual
theorem VR.cl : ∀ (w : W) (v : V), VR K ρ H w v → clB ρ.length w = true
  | .non, _, _ => rfl
  | .bl _, _, _ => rfl
  | .int _, _, _ => rfl
  | .str _, _, _ => rfl
  | .gl _, _, _ => rfl
  | .rng _ _, _, _ => rfl
  | .loc n, _, h => by
    simp only [VR] at h
    obtain ⟨a, e, _⟩ := h
    simp only [clB, decide_eq_true_eq]
    exact (List.getElem?_eq_some_iff.mp e).1
  | .tup ws, v, h => by
    simp only [VR] at h
    obtain ⟨a, us, e, t, r⟩ := h
    simp only [clB]
    exact VRs.cl ws us r
  | .fro ws, v, h => by
    simp only [VR] at h
    obtain ⟨a, us, e, t, r⟩ := h
    simp only [clB]
    exact VRs.cl ws us r
theorem VRs.cl : ∀ (ws : List W) (vs : List V), VRs K ρ H ws vs → clBs ρ.length ws = true
  | [], _, _ => rfl
  | w :: ws, vs, h => by
    simp only [VRs] at h
    obtain ⟨u, us, e, r, rs⟩ := h
    simp only [clBs, Bool.and_eq_true]
    exact ⟨VR.cl w u r, VRs.cl ws us rs⟩
end
theorem ObR.cl {a : Addr} {o : Ob} (h : ObR K ρ H a o) : clO ρ.length o = true := by
  cases o with
  | lst ws =>
    obtain ⟨us, _, r⟩ := h
    exact VRs.cl ws us r
theorem ObR.less {a : Addr} {o : Ob} (c : clO ρ.length o = true) (h : ObR K (ρ ++ m) H a o) : ObR K ρ H a o := by
  cases o with
  | lst ws =>
    obtain ⟨us, e, r⟩ := h
    exact ⟨us, e, VRs.less ws us c r⟩
theorem gc_ok {H0 : Hp} {st0 st : Store} {v : W} {x : V} (s0 : StR K ρ H0 st0) (g : Grow ρ H0 (ρ ++ m) H) (s : StR K (ρ ++ m) H st) (r : VR K (ρ ++ m) H v x) :
    ∃ v' st' ρ', gc st0 v st = .ok v' st' ∧ Grow ρ H0 ρ' H ∧ StR K ρ' H st' ∧ VR K ρ' H v' x := by
  unfold gc
  by_cases hg : GcOk st0 st
  · rw [if_pos hg]
    have hlen : st0.length = ρ.length := s0.len.symm
    have hle : ρ.length ≤ st.length := by rw [← s.len]; simp
    have g' : Grow ρ H0 ρ H := ⟨⟨[], by simp, fun _ h => nomatch h⟩, g.keep, g.live⟩
    have s' : StR K ρ H (st.take st0.length) := by
      refine ⟨by rw [List.length_take, hlen]; omega, s0.nd, fun n o e => ?_⟩
      have hn : n < st0.length := by
        have := (List.getElem?_eq_some_iff.mp e).1
        rw [List.length_take] at this; omega
      rw [List.getElem?_take_of_lt hn] at e
      obtain ⟨a, ha, hob⟩ := s.ob n o e
      rw [List.getElem?_append_left (by omega)] at ha
      refine ⟨a, ha, hob.less ?_⟩
      rcases hg n hn with h | ⟨o', h1, h2⟩
      · rw [e] at h
        obtain ⟨_, _, ho0⟩ := s0.ob n o h.symm
        exact ho0.cl
      · rw [e] at h1; cases h1
        rw [← hlen]; exact h2
    by_cases hc : clB st0.length v = true
    · rw [if_pos hc]
      exact ⟨_, _, ρ, rfl, g', s', VR.less v x (by rw [← hlen]; exact hc) r⟩
    · rw [if_neg hc]
      have dflt : ∃ v' st' ρ', (Res.ok v st : Res W) = .ok v' st' ∧ Grow ρ H0 ρ' H ∧ StR K ρ' H st' ∧ VR K ρ' H v' x := ⟨_, _, _, rfl, g, s, r⟩
      cases v with
      | loc k =>
        simp only
        cases hk : st[k]? with
        | none => exact dflt
        | some o =>
          cases o with
          | lst ws =>
            simp only
            by_cases hw : clBs st0.length ws = true
            · rw [if_pos hw]
              obtain ⟨a, ha, us, hu, ru⟩ := s.ob k (.lst ws) hk
              have hka : ρ.length ≤ k := by
                simp only [clB, decide_eq_true_eq] at hc; omega
              rw [List.getElem?_append_right hka] at ha
              have ham : a ∈ m := List.mem_of_getElem? ha
              have hna : a ∉ ρ := fun z => by
                have := s.nd
                rw [List.nodup_append] at this
                exact this.2.2 a z a ham rfl
              obtain ⟨m', em, fm⟩ := g.pre
              have em' : m = m' := List.append_cancel_left em
              subst em'
              have ru' : VRs K ρ H ws us := VRs.less ws us (by rw [← hlen]; exact hw) ru
              refine ⟨_, _, ρ ++ [a], rfl, ⟨⟨[a], rfl, fun b hb => by
                have : b = a := by simpa using hb
                subst this; exact fm _ ham⟩, g.keep, g.live⟩, ?_, ?_⟩
              · refine ⟨by simp [s'.len], ?_, fun n o en => ?_⟩
                · rw [List.nodup_append]
                  exact ⟨s0.nd, List.nodup_cons.mpr ⟨by simp, List.nodup_nil⟩, fun b hb c hcc e => by
                    have : c = a := by simpa using hcc
                    subst this; subst e; exact hna hb⟩
                · by_cases hn : n < (st.take st0.length).length
                  · rw [List.getElem?_append_left hn] at en
                    obtain ⟨b, hb, hob⟩ := s'.ob n o en
                    refine ⟨b, by rw [List.getElem?_append_left (List.getElem?_eq_some_iff.mp hb).1]; exact hb, ?_⟩
                    cases o with
                    | lst ws2 =>
                      obtain ⟨us2, e2, r2⟩ := hob
                      exact ⟨us2, e2, VRs.more ws2 us2 r2⟩
                  · have hl2 : n < (st.take st0.length ++ [Ob.lst ws]).length := (List.getElem?_eq_some_iff.mp en).1
                    have : n = (st.take st0.length).length := by rw [List.length_append] at hl2; simp at hl2 hn ⊢; omega
                    subst this
                    rw [List.getElem?_append_right (Nat.le_refl _)] at en
                    simp at en; subst en
                    exact ⟨a, by rw [← s'.len, List.getElem?_append_right (Nat.le_refl _)]; simp, us, hu, VRs.more ws us ru'⟩
              · simp only [VR] at r ⊢
                obtain ⟨b, hb, rfl⟩ := r
                rw [List.getElem?_append_right hka, ha] at hb
                cases hb
                exact ⟨a, by rw [hlen]; simp, rfl⟩
            · rw [if_neg hw]; exact dflt
      | _ => exact dflt
  · rw [if_neg hg]
    exact ⟨_, _, _, rfl, g, s, r⟩
end
/-- a def's denotation by its body's -/
def fnDen (slots : Nat) (body : DS) : List W → Store → Res W := fun ws st =>
  match body (ws.map some ++ List.replicate (slots - ws.length) none) st with
  | .go (.rt v) _ st' => gc st v st'
  | .go .nx _ st' => gc st .non st'
  | .err c w _ st' => .err c w st'
  | _ => .stuck
/-- a def's promise -/
def SpM (K : PySem.W.Frag) (mg : Str → Option Value) (n : Nat) (den : List W → Store → Res W) : Sp := fun vs H Q E =>
  ∃ ρ ws st, StR K ρ H st ∧ VRs K ρ H ws vs ∧ ws.length = n ∧ Post K mg (fun c d _ H => E c d H) (relV K) ρ H [] (den ws st) Q
abbrev WxOf (E : XK) : WX := fun c d _ H => E c d H
section
variable {P : Program} {w : World} {K : PySem.W.Frag} {mg : Str → Option Value} {base : Heap}
/-- a def of the text keeps its promise -/
theorem fn_ok {x qual : Str} {st : Stmt} {f : Addr} {fd : FuncData} {N ps : List Str} {k : Nat} {body : DS} (F : Fun K x qual st f fd) (S : FnScope N ps (defScope st)) 
    (hb : ∀ (cdv : Value) (A : Around) (outer : List Env) (s : Shared) (H : Hp) (E : XK), Room k (A.deeper (envOfC qual (defScope st) s.heap.objs.size f cdv)) →
      ISs (cxOf (L2.CX P w) P w K mg base N qual (defScope st) f cdv A outer s H E) none (WxOf E) (defBody st) body) :
    FnOk P w K mg base (L2.CX P w) (k + 1) f fd ps (SpM K mg ps.length (fnDen N.length body)) := by
  refine F.okX S (fun vs H Q E h => ?_) (fun cdv A outer s H vs Q E hr h => ?_)
  · obtain ⟨ρ, ws, st, _, r, e, _⟩ := h
    rw [← VRs.length r, e]
  · obtain ⟨ρ, ws, st0, s0, r, hl, p⟩ := h
    refine ⟨_, hb cdv A outer s H E hr, ρ, ws.map some ++ List.replicate (N.length - ws.length) none, st0, s0, ?_, ?_⟩
    · refine ⟨?_, fun i w' e => ?_, fun _ h => nomatch h⟩
      · simp [L2.start, VRs.length r]
      · by_cases hi : i < ws.length
        · rw [List.getElem?_append_left (by simpa using hi)] at e
          rw [List.getElem?_map] at e
          cases hw : ws[i]? with
          | none => rw [hw] at e; cases e
          | some w2 =>
            rw [hw] at e
            cases e
            obtain ⟨v, e1, rv⟩ := r.get hw
            refine ⟨v, ?_, rv⟩
            unfold L2.start
            rw [List.getElem?_append_left (by rw [List.length_map, ← VRs.length r]; exact hi), List.getElem?_map, e1]
            rfl
        · rw [List.getElem?_append_right (by simpa using hi)] at e
          rw [List.getElem?_replicate] at e
          split at e <;> cases e
    · unfold fnDen at p
      generalize body (ws.map some ++ List.replicate (N.length - ws.length) none) st0 = res at p
      cases res with
      | stuck => exact p.elim
      | err c v env' st' => exact fun ρ' H' σ' cls d g s' e' er => p ρ' H' cls d g s' er
      | go f env' st' =>
        cases f with
        | bk => exact p.elim
        | ct => exact p.elim
        | nx =>
          intro ρ' H' σ' g s' e'
          obtain ⟨mm, em, _⟩ := id g.pre
          subst em
          obtain ⟨v', st2, ρ2, e2, g2, s2, r2⟩ := gc_ok (v := .non) (x := .non) s0 g s' (by simp [VR])
          simp only [e2] at p
          exact p ρ2 H' _ g2 s2 r2
        | rt v =>
          intro ρ' H' σ' g s' e' x rx
          obtain ⟨mm, em, _⟩ := id g.pre
          subst em
          obtain ⟨v', st2, ρ2, e2, g2, s2, r2⟩ := gc_ok s0 g s' rx
          simp only [e2] at p
          exact p ρ2 H' _ g2 s2 r2
end

/-! ### calls -/
section
variable {X : Cx} {ex : Option Exn} {Wx : WX} {pos p : Pos} {k : Nat} {f : Addr} {fd : FuncData} {ps ks : List Str} {n : Nat} {den : List W → Store → Res W} {x : Str} {e : Expr} {es : List Expr}
theorem sp_of {ρ : List Addr} {H : Hp} {st : Store} {σ : L2.St} {l : List W} {vs : List V} {Q : VK} (s : StR X.K ρ H st) (r : VRs X.K ρ H l vs) (hl : l.length = n) (p : Post X.K X.mg Wx (relV X.K) ρ H σ (den l st) Q) : SpM X.K X.mg n den vs H Q (WE Wx σ) := by
  refine ⟨ρ, l, st, s, r, hl, ?_⟩
  generalize den l st = res at p
  cases res with
  | ok a st' => exact p
  | err c v st' => exact p
  | stuck => exact p
/-- a def applied: the number of arguments is looked after -/
def dCall (n : Nat) (den : List W → Store → Res W) (m : D (List W)) : D W := fun env st => (m env st).bind fun l st1 => if l.length = n then den l st1 else .stuck
theorem ie_call {m : D (List W)} (F : FnOk X.prog X.w X.K X.mg X.base (L2.CX X.prog X.w) k f fd ps (SpM X.K X.mg n den)) (hr : Room k X.A) (hg : Gl X x) (hm : X.mg x = some (.ref f)) (hk : PySem.W.keepIn X.K (.ref f) = true) (hb : Binds X.K fd ps []) (tk : Takes X Wx)
    (ha : IA X ex Wx (e :: es) m) (hdb : (x == ("__debug__" : Str)) = false := by decide) (he : starEach (e :: es) X.env = (false, eval e X.env) :: starEach es X.env := by rfl) (hpl : (backTo pos (starEach es X.env)).any (·.1) = false := by rfl) :
    IE X ex Wx (.Call (.Name x p) (e :: es) [] pos) (dCall n den m) :=
  PE.of (pe_callS F hr hg hm hk hb (fun σ => passAt tk σ) ha hdb he hpl) fun σ H Q ⟨ρ, env, st, s, e, p⟩ => RG.bind s e p fun ρ1 H1 st1 l vs g s1 e1 r p1 => by
    split at p1
    · rename_i hl; exact sp_of s1 r hl p1
    · exact p1.elim
theorem pe_call0S {sp : Sp} {E : L2.St → XK} {CX : CXT} (F : FnOk X.prog X.w X.K X.mg X.base CX k f fd ps sp) (hr : Room k X.A) (hg : Gl X x) (hm : X.mg x = some (.ref f)) (hk : PySem.W.keepIn X.K (.ref f) = true) (hb : Binds X.K fd ps []) (hx : ∀ σ, PassesAt CX X σ (E σ))
    (hdb : (x == ("__debug__" : Str)) = false := by decide) : PE X (.Call (.Name x p) [] [] pos) (tCallS sp E tNil) := by
  refine ⟨fun pins s σ H Q I h => ?_⟩
  refine wpAny_Call_Name_kw (ld_glob I hg hm ?_ hdb)
  exact PySem.W.callWith_K0 I.kIn hk (run_fnS F hr hb (hx σ) I .nil h)
theorem ie_call0 (F : FnOk X.prog X.w X.K X.mg X.base (L2.CX X.prog X.w) k f fd ps (SpM X.K X.mg n den)) (hr : Room k X.A) (hg : Gl X x) (hm : X.mg x = some (.ref f)) (hk : PySem.W.keepIn X.K (.ref f) = true) (hb : Binds X.K fd ps []) (tk : Takes X Wx)
    (hdb : (x == ("__debug__" : Str)) = false := by decide) : IE X ex Wx (.Call (.Name x p) [] [] pos) (dCall n den dNil) :=
  PE.of (pe_call0S F hr hg hm hk hb (fun σ => passAt tk σ) hdb) fun σ H Q ⟨ρ, env, st, s, e, p⟩ => by
    show SpM X.K X.mg n den [] H Q (WE Wx σ)
    unfold dCall dNil at p
    simp only [Res.bind_ok] at p
    split at p
    · rename_i hl; exact sp_of s (by simp [VRs]) hl p
    · exact p.elim
/-- built-in functions and types -/
theorem ie_callB {id : String} {r : List V → Hp → VK → Prop} {g : List W → Store → Res W} {m : D (List W)} (hc : CallR X (.builtin id) r) (hf : CallOk X r g) (hg : Gl X x) (hm : X.mg x = none) (hv : bootBuiltins x = some (.builtin id)) (ha : IA X ex Wx (e :: es) m) (hn : x ≠ "__name__" := by decide)
    (hdb : (x == ("__debug__" : Str)) = false := by decide) (he : starEach (e :: es) X.env = (false, eval e X.env) :: starEach es X.env := by rfl) (hpl : (backTo pos (starEach es X.env)).any (·.1) = false := by rfl) : IE X ex Wx (.Call (.Name x p) (e :: es) [] pos) (dApp g m) :=
  PE.of (pe_callB hc hg hm hv ha hn hdb he hpl) fun σ H Q ⟨ρ, env, st, s, e, p⟩ => RG.bind s e p fun ρ1 H1 st1 l vs g s1 e1 r p1 => hf Wx ρ1 H1 st1 σ l vs Q s1 r p1
theorem ie_callTy {T : String} {r : List V → Hp → VK → Prop} {g : List W → Store → Res W} {m : D (List W)} (hc : CallR X (.type T) r) (hf : CallOk X r g) (hg : Gl X x) (hm : X.mg x = none) (hv : bootBuiltins x = some (.type T)) (ha : IA X ex Wx (e :: es) m) (hn : x ≠ "__name__" := by decide)
    (hdb : (x == ("__debug__" : Str)) = false := by decide) (he : starEach (e :: es) X.env = (false, eval e X.env) :: starEach es X.env := by rfl) (hpl : (backTo pos (starEach es X.env)).any (·.1) = false := by rfl) : IE X ex Wx (.Call (.Name x p) (e :: es) [] pos) (dApp g m) :=
  PE.of (pe_callTy hc hg hm hv ha hn hdb he hpl) fun σ H Q ⟨ρ, env, st, s, e, p⟩ => RG.bind s e p fun ρ1 H1 st1 l vs g s1 e1 r p1 => hf Wx ρ1 H1 st1 σ l vs Q s1 r p1
/-- methods of built-in types; ty: the receiver is of the type -/
def dBm (ty : W → Store → Bool) (g : W → List W → Store → Res W) (mo : D W) (m : D (List W)) : D W := fun env st => (mo env st).bind fun a st1 => if ty a st1 = true then (m env st1).bind fun l st2 => g a l st2 else .stuck
def MtOk (X : Cx) (r : V → List V → Hp → VK → Prop) (g : W → List W → Store → Res W) : Prop :=
  ∀ (Wx : WX) (ρ : List Addr) (H : Hp) (st : Store) (σ : L2.St) (a : W) (l : List W) (x : V) (vs : List V) (Q : VK), StR X.K ρ H st → VR X.K ρ H a x → VRs X.K ρ H l vs → Post X.K X.mg Wx (relV X.K) ρ H σ (g a l st) Q → r x vs H Q
def TyOk (X : Cx) (T : String) (ty : W → Store → Bool) : Prop :=
  ∀ (ρ : List Addr) (H : Hp) (st : Store) (a : W) (x : V), StR X.K ρ H st → VR X.K ρ H a x → ty a st = true → tyV X.K T x H
theorem ie_bm {T name id : String} {o : Expr} {apos cpos : Pos} {r : V → List V → Hp → VK → Prop} {mo : D W} {m : D (List W)} {g : W → List W → Store → Res W} {ty : W → Store → Bool} (pa : PlainAttrs T) (slot : Slot T name id) (hty : typeOf (.builtin id) = pure (.type "method_descriptor")) (hm : MtR X id r) 
    (hf : MtOk X r g) (hv : TyOk X T ty) (ho : IE X ex Wx o mo) (ha : IA X ex Wx (e :: es) m)
    (hbase : attributeBase o name X.env (eval o X.env) = eval o X.env := by rfl)
    (hfew : ((backTo cpos (starEach (e :: es) X.env)).all (fun x => !x.1) && (backToKw cpos (keywordEach [] X.env)).all (fun x => x.1.isSome)
      && decide ((e :: es).length + ([] : List Keyword).length + (if ([] : List Keyword).isEmpty then 0 else 1) < 30)) = true := by rfl)
    (hline : (apos.endLine == cpos.line) = true := by rfl) (hs : starEach (e :: es) X.env = (false, eval e X.env) :: starEach es X.env := by rfl) (hplain : (backTo cpos (starEach es X.env)).any (·.1) = false := by rfl) :
    IE X ex Wx (.Call (.Attribute o name apos) (e :: es) [] cpos) (dBm ty g mo m) :=
  PE.of (pe_bm pa slot hty hm ho ha hbase hfew hline hs hplain) fun σ H Q ⟨ρ, env, st, s, e, p⟩ => RG.bind s e p fun ρ1 H1 st1 a x g1 s1 e1 ra p1 => by
    split at p1
    · rename_i ht
      exact ⟨hv ρ1 H1 st1 a x s1 ra ht, RG.bind s1 e1 p1 fun ρ2 H2 st2 l vs g2 s2 e2 rl p2 => hf Wx ρ2 H2 st2 σ a l x vs Q s2 (VR.grow s1.apart g2 a x ra) rl p2⟩
    · exact p1.elim
theorem ie_bm0 {T name id : String} {o : Expr} {apos cpos : Pos} {r : V → List V → Hp → VK → Prop} {mo : D W} {g : W → List W → Store → Res W} {ty : W → Store → Bool} (pa : PlainAttrs T) (slot : Slot T name id) (hty : typeOf (.builtin id) = pure (.type "method_descriptor")) (hm : MtR X id r) 
    (hf : MtOk X r g) (hv : TyOk X T ty) (ho : IE X ex Wx o mo)
    (hbase : attributeBase o name X.env (eval o X.env) = eval o X.env := by rfl) (hline : (apos.endLine == cpos.line) = true := by rfl) :
    IE X ex Wx (.Call (.Attribute o name apos) [] [] cpos) (dBm ty g mo dNil) :=
  PE.of (pe_bm0 pa slot hty hm ho hbase hline) fun σ H Q ⟨ρ, env, st, s, e, p⟩ => RG.bind s e p fun ρ1 H1 st1 a x g1 s1 e1 ra p1 => by
    split at p1
    · rename_i ht
      exact ⟨hv ρ1 H1 st1 a x s1 ra ht, hf Wx ρ1 H1 st1 σ a [] x [] Q s1 ra (by simp [VRs]) p1⟩
    · exact p1.elim
end
end
end MP
namespace MP
open PySem PySem.Spec PyProof.Rows L2
open Classical
noncomputable section

/-! ### errors -/
/-- the promise of an error's __init__: self.value = value -/
def spExc (K : PySem.W.Frag) : Sp := fun vs H Q _ => ∃ (a C : Addr) (y : V), vs = [.ref a, y] ∧ OexC K C ∧ PySem.W.findIn K (.ref C) ("value" : Str) = some none ∧ H a = some (exo a C none) ∧
  ∀ d, H d = none → d ≠ a → Q .non (upd (upd H d (exd d [(("value" : Str), y)])) a (exo a C (some d)))
section
variable {P : Program} {w : World} {K : PySem.W.Frag} {mg : Str → Option Value} {base : Heap}
theorem exc_init_ok {x qual : Str} {st : Stmt} {f : Addr} {fd : FuncData} {p1 p2 p3 p4 : Pos} (F : Fun K x qual st f fd) (S : FnScope ["self", "value"] ["self", "value"] (defScope st))
    (hst : defBody st = [.Assign [.Attribute (.Name "self" p1) "value" p2] (.Name "value" p3) p4]) (hv1 : (defScope st).names.lookup ("self" : Str) = some NameKind.local) (hv2 : (defScope st).names.lookup ("value" : Str) = some NameKind.local) :
    FnOk P w K mg base (L2.CX P w) 1 f fd ["self", "value"] (spExc K) := by
  refine F.okX S (fun vs H Q E h => ?_) (fun cdv A outer s H vs Q E hr h => ?_)
  · obtain ⟨a, C, y, rfl, _⟩ := h
    rfl
  · rw [hst]
    refine ⟨_, pss_one (ps_ost (pv 0 rfl (.inl hv1)) (pv 1 rfl (.inl hv2))), ?_⟩
    obtain ⟨a, C, y, rfl, T, hn, ha, q⟩ := h
    exact ⟨y, rfl, .ref a, rfl, a, C, rfl, T, hn, .inl ⟨ha, fun d hd ne => q d hd ne⟩⟩
end
/-- what the written part says of an error class with the __init__ at f -/
structure ErrC (K : PySem.W.Frag) (mg : Str → Option Value) (x : Str) (C f : Addr) : Prop where
  cls : OexC K C
  mgC : mg x = some (.ref C)
  ini : PySem.W.findIn K (.ref C) "__init__" = some (some (.ref f))
  ity : PySem.W.typeIn K (.ref f) = some (.type "function")
  noV : PySem.W.findIn K (.ref C) ("value" : Str) = some none
  xf : XfC K C
def sRaise (x : Str) (m : D (List W)) : DS := fun env st => (m env st).then env fun l st1 => match l with
  | [w] => .err x w env st1
  | _ => .stuck
section
variable {X : Cx} {ex : Option Exn} {Wx : WX} {pos pos2 p : Pos} {k : Nat} {f C : Addr} {fd : FuncData} {x : Str} {e : Expr}
theorem raise_heap {H : Hp} {a d : Addr} {C : Addr} {y : V} (ha : H a = none) (hd : upd H a (exo a C none) d = none) (hda : d ≠ a) :
    upd (del (upd (upd (upd H a (exo a C none)) d (exd d [(("value" : Str), y)])) a (exo a C (some d))) a) d (.xd [(("value" : Str), y)]) = upd H d (.xd [(("value" : Str), y)]) := by
  funext b
  by_cases h1 : b = d
  · rw [h1, upd_same, upd_same]
  · rw [upd_ne h1, upd_ne h1]
    by_cases h2 : b = a
    · rw [h2, del_same, ha]
    · rw [del_ne h2, upd_ne h2, upd_ne h1, upd_ne h2]
theorem is_raise {m : D (List W)} (hc : X.calm = true) (tk : Takes X Wx) (T : ErrC X.K X.mg x C f) (F : FnOk X.prog X.w X.K X.mg X.base (L2.CX X.prog X.w) k f fd ["self", "value"] (spExc X.K)) (hr : Room (k + 1) X.A) (hb : Binds X.K fd ["self", "value"] []) (hg : Gl X x)
    (ha : IA X ex Wx [e] m) (hdb : (x == ("__debug__" : Str)) = false := by decide) (he : starEach [e] X.env = (false, eval e X.env) :: starEach [] X.env := by rfl) (hpl : (backTo pos (starEach [] X.env)).any (·.1) = false := by rfl) :
    IS X ex Wx (.Raise (some (.Call (.Name x p) [e] [] pos)) none pos2) (sRaise x m) :=
  PS.of (ps_raise hc tk (pmk_oex T.cls T.ini T.ity F hr hb .nil passL hg T.mgC ha hdb he hpl)) fun De σ H ⟨ρ, env, st, s, e, q⟩ => RS.step (rel := relVs X.K) s e q fun ρ1 H1 st1 l vs g s1 e1 r q1 => by
    match l, r, q1 with
    | [w], r, q1 =>
      have r' := r
      simp only [relVs, VRs] at r'
      obtain ⟨y, _, rfl, ry, rfl⟩ := r'
      refine ⟨by show 1 ≤ 1000; decide, fun a na => ⟨a, C, y, rfl, T.cls, T.noV, upd_same, fun d nd dne => ⟨rfl, d, [(("value" : Str), y)], upd_same, ?_, ?_, ?_⟩⟩⟩
      · rw [upd_ne dne, upd_same]
      · rw [upd_ne dne] at nd; exact nd
      · rw [raise_heap na nd dne]
        have nd1 : H1 d = none := by rw [upd_ne dne] at nd; exact nd
        exact q1 ρ1 _ σ _ _ (grow_imm nd1) (s1.grow_imm nd1) (e1.grow s1.apart (grow_imm nd1)) ⟨C, d, y, T.mgC, rfl, rfl, upd_same, s1.none_of nd1, VR.grow s1.apart (grow_imm nd1) w y ry⟩
/-! ### try .. except X as n -/
def unAt (i : Nat) (r : RsS) : RsS := match r with
  | .go f env st => .go f (env.set i none) st
  | .err _ _ _ _ => .stuck
  | .stuck => .stuck
/-- sub: which error names the clause takes (none: not known) -/
def sTryAs (i : Nat) (b : DS) (sub : Str → Option Bool) (su : Str → W → DS) : DS := fun env st => match b env st with
  | .err c w env1 st1 => match sub c with
    | some true => if i < env1.length then unAt i (su c w (env1.set i none) st1) else .stuck
    | some false => .err c w env1 st1
    | none => .stuck
  | r => r
def SubOk (X : Cx) (cv : Value) (sub : Str → Option Bool) : Prop := ∀ c b, sub c = some b → ∀ C, X.mg c = some (.ref C) → PySem.W.exmOne X.K (.ref C) cv = some b ∧ (b = true → XfC X.K C ∧ PySem.W.findIn X.K (.ref C) ("value" : Str) = some none)
/-- the suite: over each error that comes -/
def SuOk (X : Cx) (i : Nat) (stmts : List Stmt) (sub : Str → Option Bool) (su : Str → W → DS) : Prop :=
  ∀ (c : Str) (C dd a : Addr) (y : V) (w : W) (oe : Obj) (pn : List (Addr × Obj)), sub c = some true → X.mg c = some (.ref C) → XfC X.K C → PySem.W.findIn X.K (.ref C) ("value" : Str) = some none → Zc (.ref C) (some dd) oe → (∃ vs, oe.data = .fields vs) → ISs (X.suite a ((a, oe) :: pn)) (some ⟨i, a, dd, y, w⟩) W0 stmts (su c w)
theorem pss_ex {X : Cx} {st : List Stmt} {α : Type} {t : α → TS} (h : ∀ a, PSs X st (t a)) : PSs X st (fun D σ H => ∃ a, t a D σ H) := ⟨fun pins s σ H D I ⟨a, q⟩ => (h a).run pins s σ H D I q⟩
theorem pss_and {X : Cx} {st : List Stmt} {φ : Prop} {t : TS} (h : φ → PSs X st t) : PSs X st (fun D σ H => φ ∧ t D σ H) := ⟨fun pins s σ H D I ⟨f, q⟩ => (h f).run pins s σ H D I q⟩
theorem is_try_as {x n : Str} {c : Value} {i : Nat} {body suite : List Stmt} {b₀ : Stmt} {np pos' : Pos} {b : DS} {sub : Str → Option Bool} {su : Str → W → DS} (hs : X.stack = X.env :: X.outer) (hf : X.env.frame = some X.env.locals) (hN : X.N.Nodup) (hi : X.N[i]? = some n) (hln : X.env.kindOf n = some .local) (hc : Names X x c) (tk : Takes X Wx)
    (hb : ∀ (W : WX) (pn : List (Addr × Obj)) (xe : Value → Shared → Prop), Takes (X.tr pn xe) W → PassesOwn (model X.prog X.w) X.A X.env xe → ISs (X.tr pn xe) none W body b) (hsub : SubOk X c sub) (hsu : SuOk X i (b₀ :: suite) sub su) :
    IS X none Wx (.Try body [.ExceptHandler (some (.Name x np)) (some n) (b₀ :: suite) pos'] [] [] pos) (sTryAs i b sub su) := by
  refine PS.of (ps_try_as (tb := fun W => RS X none W b)
    (ts := fun a cls d De σ H => ∃ (c1 : Str) (C dd : Addr) (y : V) (w : MP.W), (sub c1 = some true ∧ X.mg c1 = some (.ref C) ∧ cls = .ref C ∧ d = some dd ∧ XfC X.K C ∧ PySem.W.findIn X.K (.ref C) ("value" : Str) = some none) ∧ RS X (some ⟨i, a, dd, y, w⟩) W0 (su c1 w) De σ H) hs hf hN hi hln hc tk hb ?_) ?_
  · intro a oe cls d pn hz hfv
    refine pss_ex fun c1 => pss_ex fun C => pss_ex fun dd => pss_ex fun y => pss_ex fun w => pss_and fun h => ?_
    obtain ⟨hs1, hm1, rfl, rfl, xf, nv⟩ := h
    exact hsu c1 C dd a y w oe pn hs1 hm1 xf nv hz hfv
  · intro De σ H ⟨ρ, env, st, s, e, q⟩
    refine ⟨ρ, env, st, s, e, ?_⟩
    unfold sTryAs at q
    generalize b env st = res at q
    cases res with
    | stuck => exact q
    | go f env1 st1 => exact q
    | err c1 w env1 st1 =>
      intro ρ' H' σ' cls d g s' e' er
      simp only at q
      obtain ⟨C, dd, y, hm, rfl, rfl, hx, ndd, rw⟩ := id er
      cases hsb : sub c1 with
      | none => rw [hsb] at q; exact q.elim
      | some bb =>
        rw [hsb] at q
        obtain ⟨hb1, hb2⟩ := hsub c1 bb hsb C hm
        refine ⟨bb, hb1, fun hbt a na => ?_, fun hbf => ?_⟩
        · subst hbt
          simp only at q
          obtain ⟨xf, nv⟩ := hb2 rfl
          by_cases hil0 : i < env1.length
          case neg => rw [if_neg hil0] at q; exact q.elim
          rw [if_pos hil0] at q
          refine ⟨c1, C, dd, y, w, ⟨hsb, hm, rfl, rfl, xf, nv⟩, ρ', env1.set i none, st1, s', ⟨by simp [e'.len], fun j w' h => ?_, fun x h => ?_⟩, ?_⟩
          · by_cases hj : i = j
            · subst hj
              rw [List.getElem?_set] at h
              split at h
              · first | cases h | (split at h <;> cases h)
              · rename_i z; exact absurd rfl z
            · rw [List.getElem?_set_ne hj] at h
              obtain ⟨v, h1, h2⟩ := e'.at_ j w' h
              exact ⟨v, by rw [List.getElem?_set_ne hj]; exact h1, h2⟩
          · cases h
            refine ⟨?_, hx, ndd, rw⟩
            have hil : i < σ'.length := by rw [e'.len]; exact hil0
            show (σ'.set i (some (V.ref a)))[i]? = _
            rw [List.getElem?_set_self hil]
          · generalize su c1 w (env1.set i none) st1 = r2 at q
            have q := PostS.mono q g
            cases r2 with
            | stuck => exact q
            | err c2 w2 env2 st2 => exact q.elim
            | go f env2 st2 =>
              intro ρ2 H2 σ2 g2 s2 e2
              have e3 : EnvR X.K none ρ2 H2 (env2.set i none) (σ2.set i none) := ⟨by simp [e2.len], fun j w' h => by
                by_cases hj : i = j
                · subst hj
                  rw [List.getElem?_set] at h
                  split at h
                  · first | cases h | (split at h <;> cases h)
                  · rename_i z; exact absurd rfl z
                · rw [List.getElem?_set_ne hj] at h
                  obtain ⟨v, h1, h2⟩ := e2.at_ j w' h
                  exact ⟨v, by rw [List.getElem?_set_ne hj]; exact h1, h2⟩, fun _ h => nomatch h⟩
              have z := q ρ2 H2 (σ2.set i none) g2 s2 e3
              cases f with
              | nx => exact z
              | bk => exact z
              | ct => exact z
              | rt v => exact z
        · subst hbf
          simp only at q
          exact q ρ' H' σ' _ _ g s' e' er
/-- n.value in the suite -/
def dExc (w : W) : D W := fun _ st => .ok w st
theorem ie_exc {a C dd : Addr} {y : V} {w : W} {i : Nat} {oe : Obj} {pn : List (Addr × Obj)} {n : Str} {q1 : Pos} (T : XfC X.K C) (hno : PySem.W.findIn X.K (.ref C) ("value" : Str) = some none) (hz : Zc (.ref C) (some dd) oe) (hf : ∃ vs, oe.data = .fields vs)
    (hN : X.N[i]? = some n) (hv : Vis X.env.scope n) (hd : (n == ("__debug__" : Str)) = false := by decide) (hcd : (n == ("__classdict__" : Str)) = false := by decide) :
    IE (X.suite a ((a, oe) :: pn)) (some ⟨i, a, dd, y, w⟩) Wx (.Attribute (.Name n q1) "value" pos) (dExc w) := by
  refine PE.of (pe_xf T hno hz hf (pe_var (i := i) hN hv hd hcd)) fun σ H Q ⟨ρ, env, st, s, e, p⟩ => ?_
  obtain ⟨h1, h2, h3, h4⟩ := e.exc _ rfl
  exact ⟨.ref a, h1, rfl, rfl, dd, _, y, rfl, h2, by simp [List.lookup], p.ok_ s h4⟩
end
end
end MP
namespace MP
open PySem PySem.Spec PyProof.Rows L2
open Classical
noncomputable section

section
variable {X : Cx} {ex : Option Exn} {Wx : WX} {pos : Pos}
theorem loc_lst {ρ : List Addr} {H : Hp} {st : Store} {n : Nat} {x : V} {xs : List W} (s : StR X.K ρ H st) (r : VR X.K ρ H (.loc n) x) (h : st[n]? = some (.lst xs)) : ∃ a us, ρ[n]? = some a ∧ x = .ref a ∧ H a = some (.lst us) ∧ VRs X.K ρ H xs us := by
  simp only [VR] at r
  obtain ⟨a, ha, rfl⟩ := r
  obtain ⟨b, hb, us, hu, rs⟩ := s.ob n _ h
  rw [ha] at hb; cases hb
  exact ⟨a, us, ha, rfl, hu, rs⟩
theorem tup_of {ρ : List Addr} {H : Hp} {x : V} {xs : List W} (r : VR X.K ρ H (.tup xs) x) : ∃ a us, x = .ref a ∧ TpF X.K H a us ∧ VRs X.K ρ H xs us := by
  simpa only [VR] using r
theorem fro_of {ρ : List Addr} {H : Hp} {x : V} {xs : List W} (r : VR X.K ρ H (.fro xs) x) : ∃ a us, x = .ref a ∧ SqF X.K H a us ∧ VRs X.K ρ H xs us := by
  simpa only [VR] using r
theorem int_of {ρ : List Addr} {H : Hp} {x : V} {i : Int} (r : VR X.K ρ H (.int i) x) : x = .int i := by simpa only [VR] using r
theorem str_of {ρ : List Addr} {H : Hp} {x : V} {i : Str} (r : VR X.K ρ H (.str i) x) : x = .str i := by simpa only [VR] using r
theorem bl_of {ρ : List Addr} {H : Hp} {x : V} {i : Bool} (r : VR X.K ρ H (.bl i) x) : x = .bl i := by simpa only [VR] using r
theorem non_of {ρ : List Addr} {H : Hp} {x : V} (r : VR X.K ρ H .non x) : x = .non := by simpa only [VR] using r
/-- an answer that is a new list -/
theorem post_lst {ρ : List Addr} {H : Hp} {st : Store} {σ : L2.St} {l : List W} {us : List V} {Q : VK} (s : StR X.K ρ H st) (r : VRs X.K ρ H l us) (p : Post X.K X.mg Wx (relV X.K) ρ H σ (.ok (.loc st.length) (st ++ [.lst l])) Q) : ∀ q, H q = none → Q (.ref q) (upd H q (.lst us)) := fun q hq => by
  obtain ⟨a, b⟩ := lst_new s r hq
  exact p (ρ ++ [q]) _ _ (grow_new hq) a b
theorem post_tup {ρ : List Addr} {H : Hp} {st : Store} {σ : L2.St} {l : List W} {us : List V} {Q : VK} (s : StR X.K ρ H st) (r : VRs X.K ρ H l us) (p : Post X.K X.mg Wx (relV X.K) ρ H σ (.ok (.tup l) st) Q) : ∀ q, H q = none → Q (.ref q) (upd H q (.tup us)) := fun q hq =>
  p ρ _ _ (grow_imm hq) (s.grow_imm hq) (tup_new s r hq)
theorem post_int {ρ : List Addr} {H : Hp} {st : Store} {σ : L2.St} {i : Int} {Q : VK} (s : StR X.K ρ H st) (p : Post X.K X.mg Wx (relV X.K) ρ H σ (.ok (.int i) st) Q) : Q (.int i) H := p.ok_ s (by simp [VR])
theorem post_str {ρ : List Addr} {H : Hp} {st : Store} {σ : L2.St} {i : Str} {Q : VK} (s : StR X.K ρ H st) (p : Post X.K X.mg Wx (relV X.K) ρ H σ (.ok (.str i) st) Q) : Q (.str i) H := p.ok_ s (by simp [VR])
theorem post_bl {ρ : List Addr} {H : Hp} {st : Store} {σ : L2.St} {i : Bool} {Q : VK} (s : StR X.K ρ H st) (p : Post X.K X.mg Wx (relV X.K) ρ H σ (.ok (.bl i) st) Q) : Q (.bl i) H := p.ok_ s (by simp [VR])
/-! ### + - * // % ** -/
def lst2 (st : Store) (m n : Nat) : Option (List W × List W) := match st[m]?, st[n]? with
  | some (.lst xs), some (.lst ys) => some (xs, ys)
  | _, _ => none
def addW (a b : W) (st : Store) : Res W := match a, b with
  | .int i, .int j => .ok (.int (i + j)) st
  | .str x, .str y => if x.length + y.length ≤ sizeLine then .ok (.str (x ++ y)) st else .stuck
  | .tup xs, .tup ys => if xs.length + ys.length ≤ sizeLine then .ok (.tup (xs ++ ys)) st else .stuck
  | .loc m, .loc n => match lst2 st m n with
    | some (xs, ys) => if xs.length + ys.length ≤ sizeLine then .ok (.loc st.length) (st ++ [.lst (xs ++ ys)]) else .stuck
    | none => .stuck
  | _, _ => .stuck
theorem lst2_of {st : Store} {m n : Nat} {xs ys : List W} (h : lst2 st m n = some (xs, ys)) : st[m]? = some (.lst xs) ∧ st[n]? = some (.lst ys) := by
  unfold lst2 at h
  split at h
  · rename_i h1 h2; cases h; exact ⟨h1, h2⟩
  · cases h
def rAdd (K : PySem.W.Frag) : R2 := fun x y H Q => (rI0 (fun i j => .int (i + j)) x y H Q) ∨ ((∃ i j, x = .str i ∧ y = .str j ∧ i.length + j.length ≤ sizeLine ∧ Q (.str (i ++ j)) H) ∨ (rCatA K x y H Q ∨ rCat x y H Q))
theorem opr_add : OpR X (binaryOp .Add) (rAdd X.K) := OpR.or op_add (OpR.or op_add_str (OpR.or op_catA op_cat))
theorem add_ok : OpOk X (rAdd X.K) addW := fun Wx ρ H st σ a b x y Q s ra rb p => by
  unfold addW at p
  split at p
  · rw [int_of ra, int_of rb]
    exact .inl ⟨_, _, rfl, rfl, post_int s p⟩
  · rw [str_of ra, str_of rb]
    split at p
    · rename_i hz
      exact .inr (.inl ⟨_, _, rfl, rfl, hz, post_str s p⟩)
    · exact p.elim
  · split at p
    · rename_i xs ys hz
      obtain ⟨a1, us, rfl, ht, r1⟩ := tup_of ra
      obtain ⟨b1, vs, rfl, hu, r2⟩ := tup_of rb
      refine .inr (.inr (.inl ⟨a1, b1, us, vs, rfl, rfl, ht.sq, hu.sq, by rw [← VRs.length r1, ← VRs.length r2]; exact hz, fun e => ?_, fun _ e => ?_, fun _ _ => post_tup s (r1.append r2) p⟩))
      · refine p.ok_ s ?_
        have e1 : xs = [] := by cases xs with
          | nil => rfl
          | cons _ _ => have := VRs.length r1; rw [e] at this; simp at this
        subst e1
        simp only [List.nil_append, relV, VR]
        exact ⟨b1, vs, rfl, hu, r2⟩
      · refine p.ok_ s ?_
        have e1 : ys = [] := by cases ys with
          | nil => rfl
          | cons _ _ => have := VRs.length r2; rw [e] at this; simp at this
        subst e1
        simp only [List.append_nil, relV, VR]
        exact ⟨a1, us, rfl, ht, r1⟩
    · exact p.elim
  · split at p
    · rename_i xs ys hl
      obtain ⟨h1, h2⟩ := lst2_of hl
      split at p
      · rename_i hz
        obtain ⟨a1, us, _, rfl, hu, r1⟩ := loc_lst s ra h1
        obtain ⟨b1, vs, _, rfl, hv, r2⟩ := loc_lst s rb h2
        exact .inr (.inr (.inr ⟨a1, b1, us, vs, rfl, rfl, hu, hv, by rw [← VRs.length r1, ← VRs.length r2]; exact hz, post_lst s (r1.append r2) p⟩))
      · exact p.elim
    · exact p.elim
  · exact p.elim
theorem ie_add {a b : Expr} {ma mb : D W} (ha : IE X ex Wx a ma) (hb : IE X ex Wx b mb) : IE X ex Wx (.BinOp a .Add b pos) (dOp addW ma mb) := ie_op opr_add add_ok ha hb
def subW (a b : W) (st : Store) : Res W := match a, b with
  | .int i, .int j => .ok (.int (i - j)) st
  | _, _ => .stuck
theorem sub_ok : OpOk X (rI0 fun i j => .int (i - j)) subW := fun Wx ρ H st σ a b x y Q s ra rb p => by
  unfold subW at p
  split at p
  · rw [int_of ra, int_of rb]; exact ⟨_, _, rfl, rfl, post_int s p⟩
  · exact p.elim
theorem ie_sub {a b : Expr} {ma mb : D W} (ha : IE X ex Wx a ma) (hb : IE X ex Wx b mb) : IE X ex Wx (.BinOp a .Sub b pos) (dOp subW ma mb) := ie_op op_sub sub_ok ha hb
theorem op_mulI : OpR X (binaryOp .Mult) (rI IntMulOk fun i j => .int (i * j)) := opI fun _ _ _ _ _ _ _ hc q => mul_int q hc
/-- z, k times -/
def repS (z : Str) (k : Nat) : Str := ⟨(List.replicate k z.cps).foldl (· ++ ·) #[]⟩
def CRepS (z : Str) (k : Int) : Prop := 2 ≤ k ∧ k ≤ 1000 ∧ (1 ≤ z.length ∨ z.length = 0) ∧ z.length ≤ 1000 ∧ (repS z k.toNat).length ≤ sizeLine
theorem op_mulS : OpR X (binaryOp .Mult) (fun x y H Q => ∃ z k, x = .str z ∧ y = .int k ∧ CRepS z k ∧ Q (.str (repS z k.toNat)) H) := by
  intro pins s σ H x y v u Q I rx ry h
  obtain ⟨z, k, rfl, rfl, ⟨h1, h2, h3, h4, h5⟩, q⟩ := h
  obtain ⟨t, rfl⟩ := rx
  obtain ⟨t', rfl⟩ := ry
  have hk1 : (k == 1) = false := by simp; omega
  have h63 : (decide (k < -(2 ^ 63 : Int)) || decide (k ≥ 2 ^ 63)) = false := by
    have a1 : ¬ k < -(2 ^ 63 : Int) := by omega
    have a2 : ¬ k ≥ 2 ^ 63 := by omega
    rw [decide_eq_false a1, decide_eq_false a2]; rfl
  rcases h3 with h3 | h3
  · have hz0 : (z.length == 0) = false := by simp; omega
    refine PySem.P.mul_str h63 (fun _ _ => ?_) (fun _ _ => ?_) ?_
    · have : (2 : Int) ^ 63 - 1 = 9223372036854775807 := by decide
      rw [this]
      intro hgt
      have h6 : (1000 : Int) ≤ 9223372036854775807 / k := by
        rw [Int.le_ediv_iff_mul_le (by omega)]; omega
      omega
    · have hle : z.length * k.toNat ≤ 1000 * 1000 := Nat.mul_le_mul h4 (by omega)
      exact decide_eq_false (by rw [sizeLine_eq]; omega)
    · rw [if_neg (by omega), hk1, hz0]
      exact ⟨h5, .str _, H, I.tok _, ⟨_, rfl⟩, q⟩
  · have hz0 : (z.length == 0) = true := by simp [h3]
    have hz : z = ⟨#[]⟩ := by
      cases z with
      | mk c =>
        have : c.size = 0 := h3
        rw [Array.eq_empty_of_size_eq_zero this]
    have hr : ∀ m : Nat, repS ⟨#[]⟩ m = ⟨#[]⟩ := fun m => by
      have : ∀ (m : Nat), (List.replicate m (#[] : Array Nat)).foldl (· ++ ·) #[] = #[] := fun m => by
        induction m with
        | zero => rfl
        | succ m ih => rw [List.replicate_succ, List.foldl_cons]; exact ih
      unfold repS
      rw [this m]
    refine PySem.P.mul_str h63 (fun _ h => ?_) (fun _ h => ?_) ?_
    · rw [hz0, Bool.or_true] at h; cases h
    · rw [hz0, Bool.or_true] at h; cases h
    · rw [if_neg (by omega), hk1, hz0]
      rw [hz, hr, ← hz] at q
      exact ⟨.str _, H, I, ⟨_, rfl⟩, q⟩
def mulW (a b : W) (st : Store) : Res W := match a, b with
  | .int i, .int j => if IntMulOk i j then .ok (.int (i * j)) st else .stuck
  | .str z, .int k => if CRepS z k then .ok (.str (repS z k.toNat)) st else .stuck
  | .loc m, .int k => match st[m]? with
    | some (.lst xs) => if -(2 ^ 63) ≤ k ∧ k < 2 ^ 63 ∧ xs.length * k.toNat ≤ sizeLine then .ok (.loc st.length) (st ++ [.lst (List.replicate k.toNat xs).flatten]) else .stuck
    | _ => .stuck
  | _, _ => .stuck
theorem VRs.rep {K : PySem.W.Frag} {ρ : List Addr} {H : Hp} {ws : List W} {us : List V} (r : VRs K ρ H ws us) : ∀ n : Nat, VRs K ρ H (List.replicate n ws).flatten (List.replicate n us).flatten
  | 0 => by simp [VRs]
  | n + 1 => by
    simp only [List.replicate_succ, List.flatten_cons]
    exact r.append (r.rep n)
theorem mul_ok : OpOk X (fun x y H Q => rI IntMulOk (fun i j => .int (i * j)) x y H Q ∨ ((∃ z k, x = .str z ∧ y = .int k ∧ CRepS z k ∧ Q (.str (repS z k.toNat)) H) ∨ rRep x y H Q)) mulW := fun Wx ρ H st σ a b x y Q s ra rb p => by
  unfold mulW at p
  split at p
  · split at p
    · rename_i hz
      rw [int_of ra, int_of rb]; exact .inl ⟨_, _, rfl, rfl, hz, post_int s p⟩
    · exact p.elim
  · split at p
    · rename_i hz
      rw [str_of ra, int_of rb]; exact .inr (.inl ⟨_, _, rfl, rfl, hz, post_str s p⟩)
    · exact p.elim
  · split at p
    · rename_i xs hl
      split at p
      · rename_i hz
        obtain ⟨a1, us, _, rfl, hu, r1⟩ := loc_lst s ra hl
        rw [int_of rb]
        exact .inr (.inr ⟨a1, _, us, rfl, rfl, hu, hz.1, hz.2.1, by rw [← VRs.length r1]; exact hz.2.2, post_lst s (r1.rep _) p⟩)
      · exact p.elim
    · exact p.elim
  · exact p.elim
theorem ie_mul {a b : Expr} {ma mb : D W} (ha : IE X ex Wx a ma) (hb : IE X ex Wx b mb) : IE X ex Wx (.BinOp a .Mult b pos) (dOp mulW ma mb) := ie_op (OpR.or op_mulI (OpR.or op_mulS op_rep)) mul_ok ha hb
def fdivW (a b : W) (st : Store) : Res W := match a, b with
  | .int i, .int j => if CDivW i j then .ok (.int (i / j)) st else .stuck
  | _, _ => .stuck
theorem fdiv_ok : OpOk X (rI CDivW fun i j => .int (i / j)) fdivW := fun Wx ρ H st σ a b x y Q s ra rb p => by
  unfold fdivW at p
  split at p
  · split at p
    · rename_i hz
      rw [int_of ra, int_of rb]; exact ⟨_, _, rfl, rfl, hz, post_int s p⟩
    · exact p.elim
  · exact p.elim
theorem ie_fdiv {a b : Expr} {ma mb : D W} (ha : IE X ex Wx a ma) (hb : IE X ex Wx b mb) : IE X ex Wx (.BinOp a .FloorDiv b pos) (dOp fdivW ma mb) := ie_op op_fdivW fdiv_ok ha hb
theorem op_modP : OpR X (binaryOp .Mod) (rI (fun _ j => 0 < j) fun i j => .int (i % j)) := opI fun i j _ _ _ _ _ hc q => mod_int' (by omega) (by rw [Int.fmod_eq_emod_of_nonneg i (by omega)]; exact q)
def modW (a b : W) (st : Store) : Res W := match a, b with
  | .int i, .int j => if 0 < j then .ok (.int (i % j)) st else .stuck
  | _, _ => .stuck
theorem mod_ok : OpOk X (rI (fun _ j => 0 < j) fun i j => .int (i % j)) modW := fun Wx ρ H st σ a b x y Q s ra rb p => by
  unfold modW at p
  split at p
  · split at p
    · rename_i hz
      rw [int_of ra, int_of rb]; exact ⟨_, _, rfl, rfl, hz, post_int s p⟩
    · exact p.elim
  · exact p.elim
theorem ie_mod {a b : Expr} {ma mb : D W} (ha : IE X ex Wx a ma) (hb : IE X ex Wx b mb) : IE X ex Wx (.BinOp a .Mod b pos) (dOp modW ma mb) := ie_op op_modP mod_ok ha hb
def CPowW (i j : Int) : Prop := 0 ≤ j ∧ (Builtin.Int.intBits i : Int) * j ≤ 2 ^ 27
theorem op_powI : OpR X (binaryOp .Pow) (rI CPowW fun i j => .int (i ^ j.toNat)) := opI fun _ _ _ _ _ _ _ hc q => pow_int hc.1 hc.2 q
def powW (a b : W) (st : Store) : Res W := match a, b with
  | .int i, .int j => if CPowW i j then .ok (.int (i ^ j.toNat)) st else .stuck
  | _, _ => .stuck
theorem pow_ok : OpOk X (rI CPowW fun i j => .int (i ^ j.toNat)) powW := fun Wx ρ H st σ a b x y Q s ra rb p => by
  unfold powW at p
  split at p
  · split at p
    · rename_i hz
      rw [int_of ra, int_of rb]; exact ⟨_, _, rfl, rfl, hz, post_int s p⟩
    · exact p.elim
  · exact p.elim
theorem ie_pow {a b : Expr} {ma mb : D W} (ha : IE X ex Wx a ma) (hb : IE X ex Wx b mb) : IE X ex Wx (.BinOp a .Pow b pos) (dOp powW ma mb) := ie_op op_powI pow_ok ha hb
def negW (a : W) (st : Store) : Res W := match a with
  | .int i => .ok (.int (-i)) st
  | _ => .stuck
theorem neg_ok : UnOk X (rU fun i => .int (-i)) negW := fun Wx ρ H st σ a x Q s ra p => by
  unfold negW at p
  split at p
  · rw [int_of ra]; exact ⟨_, rfl, post_int s p⟩
  · exact p.elim
theorem ie_neg {a : Expr} {ma : D W} (ha : IE X ex Wx a ma) : IE X ex Wx (.UnaryOp .USub a pos) (dUn negW ma) := ie_un un_neg neg_ok ha
/-! ### == != by data -/
def allO {α : Type} : List (Option α) → Option (List α)
  | [] => some []
  | some a :: r => (allO r).map (a :: ·)
  | none :: _ => none
def datF (st : Store) : Nat → W → Option PyData
  | 0, _ => none
  | n + 1, w => match w with
    | .non => some .none
    | .bl b => some (.bool b)
    | .int i => some (.int i)
    | .str x => some (.str x)
    | .tup ws => (allO (ws.map (datF st n))).map .tuple
    | .fro ws => (allO (ws.map (datF st n))).map .list
    | .loc k => match st[k]? with
      | some (.lst ws) => (allO (ws.map (datF st n))).map .list
      | none => none
    | .gl _ => none
    | .rng _ _ => none
theorem allO_dp {ρ : List Addr} {H : Hp} {f : W → Option PyData} (h : ∀ w v d, VR X.K ρ H w v → f w = some d → Dp X.K H v d) : ∀ {ws : List W} {us : List V} {ds : List PyData}, VRs X.K ρ H ws us → allO (ws.map f) = some ds → DpAll X.K H us ds
  | [], us, ds, r, e => by
    simp only [VRs] at r
    simp only [List.map_nil, allO, Option.some.injEq] at e
    subst r; subst e
    exact .nil
  | w :: ws, us, ds, r, e => by
    simp only [VRs] at r
    obtain ⟨u, vs, rfl, rw, rs⟩ := r
    simp only [List.map_cons] at e
    cases hf : f w with
    | none => rw [hf] at e; simp [allO] at e
    | some d =>
      rw [hf] at e
      simp only [allO] at e
      cases ha : allO (ws.map f) with
      | none => rw [ha] at e; cases e
      | some dr =>
        rw [ha] at e
        cases e
        exact .cons (h w u d rw hf) (allO_dp h rs ha)
theorem datF_dp {ρ : List Addr} {H : Hp} {st : Store} (s : StR X.K ρ H st) : ∀ (n : Nat) (w : W) (v : V) (d : PyData), VR X.K ρ H w v → datF st n w = some d → Dp X.K H v d
  | 0, _, _, _, _, e => by simp [datF] at e
  | n + 1, w, v, d, r, e => by
    unfold datF at e
    cases w with
    | non => simp only at e; cases e; rw [non_of r]; constructor
    | bl b => simp only at e; cases e; rw [bl_of r]; constructor
    | int i => simp only at e; cases e; rw [int_of r]; constructor
    | str x => simp only at e; cases e; rw [str_of r]; constructor
    | gl u => simp only at e; cases e
    | rng i j => simp only at e; cases e
    | tup ws =>
      simp only at e
      cases ha : allO (ws.map (datF st n)) with
      | none => rw [ha] at e; cases e
      | some ds =>
        rw [ha] at e; cases e
        obtain ⟨a, us, rfl, ht, rs⟩ := tup_of r
        exact .tup ht.sq (allO_dp (datF_dp s n) rs ha)
    | fro ws =>
      simp only at e
      cases ha : allO (ws.map (datF st n)) with
      | none => rw [ha] at e; cases e
      | some ds =>
        rw [ha] at e; cases e
        obtain ⟨a, us, rfl, ht, rs⟩ := fro_of r
        exact .lst ht.sq (allO_dp (datF_dp s n) rs ha)
    | loc k =>
      simp only at e
      cases hk : st[k]? with
      | none => rw [hk] at e; cases e
      | some o =>
        cases o with
        | lst ws =>
          rw [hk] at e
          simp only at e
          cases ha : allO (ws.map (datF st n)) with
          | none => rw [ha] at e; cases e
          | some ds =>
            rw [ha] at e; cases e
            obtain ⟨a, us, _, rfl, hu, rs⟩ := loc_lst s r hk
            exact .lst (.of hu) (allO_dp (datF_dp s n) rs ha)
end
end
end MP
namespace MP
open PySem PySem.Spec PyProof.Rows L2
open Classical
noncomputable section

section
variable {X : Cx} {ex : Option Exn} {Wx : WX} {pos p : Pos}
def eqW (a b : W) (st : Store) : Res W := match datF st 66 a, datF st 66 b with
  | some d, some e => if SeqAt.shaped d = true ∧ SeqAt.shaped e = true then .ok (.bl (PyData.eqv d e)) st else .stuck
  | _, _ => .stuck
def neW (a b : W) (st : Store) : Res W := match datF st 66 a, datF st 66 b with
  | some d, some e => if SeqAt.shaped d = true ∧ SeqAt.shaped e = true then .ok (.bl (!PyData.eqv d e)) st else .stuck
  | _, _ => .stuck
theorem eq_ok : OpOk X (rEqD X.K) eqW := fun Wx ρ H st σ a b x y Q s ra rb p => by
  unfold eqW at p
  split at p
  · rename_i d e hd he
    split at p
    · rename_i hz
      exact ⟨d, e, datF_dp s 66 a x d ra hd, datF_dp s 66 b y e rb he, hz.1, hz.2, post_bl s p⟩
    · exact p.elim
  · exact p.elim
theorem ne_ok : OpOk X (rNeD X.K) neW := fun Wx ρ H st σ a b x y Q s ra rb p => by
  unfold neW at p
  split at p
  · rename_i d e hd he
    split at p
    · rename_i hz
      exact ⟨d, e, datF_dp s 66 a x d ra hd, datF_dp s 66 b y e rb he, hz.1, hz.2, post_bl s p⟩
    · exact p.elim
  · exact p.elim
section
variable {a b : Expr} {ma mb : D W} {k : Nat}
theorem ie_eq (hr : Room k X.A) (ha : IE X ex Wx a ma) (hb : IE X ex Wx b mb) : IE X ex Wx (.Compare a [.Eq] [b] pos) (dOp eqW ma mb) := ie_cmp (op_eqD hr.units) eq_ok ha hb (nomark _)
theorem ie_ne (hr : Room k X.A) (ha : IE X ex Wx a ma) (hb : IE X ex Wx b mb) : IE X ex Wx (.Compare a [.NotEq] [b] pos) (dOp neW ma mb) := ie_cmp (op_neD hr.units) ne_ok ha hb (nomark _)
theorem it_eq (hr : Room k X.A) (ha : IE X ex Wx a ma) (hb : IE X ex Wx b mb) : IT X ex Wx (.Compare a [.Eq] [b] pos) (dBool (dOp eqW ma mb)) := it_cmp (op_eqD hr.units) eq_ok ha hb (nomark _)
theorem it_ne (hr : Room k X.A) (ha : IE X ex Wx a ma) (hb : IE X ex Wx b mb) : IT X ex Wx (.Compare a [.NotEq] [b] pos) (dBool (dOp neW ma mb)) := it_cmp (op_neD hr.units) ne_ok ha hb (nomark _)
end
/-! ### < <= > >= -/
def ltW (a b : W) (st : Store) : Res W := match a, b with
  | .int i, .int j => .ok (.bl (decide (i < j))) st
  | .str x, .str y => .ok (.bl (decide (x.cps.toList < y.cps.toList))) st
  | _, _ => .stuck
def leW (a b : W) (st : Store) : Res W := match a, b with
  | .int i, .int j => .ok (.bl (decide (i ≤ j))) st
  | .str x, .str y => .ok (.bl (!decide (y.cps.toList < x.cps.toList))) st
  | _, _ => .stuck
def gtW (a b : W) (st : Store) : Res W := match a, b with
  | .int i, .int j => .ok (.bl (decide (j < i))) st
  | .str x, .str y => .ok (.bl (decide (y.cps.toList < x.cps.toList))) st
  | _, _ => .stuck
def geW (a b : W) (st : Store) : Res W := match a, b with
  | .int i, .int j => .ok (.bl (decide (j ≤ i))) st
  | .str x, .str y => .ok (.bl (!decide (x.cps.toList < y.cps.toList))) st
  | _, _ => .stuck
theorem ord_ok {f : W → W → Store → Res W} {g : Int → Int → Bool} {h : Str → Str → Bool} (hf : ∀ a b st, f a b st = match a, b with
    | .int i, .int j => .ok (.bl (g i j)) st
    | .str x, .str y => .ok (.bl (h x y)) st
    | _, _ => .stuck) : OpOk X (fun x y H Q => rI0 (fun i j => .bl (g i j)) x y H Q ∨ ∃ i j, x = .str i ∧ y = .str j ∧ Q (.bl (h i j)) H) f := fun Wx ρ H st σ a b x y Q s ra rb p => by
  rw [hf] at p
  split at p
  · rw [int_of ra, int_of rb]; exact .inl ⟨_, _, rfl, rfl, post_bl s p⟩
  · rw [str_of ra, str_of rb]; exact .inr ⟨_, _, rfl, rfl, post_bl s p⟩
  · exact p.elim
section
variable {a b : Expr} {ma mb : D W}
theorem ie_lt (ha : IE X ex Wx a ma) (hb : IE X ex Wx b mb) : IE X ex Wx (.Compare a [.Lt] [b] pos) (dOp ltW ma mb) := ie_cmp (OpR.or op_lt op_lt_str) (ord_ok fun _ _ _ => rfl) ha hb (nomark _)
theorem ie_le (ha : IE X ex Wx a ma) (hb : IE X ex Wx b mb) : IE X ex Wx (.Compare a [.LtE] [b] pos) (dOp leW ma mb) := ie_cmp (OpR.or op_le op_le_str) (ord_ok fun _ _ _ => rfl) ha hb (nomark _)
theorem ie_gt (ha : IE X ex Wx a ma) (hb : IE X ex Wx b mb) : IE X ex Wx (.Compare a [.Gt] [b] pos) (dOp gtW ma mb) := ie_cmp (OpR.or op_gt op_gt_str) (ord_ok fun _ _ _ => rfl) ha hb (nomark _)
theorem ie_ge (ha : IE X ex Wx a ma) (hb : IE X ex Wx b mb) : IE X ex Wx (.Compare a [.GtE] [b] pos) (dOp geW ma mb) := ie_cmp (OpR.or op_ge op_ge_str) (ord_ok fun _ _ _ => rfl) ha hb (nomark _)
theorem it_lt (ha : IE X ex Wx a ma) (hb : IE X ex Wx b mb) : IT X ex Wx (.Compare a [.Lt] [b] pos) (dBool (dOp ltW ma mb)) := it_cmp (OpR.or op_lt op_lt_str) (ord_ok fun _ _ _ => rfl) ha hb (nomark _)
theorem it_le (ha : IE X ex Wx a ma) (hb : IE X ex Wx b mb) : IT X ex Wx (.Compare a [.LtE] [b] pos) (dBool (dOp leW ma mb)) := it_cmp (OpR.or op_le op_le_str) (ord_ok fun _ _ _ => rfl) ha hb (nomark _)
theorem it_gt (ha : IE X ex Wx a ma) (hb : IE X ex Wx b mb) : IT X ex Wx (.Compare a [.Gt] [b] pos) (dBool (dOp gtW ma mb)) := it_cmp (OpR.or op_gt op_gt_str) (ord_ok fun _ _ _ => rfl) ha hb (nomark _)
theorem it_ge (ha : IE X ex Wx a ma) (hb : IE X ex Wx b mb) : IT X ex Wx (.Compare a [.GtE] [b] pos) (dBool (dOp geW ma mb)) := it_cmp (OpR.or op_ge op_ge_str) (ord_ok fun _ _ _ => rfl) ha hb (nomark _)
/-- a <= b <= c -/
theorem ie_lele {c : Expr} {mc : D W} (ha : IE X ex Wx a ma) (hb : IE X ex Wx b mb) (hc : IE X ex Wx c mc) (hm : lastMarks [.LtE, .LtE] [b, c] = false := by with_unfolding_all rfl) : IE X ex Wx (.Compare a [.LtE, .LtE] [b, c] pos) (dChain leW leW ma mb mc) :=
  ie_chain (OpR.or op_le op_le_str) (ord_ok fun _ _ _ => rfl) (OpR.or op_le op_le_str) (ord_ok fun _ _ _ => rfl) ha hb hc hm
/-- a <= b < c -/
theorem ie_lelt {c : Expr} {mc : D W} (ha : IE X ex Wx a ma) (hb : IE X ex Wx b mb) (hc : IE X ex Wx c mc) (hm : lastMarks [.LtE, .Lt] [b, c] = false := by with_unfolding_all rfl) : IE X ex Wx (.Compare a [.LtE, .Lt] [b, c] pos) (dChain leW ltW ma mb mc) :=
  ie_chain (OpR.or op_le op_le_str) (ord_ok fun _ _ _ => rfl) (OpR.or op_lt op_lt_str) (ord_ok fun _ _ _ => rfl) ha hb hc hm
end
theorem tru_step {m : D W} (σ : L2.St) (H : Hp) (Q : Bool → Hp → Prop) (h : RG X ex Wx relE (dBool m) σ H Q) : RG X ex Wx (relV X.K) m σ H fun x H' => ∃ k, TruV X.K x H' k ∧ Q k H' := by
  obtain ⟨ρ, env, st, s, e, q⟩ := dBool_step h
  refine ⟨ρ, env, st, s, e, ?_⟩
  generalize m env st = r at q
  cases r with
  | stuck => exact q
  | err c w st1 => exact q
  | ok a st1 =>
    intro ρ' H' x g s' r
    obtain ⟨k, ek, q'⟩ := q ρ' H' x g s' r
    subst ek
    exact ⟨k, rfl, q'⟩
/-- a bool's expression as a test -/
theorem it_val {e : Expr} {m : D W} (he : IE X ex Wx e m) (hw : ∀ whole, isTrue e X.env whole = (do let v ← whole; standAt e.pos; holding [v] (truthy v)) := by intro _; rfl) : IT X ex Wx e (dBool m) :=
  PT.of (pt_truth he hw) (tru_step)
theorem chain_step {op op' : CmpOp} {r r' : R2} {f g : W → W → Store → Res W} {ma mb mc : D W} (hf : OpOk X r f) (hg : OpOk X r' g) (σ : L2.St) (H : Hp) (Q : VK) (h : RG X ex Wx (relV X.K) (dChain f g ma mb mc) σ H Q) :
    tChain r r' (RG X ex Wx (relV X.K) ma) (RG X ex Wx (relV X.K) mb) (RG X ex Wx (relV X.K) mc) σ H Q := by
  obtain ⟨ρ, env, st, s, e, q⟩ := h
  refine RG.bind s e q fun ρ1 H1 st1 a x g1 s1 e1 ra p1 => RG.bind s1 e1 p1 fun ρ2 H2 st2 b y g2 s2 e2 rb p2 => ?_
  refine hf Wx ρ2 H2 st2 σ a b x y _ s2 (VR.grow s1.apart g2 a x ra) rb ?_
  generalize f a b st2 = q2 at p2
  cases q2 with
  | stuck => exact p2
  | err c fs st' => exact p2
  | ok z st3 =>
    intro ρ3 H3 zv g3 s3 rz
    simp only [Res.bind_ok] at p2
    cases z with
    | bl k =>
      refine ⟨k, bl_of rz, ?_⟩
      cases k with
      | true =>
        rw [if_pos rfl]
        exact RG.bind s3 (e2.grow s2.apart g3) (Post.mono p2 g3) fun ρ4 H4 st4 c z g4 s4 e4 rc p4 => hg Wx ρ4 H4 st4 σ b c y z Q s4 (VR.grow s3.apart g4 b y (VR.grow s2.apart g3 b y rb)) rc p4
      | false =>
        rw [if_neg (by decide)]
        exact post_bl s3 (Post.mono p2 g3)
    | _ => exact p2.elim
theorem it_lele {a b c : Expr} {ma mb mc : D W} (ha : IE X ex Wx a ma) (hb : IE X ex Wx b mb) (hc : IE X ex Wx c mc) (hm : lastMarks [.LtE, .LtE] [b, c] = false := by with_unfolding_all rfl) : IT X ex Wx (.Compare a [.LtE, .LtE] [b, c] pos) (dBool (dChain leW leW ma mb mc)) :=
  PT.of (pt_chain (OpR.or op_le op_le_str) (OpR.or op_le op_le_str) ha hb hc hm) fun σ H Q h => chain_step (op := .LtE) (op' := .LtE) (ord_ok fun _ _ _ => rfl) (ord_ok fun _ _ _ => rfl) σ H _ (dBool_step h)
theorem it_lelt {a b c : Expr} {ma mb mc : D W} (ha : IE X ex Wx a ma) (hb : IE X ex Wx b mb) (hc : IE X ex Wx c mc) (hm : lastMarks [.LtE, .Lt] [b, c] = false := by with_unfolding_all rfl) : IT X ex Wx (.Compare a [.LtE, .Lt] [b, c] pos) (dBool (dChain leW ltW ma mb mc)) :=
  PT.of (pt_chain (OpR.or op_le op_le_str) (OpR.or op_lt op_lt_str) ha hb hc hm) fun σ H Q h => chain_step (op := .LtE) (op' := .Lt) (ord_ok fun _ _ _ => rfl) (ord_ok fun _ _ _ => rfl) σ H _ (dBool_step h)
/-- any value's truth: a list, a text, a number -/
def truW (a : W) (st : Store) : Res Bool := match a with
  | .non => .ok false st
  | .bl b => .ok b st
  | .int i => .ok (i != 0) st
  | .str y => if y.length ≤ sizeLine then .ok ((y.length : Int) != 0) st else .stuck
  | _ => .stuck
def dTru (m : D W) : D Bool := fun env st => (m env st).bind fun a st1 => truW a st1
theorem it_tru {e : Expr} {m : D W} (he : IE X ex Wx e m) (hw : ∀ whole, isTrue e X.env whole = (do let v ← whole; standAt e.pos; holding [v] (truthy v)) := by intro _; rfl) : IT X ex Wx e (dTru m) :=
  PT.of (pt_truth he hw) fun σ H Q ⟨ρ, env, st, s, e, p⟩ => RG.bind s e p fun ρ1 H1 st1 a x g1 s1 e1 ra p1 => by
    unfold truW at p1
    split at p1
    · rw [non_of ra]; exact ⟨false, rfl, p1.ok_ s1 rfl⟩
    · rw [bl_of ra]; exact ⟨_, rfl, p1.ok_ s1 rfl⟩
    · rw [int_of ra]; exact ⟨_, rfl, p1.ok_ s1 rfl⟩
    · split at p1
      · rename_i hz
        rw [str_of ra]; exact ⟨_, ⟨hz, rfl⟩, p1.ok_ s1 rfl⟩
      · exact p1.elim
    · exact p1.elim
/-! ### is None -/
def isNW (a b : W) (st : Store) : Res W := match b with
  | .non => match a with
    | .non => .ok (.bl true) st
    | .gl _ => .stuck
    | _ => .ok (.bl false) st
  | _ => .stuck
def isNotNW (a b : W) (st : Store) : Res W := match b with
  | .non => match a with
    | .non => .ok (.bl false) st
    | .gl _ => .stuck
    | _ => .ok (.bl true) st
  | _ => .stuck
theorem notNon {ρ : List Addr} {H : Hp} {a : W} {x : V} (r : VR X.K ρ H a x) (h : a ≠ .non) (h2 : ∀ u, a ≠ .gl u) : x ≠ .non := by
  cases a with
  | non => exact absurd rfl h
  | gl u => exact absurd rfl (h2 u)
  | bl b => rw [bl_of r]; intro z; cases z
  | int b => rw [int_of r]; intro z; cases z
  | str b => rw [str_of r]; intro z; cases z
  | tup b => obtain ⟨_, _, rfl, _⟩ := tup_of r; intro z; cases z
  | fro b => obtain ⟨_, _, rfl, _⟩ := fro_of r; intro z; cases z
  | loc n => simp only [VR] at r; obtain ⟨_, _, rfl⟩ := r; intro z; cases z
  | rng i j => simp only [VR] at r; obtain ⟨_, rfl, _⟩ := r; intro z; cases z
theorem isN_ok : OpOk X (fun x y H Q => y = .non ∧ Q (.bl (decide (x = .non))) H) isNW := fun Wx ρ H st σ a b x y Q s ra rb p => by
  cases b with
  | non =>
    refine ⟨non_of rb, ?_⟩
    by_cases h : a = .non
    · subst h
      rw [non_of ra]
      exact post_bl s p
    · by_cases h2 : ∃ u, a = .gl u
      · obtain ⟨u, rfl⟩ := h2; exact p.elim
      · rw [decide_eq_false (notNon ra h fun u e => h2 ⟨u, e⟩)]
        cases a with
        | non => exact absurd rfl h
        | gl u => exact p.elim
        | _ => exact post_bl s p
  | _ => exact p.elim
theorem isNotN_ok : OpOk X (fun x y H Q => y = .non ∧ Q (.bl (!decide (x = .non))) H) isNotNW := fun Wx ρ H st σ a b x y Q s ra rb p => by
  cases b with
  | non =>
    refine ⟨non_of rb, ?_⟩
    by_cases h : a = .non
    · subst h
      rw [non_of ra]
      exact post_bl s p
    · by_cases h2 : ∃ u, a = .gl u
      · obtain ⟨u, rfl⟩ := h2; exact p.elim
      · rw [decide_eq_false (notNon ra h fun u e => h2 ⟨u, e⟩)]
        cases a with
        | non => exact absurd rfl h
        | gl u => exact p.elim
        | _ => exact post_bl s p
  | _ => exact p.elim
theorem ie_isN {a : Expr} {b : Expr} {ma mb : D W} (ha : IE X ex Wx a ma) (hb : IE X ex Wx b mb) : IE X ex Wx (.Compare a [.Is] [b] pos) (dOp isNW ma mb) := ie_cmp op_isN isN_ok ha hb (nomark _)
theorem ie_isNotN {a : Expr} {b : Expr} {ma mb : D W} (ha : IE X ex Wx a ma) (hb : IE X ex Wx b mb) : IE X ex Wx (.Compare a [.IsNot] [b] pos) (dOp isNotNW ma mb) := ie_cmp op_notN isNotN_ok ha hb (nomark _)
theorem it_isN {a : Expr} {b : Expr} {ma mb : D W} (ha : IE X ex Wx a ma) (hb : IE X ex Wx b mb) : IT X ex Wx (.Compare a [.Is] [b] pos) (dBool (dOp isNW ma mb)) := it_cmp op_isN isN_ok ha hb (nomark _)
theorem it_isNotN {a : Expr} {b : Expr} {ma mb : D W} (ha : IE X ex Wx a ma) (hb : IE X ex Wx b mb) : IT X ex Wx (.Compare a [.IsNot] [b] pos) (dBool (dOp isNotNW ma mb)) := it_cmp op_notN isNotN_ok ha hb (nomark _)
/-! ### sequences -/
def seqW (st : Store) : W → Option (List W)
  | .tup ws => some ws
  | .fro ws => some ws
  | .loc n => match st[n]? with
    | some (.lst ws) => some ws
    | none => none
  | _ => none
def lstW (st : Store) : W → Option (List W)
  | .fro ws => some ws
  | .loc n => match st[n]? with
    | some (.lst ws) => some ws
    | none => none
  | _ => none
theorem lstW_of {ρ : List Addr} {H : Hp} {st : Store} {a : W} {x : V} {ws : List W} (s : StR X.K ρ H st) (r : VR X.K ρ H a x) (h : lstW st a = some ws) : ∃ q us, x = .ref q ∧ SqL X.K H q us ∧ VRs X.K ρ H ws us := by
  unfold lstW at h
  split at h
  · cases h
    obtain ⟨q, us, rfl, hq, rs⟩ := fro_of r
    exact ⟨q, us, rfl, hq.sq, rs⟩
  · split at h
    · rename_i hk
      cases h
      obtain ⟨q, us, _, rfl, hu, rs⟩ := loc_lst s r hk
      exact ⟨q, us, rfl, .of hu, rs⟩
    · cases h
  · cases h
theorem seqW_of {ρ : List Addr} {H : Hp} {st : Store} {a : W} {x : V} {ws : List W} (s : StR X.K ρ H st) (r : VR X.K ρ H a x) (h : seqW st a = some ws) : ∃ q us, x = .ref q ∧ (SqL X.K H q us ∨ SqT X.K H q us) ∧ VRs X.K ρ H ws us := by
  cases a with
  | tup l =>
    cases h
    obtain ⟨q, us, rfl, hq, rs⟩ := tup_of r
    exact ⟨q, us, rfl, .inr hq.sq, rs⟩
  | fro l =>
    obtain ⟨q, us, e, hq, rs⟩ := lstW_of s r (ws := ws) h
    exact ⟨q, us, e, .inl hq, rs⟩
  | loc n =>
    obtain ⟨q, us, e, hq, rs⟩ := lstW_of s r (ws := ws) h
    exact ⟨q, us, e, .inl hq, rs⟩
  | _ => cases h
/-! ### in, not in -/
def flV : W → Option V
  | .non => some .non
  | .bl b => some (.bl b)
  | .int i => some (.int i)
  | .str x => some (.str x)
  | _ => none
theorem flV_of {ρ : List Addr} {H : Hp} {a : W} {x v : V} (r : VR X.K ρ H a x) (h : flV a = some v) : x = v ∧ flatV x = true := by
  cases a with
  | non => cases h; rw [non_of r]; exact ⟨rfl, rfl⟩
  | bl b => cases h; rw [bl_of r]; exact ⟨rfl, rfl⟩
  | int b => cases h; rw [int_of r]; exact ⟨rfl, rfl⟩
  | str b => cases h; rw [str_of r]; exact ⟨rfl, rfl⟩
  | _ => cases h
theorem allO_map {α β : Type} {f : α → Option β} : ∀ {l : List α} {r : List β}, allO (l.map f) = some r → ∀ {P : β → Prop}, (∀ a b, a ∈ l → f a = some b → P b) → ∀ b ∈ r, P b
  | [], r, h, P, _, b, hb => by simp only [List.map_nil, allO, Option.some.injEq] at h; subst h; cases hb
  | a :: l, r, h, P, hp, b, hb => by
    simp only [List.map_cons] at h
    cases hf : f a with
    | none => rw [hf] at h; simp [allO] at h
    | some c =>
      rw [hf] at h
      simp only [allO] at h
      cases ha : allO (l.map f) with
      | none => rw [ha] at h; cases h
      | some r' =>
        rw [ha] at h; cases h
        rcases List.mem_cons.mp hb with e | hb
        · rw [e]; exact hp a c List.mem_cons_self hf
        · exact allO_map ha (fun a b m => hp a b (List.mem_cons_of_mem _ m)) b hb
theorem flVs_of {ρ : List Addr} {H : Hp} : ∀ {ws : List W} {us vs : List V}, VRs X.K ρ H ws us → allO (ws.map flV) = some vs → us = vs ∧ us.all flatV = true
  | [], us, vs, r, h => by
    simp only [VRs] at r
    simp only [List.map_nil, allO, Option.some.injEq] at h
    subst r; subst h; exact ⟨rfl, rfl⟩
  | w :: ws, us, vs, r, h => by
    simp only [VRs] at r
    obtain ⟨u, us', rfl, rw, rs⟩ := r
    simp only [List.map_cons] at h
    cases hf : flV w with
    | none => rw [hf] at h; simp [allO] at h
    | some v =>
      rw [hf] at h
      simp only [allO] at h
      cases ha : allO (ws.map flV) with
      | none => rw [ha] at h; cases h
      | some r' =>
        rw [ha] at h; cases h
        obtain ⟨e1, f1⟩ := flV_of rw hf
        obtain ⟨e2, f2⟩ := flVs_of rs ha
        exact ⟨by rw [e1, e2], by simp [f1, f2]⟩
def oneSign (x : Str) : Option Nat := if x.cps.size = 1 then x.cps[0]? else none
theorem oneSign_of {x : Str} {c : Nat} (h : oneSign x = some c) : x = ⟨#[c]⟩ := by
  unfold oneSign at h
  split at h
  · rename_i hs
    obtain ⟨cps⟩ := x
    obtain ⟨l⟩ := cps
    match l, hs, h with
    | [d], _, h => simp at h; subst h; rfl
  · cases h
def inB (a b : W) (st : Store) : Option Bool := match b with
  | .str z => match a with
    | .str x => (oneSign x).map fun c => decide (c ∈ z.cps.toList)
    | _ => none
  | b => match seqW st b with
    | some ws => match flV a, allO (ws.map flV) with
      | some v, some vs => some (inV v vs)
      | _, _ => none
    | none => none
def inW (neg : Bool) (a b : W) (st : Store) : Res W := match inB a b st with
  | some k => .ok (.bl (if neg then !k else k)) st
  | none => .stuck
def rInS (neg : Bool) : R2 := fun x y H Q => ∃ (c : Nat) (z : Str), x = .str ⟨#[c]⟩ ∧ y = .str z ∧ Q (.bl (if neg then !decide (c ∈ z.cps.toList) else decide (c ∈ z.cps.toList))) H
theorem in_ok (neg : Bool) : OpOk X (fun x y H Q => rInS neg x y H Q ∨ rIn X.K neg x y H Q) (inW neg) := fun Wx ρ H st σ a b x y Q s ra rb p => by
  unfold inW at p
  cases hk : inB a b st with
  | none => rw [hk] at p; exact p.elim
  | some k =>
    rw [hk] at p
    have q := post_bl s p
    have seqc : (∃ ws v vs, seqW st b = some ws ∧ flV a = some v ∧ allO (ws.map flV) = some vs ∧ k = inV v vs) → rIn X.K neg x y H Q := fun ⟨ws, v, vs, hs, hv, hvs, e⟩ => by
      subst e
      obtain ⟨q1, us, rfl, hq, rs⟩ := seqW_of s rb hs
      obtain ⟨e1, f1⟩ := flV_of ra hv
      obtain ⟨e2, f2⟩ := flVs_of rs hvs
      refine ⟨q1, us, rfl, hq, f1, f2, ?_⟩
      rw [e1, e2]; exact q
    unfold inB at hk
    split at hk
    · rename_i z
      split at hk
      · rename_i x1
        cases ho : oneSign x1 with
        | none => rw [ho] at hk; cases hk
        | some c =>
          rw [ho] at hk
          cases hk
          exact .inl ⟨c, z, by rw [str_of ra, oneSign_of ho], str_of rb, q⟩
      · cases hk
    · split at hk
      · rename_i ws hs
        split at hk
        · rename_i v vs hv hvs
          cases hk
          exact .inr (seqc ⟨ws, v, vs, hs, hv, hvs, rfl⟩)
        · cases hk
      · cases hk
theorem opr_in : OpR X (compareOp .In) (fun x y H Q => rInS false x y H Q ∨ rIn X.K false x y H Q) := OpR.or op_in_sign op_in_seq
theorem opr_notIn : OpR X (compareOp .NotIn) (fun x y H Q => rInS true x y H Q ∨ rIn X.K true x y H Q) := OpR.or op_notIn_sign op_notIn_seq
theorem ie_in {a b : Expr} {ma mb : D W} (ha : IE X ex Wx a ma) (hb : IE X ex Wx b mb) (hm : behindInMarks .In b = false := by with_unfolding_all rfl) : IE X ex Wx (.Compare a [.In] [b] pos) (dOp (inW false) ma mb) := ie_cmp opr_in (in_ok false) ha hb hm
theorem ie_notIn {a b : Expr} {ma mb : D W} (ha : IE X ex Wx a ma) (hb : IE X ex Wx b mb) (hm : behindInMarks .NotIn b = false := by with_unfolding_all rfl) : IE X ex Wx (.Compare a [.NotIn] [b] pos) (dOp (inW true) ma mb) := ie_cmp opr_notIn (in_ok true) ha hb hm
theorem it_in {a b : Expr} {ma mb : D W} (ha : IE X ex Wx a ma) (hb : IE X ex Wx b mb) (hm : behindInMarks .In b = false := by with_unfolding_all rfl) : IT X ex Wx (.Compare a [.In] [b] pos) (dBool (dOp (inW false) ma mb)) := it_cmp opr_in (in_ok false) ha hb hm
theorem it_notIn {a b : Expr} {ma mb : D W} (ha : IE X ex Wx a ma) (hb : IE X ex Wx b mb) (hm : behindInMarks .NotIn b = false := by with_unfolding_all rfl) : IT X ex Wx (.Compare a [.NotIn] [b] pos) (dBool (dOp (inW true) ma mb)) := it_cmp opr_notIn (in_ok true) ha hb hm
/-! ### a[i], a[i:j] -/
def ixW (a b : W) (st : Store) : Res W := match b with
  | .int i => match a with
    | .str z => if z.length ≤ sizeLine then match atI z.cps.toList i with
        | some c => .ok (.str ⟨#[c]⟩) st
        | none => .stuck
      else .stuck
    | a => match seqW st a with
      | some ws => match atI ws i with
        | some w => .ok w st
        | none => .stuck
      | none => .stuck
  | _ => .stuck
theorem VRs.at {K : PySem.W.Frag} {ρ : List Addr} {H : Hp} {ws : List W} {us : List V} {i : Int} {w : W} (r : VRs K ρ H ws us) (h : atI ws i = some w) : ∃ v, atI us i = some v ∧ VR K ρ H w v := by
  unfold atI at h ⊢
  rw [← VRs.length r]
  cases hj : ixN ws.length i with
  | none => rw [hj] at h; cases h
  | some j =>
    rw [hj] at h
    obtain ⟨v, h1, h2⟩ := r.get (i := j) h
    exact ⟨v, h1, h2⟩
theorem ix_ok : OpOk X (rIx X.K) ixW := fun Wx ρ H st σ a b x y Q s ra rb p => by
  unfold ixW at p
  split at p
  · rw [int_of rb]
    split at p
    · rename_i z
      split at p
      · rename_i hz
        split at p
        · rename_i c hc
          exact .inr (.inr ⟨z, _, c, str_of ra, rfl, hz, hc, post_str s p⟩)
        · exact p.elim
      · exact p.elim
    · split at p
      · rename_i ws hs
        split at p
        · rename_i w hw
          obtain ⟨q, us, rfl, hq, rs⟩ := seqW_of s ra hs
          obtain ⟨v, h1, h2⟩ := rs.at hw
          have := p.ok_ s h2
          rcases hq with hq | hq
          · exact .inl ⟨q, us, _, v, rfl, rfl, hq, h1, this⟩
          · exact .inr (.inl ⟨q, us, _, v, rfl, rfl, hq, h1, this⟩)
        · exact p.elim
      · exact p.elim
  · exact p.elim
theorem ie_ix {a b : Expr} {ma mb : D W} (ha : IE X ex Wx a ma) (hb : IE X ex Wx b mb) (hs : PlainIx b := by intro _ _; rfl) : IE X ex Wx (.Subscript a b pos) (dOp ixW ma mb) :=
  PE.of (pe_ix ix_seq ha hb hs) fun σ H Q ⟨ρ, env, st, s, e, p⟩ => RG.bind s e p fun ρ1 H1 st1 a x g1 s1 e1 ra p1 => RG.bind s1 e1 p1 fun ρ2 H2 st2 b y g2 s2 e2 rb p2 =>
    ix_ok Wx ρ2 H2 st2 σ a b x y Q s2 (VR.grow s1.apart g2 a x ra) rb p2
def cutW (ws : List W) (lo hi : Option Int) : List W := (ws.drop (HT.sIx ws.length 0 lo)).take (HT.sIx ws.length ws.length hi - HT.sIx ws.length 0 lo)
def slW (a : W) (lo hi : Option Int) (st : Store) : Res W := match a with
  | .str z => if z.length ≤ sizeLine then .ok (.str (cutS z lo hi)) st else .stuck
  | .tup ws => .ok (.tup (cutW ws lo hi)) st
  | a => match lstW st a with
    | some ws => .ok (.loc st.length) (st ++ [.lst (cutW ws lo hi)])
    | none => .stuck
def dNoPart : D (Option Int) := fun _ st => .ok none st
def dPart (m : D W) : D (Option Int) := fun env st => (m env st).bind fun a st1 => match a with
  | .int i => .ok (some i) st1
  | _ => .stuck
def dSl (m : D W) (lo hi : D (Option Int)) : D W := fun env st => (m env st).bind fun a st1 => (lo env st1).bind fun l st2 => (hi env st2).bind fun h st3 => slW a l h st3
abbrev IO (X : Cx) (ex : Option Exn) (Wx : WX) (e : Option Expr) (m : D (Option Int)) : Prop := PO X e (RG X ex Wx relE m)
theorem PO.of {e : Option Expr} {t t' : TO} (h : PO X e t) (w : ∀ σ H Q, t' σ H Q → t σ H Q) : PO X e t' := ⟨fun pins s σ H Q I q => h.run pins s σ H Q I (w _ _ _ q)⟩
theorem io_none : IO X ex Wx none dNoPart := PO.of po_none fun σ H Q ⟨ρ, env, st, s, e, p⟩ => Post.ok_ p s rfl
theorem io_some {e : Expr} {m : D W} (he : IE X ex Wx e m) : IO X ex Wx (some e) (dPart m) := PO.of (po_some he) fun σ H Q ⟨ρ, env, st, s, e, p⟩ => RG.bind s e p fun ρ1 H1 st1 a x g1 s1 e1 ra p1 => by
  split at p1
  · exact ⟨_, int_of ra, p1.ok_ s1 rfl⟩
  · exact p1.elim
theorem cutV_whole {us : List V} {lo hi : Option Int} (h : HT.sIx us.length 0 lo = 0 ∧ HT.sIx us.length us.length hi = us.length) : cutV us lo hi = us := by
  unfold cutV
  rw [h.1, h.2]; simp
theorem VRs.cut {K : PySem.W.Frag} {ρ : List Addr} {H : Hp} {ws : List W} {us : List V} (r : VRs K ρ H ws us) (lo hi : Option Int) : VRs K ρ H (cutW ws lo hi) (cutV us lo hi) := by
  unfold cutW cutV
  rw [← VRs.length r]
  exact (r.drop _).take _
theorem sl_ok {Wx : WX} {ρ : List Addr} {H : Hp} {st : Store} {σ : L2.St} {a : W} {x : V} {lo hi : Option Int} {Q : VK} (s : StR X.K ρ H st) (ra : VR X.K ρ H a x) (p : Post X.K X.mg Wx (relV X.K) ρ H σ (slW a lo hi st) Q) :
    rSlA X.K x lo hi H Q ∨ (rSlL X.K x lo hi H Q ∨ rSlS x lo hi H Q) := by
  unfold slW at p
  split at p
  · split at p
    · rename_i hz
      exact .inr (.inr ⟨_, str_of ra, hz, post_str s p⟩)
    · exact p.elim
  · obtain ⟨q, us, rfl, hq, rs⟩ := tup_of ra
    refine .inl ⟨q, us, rfl, hq.sq, fun hw => ?_, fun _ => post_tup s (rs.cut lo hi) p⟩
    refine p.ok_ s ?_
    have rc := rs.cut lo hi
    rw [cutV_whole hw] at rc
    simp only [relV, VR]
    exact ⟨q, us, rfl, hq, rc⟩
  · split at p
    · rename_i ws hs
      obtain ⟨q, us, rfl, hq, rs⟩ := lstW_of s ra hs
      exact .inr (.inl ⟨q, us, rfl, hq, post_lst s (rs.cut lo hi) p⟩)
    · exact p.elim
theorem ie_slice {e : Expr} {lo hi : Option Expr} {m : D W} {ml mh : D (Option Int)} {p2 : Pos} (he : IE X ex Wx e m) (hl : IO X ex Wx lo ml) (hh : IO X ex Wx hi mh) : IE X ex Wx (.Subscript e (.Slice lo hi none p2) pos) (dSl m ml mh) :=
  PE.of (pe_slice (SlR.or sl_tupA (SlR.or sl_list sl_str)) he hl hh) fun σ H Q ⟨ρ, env, st, s, e, p⟩ => RG.bind s e p fun ρ1 H1 st1 a x g1 s1 e1 ra p1 => RG.bind (relA := relE) s1 e1 p1 fun ρ2 H2 st2 l l' g2 s2 e2 rl p2 =>
    RG.bind (relA := relE) s2 e2 p2 fun ρ3 H3 st3 h h' g3 s3 e3 rh p3 => by
      have rl' : l = l' := rl
      have rh' : h = h' := rh
      subst rl'; subst rh'
      exact sl_ok s3 (VR.grow s2.apart g3 a x (VR.grow s1.apart g2 a x ra)) p3
end
end
end MP
namespace MP
open PySem PySem.Spec PyProof.Rows L2
open Classical
noncomputable section
section
variable {X : Cx} {ex : Option Exn} {Wx : WX} {pos p : Pos} {k : Nat} {f : Addr} {fd : FuncData} {ps : List Str} {n : Nat} {den : List W → Store → Res W} {x : Str} {e : Expr} {es : List Expr}
theorem vrs1 {K : PySem.W.Frag} {ρ : List Addr} {H : Hp} {a : W} {vs : List V} (r : VRs K ρ H [a] vs) : ∃ x, vs = [x] ∧ VR K ρ H a x := by
  simp only [VRs] at r
  obtain ⟨u, _, rfl, r, rfl⟩ := r
  exact ⟨u, rfl, r⟩
theorem vrs2 {K : PySem.W.Frag} {ρ : List Addr} {H : Hp} {a b : W} {vs : List V} (r : VRs K ρ H [a, b] vs) : ∃ x y, vs = [x, y] ∧ VR K ρ H a x ∧ VR K ρ H b y := by
  simp only [VRs] at r
  obtain ⟨u, _, rfl, r, v, _, rfl, r2, rfl⟩ := r
  exact ⟨u, v, rfl, r, r2⟩
/-! ### len, int, abs, max, min, all, any, sum, list, tuple, divmod -/
def lenW (l : List W) (st : Store) : Res W := match l with
  | [.str z] => if z.length ≤ sizeLine then .ok (.int z.length) st else .stuck
  | [a] => match seqW st a with
    | some ws => .ok (.int ws.length) st
    | none => .stuck
  | _ => .stuck
theorem len_ok : CallOk X (fun xs H Q => ∃ x n, xs = [x] ∧ LenV X.K x H n ∧ Q (.int n) H) lenW := fun Wx ρ H st σ l vs Q s r p => by
  unfold lenW at p
  split at p
  · rename_i z
    obtain ⟨x, rfl, ra⟩ := vrs1 r
    split at p
    · rename_i hz
      rw [str_of ra]
      exact ⟨_, _, rfl, ⟨hz, rfl⟩, post_int s p⟩
    · exact p.elim
  · rename_i a _
    obtain ⟨x, rfl, ra⟩ := vrs1 r
    split at p
    · rename_i ws hs
      obtain ⟨q, us, rfl, hq, rs⟩ := seqW_of s ra hs
      refine ⟨_, ws.length, rfl, ?_, post_int s p⟩
      rcases hq with hq | hq
      · exact .inl ⟨us, hq, VRs.length rs⟩
      · exact .inr ⟨us, hq, VRs.length rs⟩
    · exact p.elim
  · exact p.elim
theorem ie_len {m : D (List W)} (hg : Gl X "len") (hm : X.mg "len" = none) (ha : IA X ex Wx (e :: es) m) (he : starEach (e :: es) X.env = (false, eval e X.env) :: starEach es X.env := by rfl) (hpl : (backTo pos (starEach es X.env)).any (·.1) = false := by rfl) :
    IE X ex Wx (.Call (.Name "len" p) (e :: es) [] pos) (dApp lenW m) := ie_callB call_len len_ok hg hm PySem.boot_len ha (by decide) (by decide) he hpl
def intOfW (l : List W) (st : Store) : Res W := match l with
  | [.int i] => .ok (.int i) st
  | [.bl b] => .ok (.int (if b then 1 else 0)) st
  | _ => .stuck
theorem intOf_ok : CallOk X (fun xs H Q => (∃ i, xs = [.int i] ∧ Q (.int i) H) ∨ ∃ k, xs = [.bl k] ∧ Q (.int (if k then 1 else 0)) H) intOfW := fun Wx ρ H st σ l vs Q s r p => by
  unfold intOfW at p
  split at p
  · obtain ⟨x, rfl, ra⟩ := vrs1 r; rw [int_of ra]; exact .inl ⟨_, rfl, post_int s p⟩
  · obtain ⟨x, rfl, ra⟩ := vrs1 r; rw [bl_of ra]; exact .inr ⟨_, rfl, post_int s p⟩
  · exact p.elim
theorem ie_intOf {m : D (List W)} (hg : Gl X "int") (hm : X.mg "int" = none) (ha : IA X ex Wx (e :: es) m) (he : starEach (e :: es) X.env = (false, eval e X.env) :: starEach es X.env := by rfl) (hpl : (backTo pos (starEach es X.env)).any (·.1) = false := by rfl) :
    IE X ex Wx (.Call (.Name "int" p) (e :: es) [] pos) (dApp intOfW m) := ie_callTy call_int1 intOf_ok hg hm (by decide +kernel) ha (by decide) (by decide) he hpl
def absW (l : List W) (st : Store) : Res W := match l with
  | [.int i] => .ok (.int (if i < 0 then -i else i)) st
  | _ => .stuck
theorem abs_ok : CallOk X (fun xs H Q => ∃ i, xs = [.int i] ∧ Q (.int (if i < 0 then -i else i)) H) absW := fun Wx ρ H st σ l vs Q s r p => by
  unfold absW at p
  split at p
  · obtain ⟨x, rfl, ra⟩ := vrs1 r; rw [int_of ra]; exact ⟨_, rfl, post_int s p⟩
  · exact p.elim
theorem ie_abs {m : D (List W)} (hg : Gl X "abs") (hm : X.mg "abs" = none) (ha : IA X ex Wx (e :: es) m) (he : starEach (e :: es) X.env = (false, eval e X.env) :: starEach es X.env := by rfl) (hpl : (backTo pos (starEach es X.env)).any (·.1) = false := by rfl) :
    IE X ex Wx (.Call (.Name "abs" p) (e :: es) [] pos) (dApp absW m) := ie_callB call_abs abs_ok hg hm (by decide +kernel) ha (by decide) (by decide) he hpl
def maxW (l : List W) (st : Store) : Res W := match l with
  | [.int i, .int j] => .ok (.int (if j > i then j else i)) st
  | _ => .stuck
def minW (l : List W) (st : Store) : Res W := match l with
  | [.int i, .int j] => .ok (.int (if j < i then j else i)) st
  | _ => .stuck
theorem max_ok : CallOk X (fun xs H Q => ∃ i j, xs = [.int i, .int j] ∧ Q (.int (if j > i then j else i)) H) maxW := fun Wx ρ H st σ l vs Q s r p => by
  unfold maxW at p
  split at p
  · obtain ⟨x, y, rfl, ra, rb⟩ := vrs2 r; rw [int_of ra, int_of rb]; exact ⟨_, _, rfl, post_int s p⟩
  · exact p.elim
theorem min_ok : CallOk X (fun xs H Q => ∃ i j, xs = [.int i, .int j] ∧ Q (.int (if j < i then j else i)) H) minW := fun Wx ρ H st σ l vs Q s r p => by
  unfold minW at p
  split at p
  · obtain ⟨x, y, rfl, ra, rb⟩ := vrs2 r; rw [int_of ra, int_of rb]; exact ⟨_, _, rfl, post_int s p⟩
  · exact p.elim
theorem ie_max {m : D (List W)} (hc : X.calm = true) (hg : Gl X "max") (hm : X.mg "max" = none) (ha : IA X ex Wx (e :: es) m) (he : starEach (e :: es) X.env = (false, eval e X.env) :: starEach es X.env := by rfl) (hpl : (backTo pos (starEach es X.env)).any (·.1) = false := by rfl) :
    IE X ex Wx (.Call (.Name "max" p) (e :: es) [] pos) (dApp maxW m) := ie_callB (call_max2 hc) max_ok hg hm (by decide +kernel) ha (by decide) (by decide) he hpl
theorem ie_min {m : D (List W)} (hc : X.calm = true) (hg : Gl X "min") (hm : X.mg "min" = none) (ha : IA X ex Wx (e :: es) m) (he : starEach (e :: es) X.env = (false, eval e X.env) :: starEach es X.env := by rfl) (hpl : (backTo pos (starEach es X.env)).any (·.1) = false := by rfl) :
    IE X ex Wx (.Call (.Name "min" p) (e :: es) [] pos) (dApp minW m) := ie_callB (call_min2 hc) min_ok hg hm (by decide +kernel) ha (by decide) (by decide) he hpl
def blOf : W → Option Bool
  | .bl b => some b
  | _ => none
def inOf : W → Option Int
  | .int i => some i
  | _ => none
def stOf : W → Option Str
  | .str i => some i
  | _ => none
theorem VRs.maps {K : PySem.W.Frag} {ρ : List Addr} {H : Hp} {α : Type} {g : W → Option α} {c : α → V} (hg : ∀ w v a, VR K ρ H w v → g w = some a → v = c a) : ∀ {ws : List W} {us : List V} {l : List α}, VRs K ρ H ws us → allO (ws.map g) = some l → us = l.map c
  | [], us, l, r, h => by
    simp only [VRs] at r
    simp only [List.map_nil, allO, Option.some.injEq] at h
    subst r; subst h; rfl
  | w :: ws, us, l, r, h => by
    simp only [VRs] at r
    obtain ⟨u, us', rfl, rw, rs⟩ := r
    simp only [List.map_cons] at h
    cases hf : g w with
    | none => rw [hf] at h; simp [allO] at h
    | some a =>
      rw [hf] at h
      simp only [allO] at h
      cases ha : allO (ws.map g) with
      | none => rw [ha] at h; cases h
      | some r' =>
        rw [ha] at h; cases h
        rw [hg w u a rw hf, VRs.maps hg rs ha]; rfl
theorem blOf_of {ρ : List Addr} {H : Hp} (w : W) (v : V) (b : Bool) (r : VR X.K ρ H w v) (h : blOf w = some b) : v = .bl b := by
  cases w with
  | bl c => cases h; exact bl_of r
  | _ => cases h
theorem inOf_of {ρ : List Addr} {H : Hp} (w : W) (v : V) (b : Int) (r : VR X.K ρ H w v) (h : inOf w = some b) : v = .int b := by
  cases w with
  | int c => cases h; exact int_of r
  | _ => cases h
theorem stOf_of {ρ : List Addr} {H : Hp} (w : W) (v : V) (b : Str) (r : VR X.K ρ H w v) (h : stOf w = some b) : v = .str b := by
  cases w with
  | str c => cases h; exact str_of r
  | _ => cases h
def bls (st : Store) (a : W) : Option (List Bool) := (lstW st a).bind fun ws => allO (ws.map blOf)
def nums (st : Store) (a : W) : Option (List Int) := (lstW st a).bind fun ws => allO (ws.map inOf)
def allW (l : List W) (st : Store) : Res W := match l with
  | [a] => match bls st a with
    | some bs => .ok (.bl (bs.all id)) st
    | none => .stuck
  | _ => .stuck
def anyW (l : List W) (st : Store) : Res W := match l with
  | [a] => match bls st a with
    | some bs => .ok (.bl (bs.any id)) st
    | none => .stuck
  | _ => .stuck
def sumW (l : List W) (st : Store) : Res W := match l with
  | [a] => match nums st a with
    | some bs => .ok (.int bs.sum) st
    | none => .stuck
  | _ => .stuck
theorem bls_of {ρ : List Addr} {H : Hp} {st : Store} {a : W} {x : V} {bs : List Bool} (s : StR X.K ρ H st) (r : VR X.K ρ H a x) (h : bls st a = some bs) : ∃ q, x = .ref q ∧ SqL X.K H q (bs.map V.bl) := by
  unfold bls at h
  cases hl : lstW st a with
  | none => rw [hl] at h; cases h
  | some ws =>
    rw [hl] at h
    obtain ⟨q, us, rfl, hq, rs⟩ := lstW_of s r hl
    exact ⟨q, rfl, by rw [← VRs.maps blOf_of rs (show allO (ws.map blOf) = some bs from h)]; exact hq⟩
theorem nums_of {ρ : List Addr} {H : Hp} {st : Store} {a : W} {x : V} {bs : List Int} (s : StR X.K ρ H st) (r : VR X.K ρ H a x) (h : nums st a = some bs) : ∃ q, x = .ref q ∧ SqL X.K H q (bs.map V.int) := by
  unfold nums at h
  cases hl : lstW st a with
  | none => rw [hl] at h; cases h
  | some ws =>
    rw [hl] at h
    obtain ⟨q, us, rfl, hq, rs⟩ := lstW_of s r hl
    exact ⟨q, rfl, by rw [← VRs.maps inOf_of rs (show allO (ws.map inOf) = some bs from h)]; exact hq⟩
theorem all_ok : CallOk X (rAll X.K) allW := fun Wx ρ H st σ l vs Q s r q => by
  unfold allW at q
  split at q
  · obtain ⟨x, rfl, ra⟩ := vrs1 r
    split at q
    · rename_i bs hb
      obtain ⟨a, rfl, h⟩ := bls_of s ra hb
      exact ⟨a, bs, rfl, h, post_bl s q⟩
    · exact q.elim
  · exact q.elim
theorem any_ok : CallOk X (rAny X.K) anyW := fun Wx ρ H st σ l vs Q s r q => by
  unfold anyW at q
  split at q
  · obtain ⟨x, rfl, ra⟩ := vrs1 r
    split at q
    · rename_i bs hb
      obtain ⟨a, rfl, h⟩ := bls_of s ra hb
      exact ⟨a, bs, rfl, h, post_bl s q⟩
    · exact q.elim
  · exact q.elim
theorem sum_ok : CallOk X (rSum X.K) sumW := fun Wx ρ H st σ l vs Q s r q => by
  unfold sumW at q
  split at q
  · obtain ⟨x, rfl, ra⟩ := vrs1 r
    split at q
    · rename_i bs hb
      obtain ⟨a, rfl, h⟩ := nums_of s ra hb
      exact ⟨a, bs, rfl, h, post_int s q⟩
    · exact q.elim
  · exact q.elim
theorem ie_all {m : D (List W)} (hc : X.calm = true) (hg : Gl X "all") (hm : X.mg "all" = none) (ha : IA X ex Wx (e :: es) m) (he : starEach (e :: es) X.env = (false, eval e X.env) :: starEach es X.env := by rfl) (hpl : (backTo pos (starEach es X.env)).any (·.1) = false := by rfl) :
    IE X ex Wx (.Call (.Name "all" p) (e :: es) [] pos) (dApp allW m) := ie_callB (cr_all hc) all_ok hg hm (by decide +kernel) ha (by decide) (by decide) he hpl
theorem ie_any {m : D (List W)} (hc : X.calm = true) (hg : Gl X "any") (hm : X.mg "any" = none) (ha : IA X ex Wx (e :: es) m) (he : starEach (e :: es) X.env = (false, eval e X.env) :: starEach es X.env := by rfl) (hpl : (backTo pos (starEach es X.env)).any (·.1) = false := by rfl) :
    IE X ex Wx (.Call (.Name "any" p) (e :: es) [] pos) (dApp anyW m) := ie_callB (cr_any hc) any_ok hg hm (by decide +kernel) ha (by decide) (by decide) he hpl
theorem ie_sum {m : D (List W)} (hc : X.calm = true) (hg : Gl X "sum") (hm : X.mg "sum" = none) (ha : IA X ex Wx (e :: es) m) (he : starEach (e :: es) X.env = (false, eval e X.env) :: starEach es X.env := by rfl) (hpl : (backTo pos (starEach es X.env)).any (·.1) = false := by rfl) :
    IE X ex Wx (.Call (.Name "sum" p) (e :: es) [] pos) (dApp sumW m) := ie_callB (cr_sum hc) sum_ok hg hm (by decide +kernel) ha (by decide) (by decide) he hpl
def listW (l : List W) (st : Store) : Res W := match l with
  | [a] => match seqW st a with
    | some ws => .ok (.loc st.length) (st ++ [.lst ws])
    | none => .stuck
  | _ => .stuck
theorem list_ok : CallOk X (fun xs H Q => ∃ p ys, xs = [.ref p] ∧ (SqL X.K H p ys ∨ SqT X.K H p ys) ∧ ∀ l, H l = none → Q (.ref l) (upd H l (.lst ys))) listW := fun Wx ρ H st σ l vs Q s r q => by
  unfold listW at q
  split at q
  · obtain ⟨x, rfl, ra⟩ := vrs1 r
    split at q
    · rename_i ws hs
      obtain ⟨a, us, rfl, hq, rs⟩ := seqW_of s ra hs
      exact ⟨a, us, rfl, hq, post_lst s rs q⟩
    · exact q.elim
  · exact q.elim
theorem ie_list {m : D (List W)} (hg : Gl X "list") (hm : X.mg "list" = none) (ha : IA X ex Wx (e :: es) m) (he : starEach (e :: es) X.env = (false, eval e X.env) :: starEach es X.env := by rfl) (hpl : (backTo pos (starEach es X.env)).any (·.1) = false := by rfl) :
    IE X ex Wx (.Call (.Name "list" p) (e :: es) [] pos) (dApp listW m) := ie_callTy call_list_of list_ok hg hm (by decide +kernel) ha (by decide) (by decide) he hpl
def tupleW (l : List W) (st : Store) : Res W := match l with
  | [.tup ws] => .ok (.tup ws) st
  | [a] => match lstW st a with
    | some ws => .ok (.tup ws) st
    | none => .stuck
  | _ => .stuck
theorem tuple_ok : CallOk X (fun xs H Q => ∃ p ys, xs = [.ref p] ∧ ((SqL X.K H p ys ∧ ∀ l, H l = none → Q (.ref l) (upd H l (.tup ys))) ∨ (SqT X.K H p ys ∧ Q (.ref p) H))) tupleW := fun Wx ρ H st σ l vs Q s r q => by
  unfold tupleW at q
  split at q
  · obtain ⟨x, rfl, ra⟩ := vrs1 r
    obtain ⟨a, us, rfl, hq, rs⟩ := tup_of ra
    exact ⟨a, us, rfl, .inr ⟨hq.sq, q.ok_ s ra⟩⟩
  · obtain ⟨x, rfl, ra⟩ := vrs1 r
    split at q
    · rename_i ws hs
      obtain ⟨a, us, rfl, hq, rs⟩ := lstW_of s ra hs
      exact ⟨a, us, rfl, .inl ⟨hq, post_tup s rs q⟩⟩
    · exact q.elim
  · exact q.elim
theorem ie_tuple {m : D (List W)} (hg : Gl X "tuple") (hm : X.mg "tuple" = none) (ha : IA X ex Wx (e :: es) m) (he : starEach (e :: es) X.env = (false, eval e X.env) :: starEach es X.env := by rfl) (hpl : (backTo pos (starEach es X.env)).any (·.1) = false := by rfl) :
    IE X ex Wx (.Call (.Name "tuple" p) (e :: es) [] pos) (dApp tupleW m) := ie_callTy call_tuple_of tuple_ok hg hm (by decide +kernel) ha (by decide) (by decide) he hpl
def divmodW (l : List W) (st : Store) : Res W := match l with
  | [.int i, .int j] => if CDiv i j then .ok (.tup [.int (i / j), .int (i % j)]) st else .stuck
  | _ => .stuck
theorem divmod_ok : CallOk X (fun xs H Q => ∃ i j, xs = [.int i, .int j] ∧ CDiv i j ∧ ∀ p, H p = none → Q (.ref p) (upd H p (.tup [.int (i / j), .int (i % j)]))) divmodW := fun Wx ρ H st σ l vs Q s r q => by
  unfold divmodW at q
  split at q
  · obtain ⟨x, y, rfl, ra, rb⟩ := vrs2 r
    rw [int_of ra, int_of rb]
    split at q
    · rename_i hc
      exact ⟨_, _, rfl, hc, post_tup s (.cons' (by simp [VR]) (.one (by simp [VR]))) q⟩
    · exact q.elim
  · exact q.elim
theorem ie_divmod {m : D (List W)} (hg : Gl X "divmod") (hm : X.mg "divmod" = none) (ha : IA X ex Wx (e :: es) m) (he : starEach (e :: es) X.env = (false, eval e X.env) :: starEach es X.env := by rfl) (hpl : (backTo pos (starEach es X.env)).any (·.1) = false := by rfl) :
    IE X ex Wx (.Call (.Name "divmod" p) (e :: es) [] pos) (dApp divmodW m) := ie_callB call_divmod divmod_ok hg hm (by decide +kernel) ha (by decide) (by decide) he hpl
/-! ### isinstance -/
def tyN (st : Store) : W → Option String
  | .non => some "NoneType"
  | .bl _ => some "bool"
  | .int _ => some "int"
  | .str _ => some "str"
  | .tup _ => some "tuple"
  | .fro _ => some "list"
  | .loc n => match st[n]? with
    | some (.lst _) => some "list"
    | none => none
  | .gl _ => none
  | .rng _ _ => none
theorem tyN_of {ρ : List Addr} {H : Hp} {st : Store} {a : W} {x : V} {t : String} (s : StR X.K ρ H st) (r : VR X.K ρ H a x) (h : tyN st a = some t) : TyX X.K H x (.type t) := by
  cases a with
  | non => cases h; rw [non_of r]; exact .base .non
  | bl b => cases h; rw [bl_of r]; exact .base (.bl b)
  | int b => cases h; rw [int_of r]; exact .base (.int b)
  | str b => cases h; rw [str_of r]; exact .base (.str b)
  | gl u => cases h
  | rng i j => cases h
  | tup ws =>
    cases h
    obtain ⟨q, us, rfl, hq, rs⟩ := tup_of r
    rcases hq with hq | ⟨o, its, n, hk, hc, _⟩
    · exact .base (.tup hq)
    · exact .kTuple hk hc
  | fro ws =>
    cases h
    obtain ⟨q, us, rfl, hq, rs⟩ := fro_of r
    rcases hq with ⟨o, hq⟩ | ⟨o, its, n, hk, hc, _⟩
    · exact .base (.frz hq)
    · exact .kList hk hc
  | loc n =>
    unfold tyN at h
    simp only at h
    split at h
    · rename_i ws hk
      cases h
      obtain ⟨q, us, _, rfl, hu, rs⟩ := loc_lst s r hk
      exact .base (.lst hu)
    · cases h
def isiW (l : List W) (st : Store) : Res W := match l with
  | [a, .gl (.ty n)] => match tyN st a with
    | some t => match kitB t n with
      | some b => .ok (.bl b) st
      | none => .stuck
    | none => .stuck
  | _ => .stuck
theorem isi_ok : CallOk X (rIsi X.K) isiW := fun Wx ρ H st σ l vs Q s r q => by
  unfold isiW at q
  split at q
  · rename_i a0 n0
    obtain ⟨x, y, rfl, ra, rb⟩ := vrs2 r
    have rb' : y = .ty n0 := by simpa only [VR] using rb
    subst rb'
    split at q
    · rename_i t ht
      split at q
      · rename_i b hb
        exact ⟨x, _, .type t, .type _, b, rfl, .ty _, tyN_of s ra ht, kit_ty hb, post_bl s q⟩
      · exact q.elim
    · exact q.elim
  · exact q.elim
theorem ie_ty {T : String} {nm : Str} (hg : Gl X nm) (hm : X.mg nm = none) (hv : bootBuiltins nm = some (.type T)) (hn : nm ≠ "__name__" := by decide) (hd : (nm == ("__debug__" : Str)) = false := by decide) : IE X ex Wx (.Name nm pos) (dC (.gl (.ty T))) :=
  ie_c (pe_bltn (v := .ty T) hg hm hv rfl hn hd) fun _ _ => by simp [VR]
theorem ie_isi {m : D (List W)} (hg : Gl X "isinstance") (hm : X.mg "isinstance" = none) (ha : IA X ex Wx (e :: es) m) (he : starEach (e :: es) X.env = (false, eval e X.env) :: starEach es X.env := by rfl) (hpl : (backTo pos (starEach es X.env)).any (·.1) = false := by rfl) :
    IE X ex Wx (.Call (.Name "isinstance" p) (e :: es) [] pos) (dApp isiW m) := ie_callB call_isi isi_ok hg hm (by decide +kernel) ha (by decide) (by decide) he hpl
/-- isinstance(e, (A, B)), two built-in types -/
def isi2W (A B : String) (a : W) (st : Store) : Res W := match tyN st a with
  | some t => match kitB t A, kitB t B with
    | some x, some y => .ok (.bl (x || y)) st
    | _, _ => .stuck
  | none => .stuck
theorem ie_isi2 {m : D W} {A B : String} {na nb : Str} {q1 q2 q3 : Pos} {j : Nat} (hg : Gl X "isinstance") (hm : X.mg "isinstance" = none) (ha : IE X ex Wx e m) (hga : Gl X na) (hma : X.mg na = none) (hva : bootBuiltins na = some (.type A)) (hgb : Gl X nb) (hmb : X.mg nb = none) (hvb : bootBuiltins nb = some (.type B))
    (hna : na ≠ "__name__" := by decide) (hda : (na == ("__debug__" : Str)) = false := by decide) (hnb : nb ≠ "__name__" := by decide) (hdb : (nb == ("__debug__" : Str)) = false := by decide)
    (he : starEach [e, .Tuple [.Name na q1, .Name nb q2] j q3] X.env = (false, eval e X.env) :: starEach [.Tuple [.Name na q1, .Name nb q2] j q3] X.env := by rfl) (hpl : (backTo pos (starEach [.Tuple [.Name na q1, .Name nb q2] j q3] X.env)).any (·.1) = false := by rfl) :
    IE X ex Wx (.Call (.Name "isinstance" p) [e, .Tuple [.Name na q1, .Name nb q2] j q3] [] pos) (dUn (isi2W A B) m) := by
  refine PE.of (pe_callB call_isiT hg hm (by decide +kernel) (pa_cons (es := [.Tuple [.Name na q1, .Name nb q2] j q3]) ha (pa_cons (pe_tup (pa_cons (pe_bltn (v := .ty A) hga hma hva rfl hna hda) (pa_cons (pe_bltn (v := .ty B) hgb hmb hvb rfl hnb hdb) pa_nil))) pa_nil) he) (by decide) (by decide) he hpl) fun σ H Q ⟨ρ, env, st, s, e, q⟩ => RG.bind s e q fun ρ1 H1 st1 a x g1 s1 e1 ra q1 => ?_
  refine ⟨by show 2 ≤ sizeLine; decide, fun t nt => ?_⟩
  have q2 := Post.mono q1 (grow_imm (u := .tup [.ty A, .ty B]) nt)
  have s2 := s1.grow_imm (u := .tup [.ty A, .ty B]) nt
  have r2 := VR.grow s1.apart (grow_imm (u := .tup [.ty A, .ty B]) nt) a x ra
  unfold isi2W at q2
  split at q2
  · rename_i ty hty
    split at q2
    · rename_i x1 y1 hx hy
      refine ⟨x, t, [.ty A, .ty B], .type ty, [.type A, .type B], (x1 || y1), rfl, upd_same, .cons (.ty A) (.cons (.ty B) .nil), tyN_of s2 r2 hty, ?_, post_bl s2 q2⟩
      refine kitAny_cons (kit_ty hx) (fun h => ?_) (fun h => by rw [h]; rfl)
      refine kitAny_cons (kit_ty hy) (fun h2 => ?_) (fun h2 => by rw [h2]; simp)
      rw [h, h2]; exact kitAny_nil
    · exact q2.elim
  · exact q2.elim
/-! ### methods of texts, append -/
def tyS (a : W) (_ : Store) : Bool := match a with
  | .str _ => true
  | _ => false
theorem tyS_ok : TyOk X "str" tyS := fun ρ H st a x s r h => by
  cases a with
  | str z => rw [str_of r]; exact rfl
  | _ => cases h
def tyL (a : W) (st : Store) : Bool := match a with
  | .loc n => (st[n]?).isSome
  | _ => false
theorem tyL_ok : TyOk X "list" tyL := fun ρ H st a x s r h => by
  cases a with
  | loc n =>
    unfold tyL at h
    simp only at h
    cases hk : st[n]? with
    | none => rw [hk] at h; cases h
    | some o =>
      cases o with
      | lst ws =>
        obtain ⟨q, us, _, rfl, hu, rs⟩ := loc_lst s r hk
        exact .inl ⟨rfl, us, .of hu⟩
  | _ => cases h
def strsW (st : Store) (a : W) : Option (List Str) := (seqW st a).bind fun ws => allO (ws.map stOf)
def joinW (a : W) (l : List W) (st : Store) : Res W := match a, l with
  | .str z, [b] => match strsW st b with
    | some ys => if (ys.map (·.length)).sum + ys.length * z.length ≤ 16777216 then .ok (.str (Txt.join z ys)) st else .stuck
    | none => .stuck
  | _, _ => .stuck
theorem join_ok : MtOk X (fun x xs H Q => ∃ a p, ∃ ys : List Str, x = .str a ∧ xs = [.ref p] ∧ (SqL X.K H p (ys.map V.str) ∨ SqT X.K H p (ys.map V.str)) ∧ (ys.map (·.length)).sum + ys.length * a.length ≤ 16777216 ∧ Q (.str (Txt.join a ys)) H) joinW := fun Wx ρ H st σ a l x vs Q s ra rl q => by
  unfold joinW at q
  split at q
  · obtain ⟨y, rfl, rb⟩ := vrs1 rl
    split at q
    · rename_i ys hy
      split at q
      · rename_i hz
        unfold strsW at hy
        cases hs : seqW st _ with
        | none => rw [hs] at hy; cases hy
        | some ws =>
          rw [hs] at hy
          obtain ⟨a1, us, rfl, hq, rs⟩ := seqW_of s rb hs
          have e1 := VRs.maps stOf_of rs (show allO (ws.map stOf) = some ys from hy)
          subst e1
          exact ⟨_, a1, ys, str_of ra, rfl, hq, hz, post_str s q⟩
      · exact q.elim
    · exact q.elim
  · exact q.elim
def stripW (a : W) (l : List W) (st : Store) : Res W := match a, l with
  | .str z, [.str b] => if z.length ≤ sizeLine then .ok (.str (Txt.stripChars z b)) st else .stuck
  | _, _ => .stuck
theorem strip_ok : MtOk X (fun x xs H Q => ∃ a b, x = .str a ∧ xs = [.str b] ∧ a.length ≤ sizeLine ∧ Q (.str (Txt.stripChars a b)) H) stripW := fun Wx ρ H st σ a l x vs Q s ra rl q => by
  unfold stripW at q
  split at q
  · obtain ⟨y, rfl, rb⟩ := vrs1 rl
    rw [str_of ra, str_of rb]
    split at q
    · rename_i hz; exact ⟨_, _, rfl, rfl, hz, post_str s q⟩
    · exact q.elim
  · exact q.elim
def endswithW (a : W) (l : List W) (st : Store) : Res W := match a, l with
  | .str z, [.str b] => .ok (.bl (Txt.endswith z b)) st
  | _, _ => .stuck
theorem endswith_ok : MtOk X (fun x xs H Q => ∃ a b, x = .str a ∧ xs = [.str b] ∧ Q (.bl (Txt.endswith a b)) H) endswithW := fun Wx ρ H st σ a l x vs Q s ra rl q => by
  unfold endswithW at q
  split at q
  · obtain ⟨y, rfl, rb⟩ := vrs1 rl
    rw [str_of ra, str_of rb]
    exact ⟨_, _, rfl, rfl, post_bl s q⟩
  · exact q.elim
def splitW (a : W) (l : List W) (st : Store) : Res W := match a, l with
  | .str z, [.str b] => if (b.length == 0) = false ∧ z.length + 2 ≤ sizeLine then .ok (.loc st.length) (st ++ [.lst ((Txt.split z b).map W.str)]) else .stuck
  | _, _ => .stuck
theorem VRs.ofStrs {K : PySem.W.Frag} {ρ : List Addr} {H : Hp} : ∀ (l : List Str), VRs K ρ H (l.map W.str) (l.map V.str)
  | [] => by simp [VRs]
  | x :: l => .cons' (by simp [VR]) (VRs.ofStrs l)
theorem split_ok : MtOk X (fun x xs H Q => ∃ a b, x = .str a ∧ xs = [.str b] ∧ (b.length == 0) = false ∧ a.length + 2 ≤ sizeLine ∧ rNewStrs (Txt.split a b) H Q) splitW := fun Wx ρ H st σ a l x vs Q s ra rl q => by
  unfold splitW at q
  split at q
  · obtain ⟨y, rfl, rb⟩ := vrs1 rl
    rw [str_of ra, str_of rb]
    split at q
    · rename_i hz
      exact ⟨_, _, rfl, rfl, hz.1, hz.2, post_lst s (VRs.ofStrs _) q⟩
    · exact q.elim
  · exact q.elim
def appendW (a : W) (l : List W) (st : Store) : Res W := match a, l with
  | .loc n, [w] => match st[n]? with
    | some (.lst ws) => if ws.length < sizeLine then .ok .non (st.set n (.lst (ws ++ [w]))) else .stuck
    | none => .stuck
  | _, _ => .stuck
theorem append_ok : MtOk X rAppend appendW := fun Wx ρ H st σ a l x vs Q s ra rl q => by
  unfold appendW at q
  split at q
  · rename_i n w
    obtain ⟨y, rfl, rb⟩ := vrs1 rl
    split at q
    · rename_i ws hk
      split at q
      · rename_i hz
        obtain ⟨a1, us, hn, rfl, hu, rs⟩ := loc_lst s ra hk
        have hm : a1 ∈ ρ := List.mem_of_getElem? hn
        have g : Grow ρ H ρ (upd H a1 (.lst (us ++ [y]))) := grow_write hm
        refine ⟨a1, us, y, rfl, rfl, hu, by rw [← VRs.length rs]; exact hz, ?_⟩
        exact q ρ _ _ g (s.write hn ⟨_, upd_same, (VRs.grow s.apart g ws us rs).append (.one (VR.grow s.apart g w y rb))⟩) (by simp [VR])
      · exact q.elim
    · exact q.elim
  · exact q.elim
/-! ### o[i] = v -/
def setW (o i v : W) (st : Store) : Option Store := match o, i with
  | .loc n, .int k => match st[n]? with
    | some (.lst ws) => match ixN ws.length k with
      | some j => some (st.set n (.lst (ws.set j v)))
      | none => none
    | none => none
  | _, _ => none
def tSub (mo mi : D W) : DT := fun v env st => match mo env st with
  | .ok o st1 => match mi env st1 with
    | .ok i st2 => (setW o i v st2).map fun st3 => (env, st3)
    | _ => none
  | _ => none
theorem ig_sub {vl : List Nat} {o i : Expr} {mo mi : D W} (ho : IE X ex W0 o mo) (hi : IE X ex W0 i mi)
    (ha : ∀ v, assign (.Subscript o i pos) X.env v = (do
      let ov ← holding [v] (eval o X.env)
      let iv ← holding [v, ov] (eval i X.env)
      standAt pos
      holding [v, ov, iv] (setItem ov iv v)
      release [v, ov, iv] []) := by intro _; rfl) : IG X ex vl (.Subscript o i pos) (tSub mo mi) :=
  PG.of (pg_sub ho hi set_list ha) fun v σ H Q ⟨ρ, env, st, w, s, e, rw, env', st', q, pp⟩ => by
    unfold tSub at q
    refine ⟨ρ, env, st, s, e, ?_⟩
    generalize hmo : mo env st = ro at q
    cases ro with
    | stuck => cases q
    | err c w1 st1 => cases q
    | ok ov st1 =>
      intro ρ1 H1 x g1 s1 r1
      refine ⟨ρ1, env, st1, s1, e.grow s.apart g1, ?_⟩
      simp only at q
      generalize hmi : mi env st1 = ri at q
      cases ri with
      | stuck => cases q
      | err c w1 st1 => cases q
      | ok iv st2 =>
        intro ρ2 H2 y g2 s2 r2
        simp only at q
        have r1' := VR.grow s1.apart g2 ov x r1
        have rw' := VR.grow s1.apart g2 w v (VR.grow s.apart g1 w v rw)
        unfold setW at q
        split at q
        · rename_i n k
          split at q
          · rename_i ws hk
            split at q
            · rename_i j hj
              simp only [Option.map_some, Option.some.injEq, Prod.mk.injEq] at q
              obtain ⟨rfl, rfl⟩ := q
              obtain ⟨a1, us, hn, rfl, hu, rs⟩ := loc_lst s2 r1' hk
              rw [int_of r2]
              have hm : a1 ∈ ρ2 := List.mem_of_getElem? hn
              have g3 : Grow ρ2 H2 ρ2 (upd H2 a1 (.lst (us.set j v))) := grow_write hm
              refine ⟨a1, us, k, j, rfl, rfl, hu, by rw [← VRs.length rs]; exact hj, ?_⟩
              exact pp ρ2 _ σ (g1.trans (g2.trans g3)) (s2.write hn ⟨_, upd_same, (VRs.grow s2.apart g3 ws us rs).set (VR.grow s2.apart g3 w v rw') j⟩) (((e.grow s.apart g1).grow s1.apart g2).grow s2.apart g3) rfl
            · cases q
          · cases q
        · cases q
/-! ### calls with keywords alone -/
theorem pe_callKS {sp : Sp} {E : L2.St → XK} {CX : CXT} {kws : List Keyword} {tk : TA} {ks : List Str} (F : FnOk X.prog X.w X.K X.mg X.base CX k f fd ps sp) (hr : Room k X.A) (hg : Gl X x) (hm : X.mg x = some (.ref f)) (hk : PySem.W.keepIn X.K (.ref f) = true)
    (hb : ∀ (s : Shared) (ws : List Value), X.K.In s.heap → ws.length = ps.length → BindsTo s fd ⟨[], ks.zip ws⟩ (ps.zip ws)) (hx : ∀ σ, PassesAt CX X σ (E σ)) (hkw : PK X kws tk)
    (hall : (backToKw pos (keywordEach kws X.env)).all (·.1.isSome) = true := by rfl) (hks : (backToKw pos (keywordEach kws X.env)).filterMap (·.1) = ks := by rfl) (hdb : (x == ("__debug__" : Str)) = false := by decide)
    (hpl : ((backTo pos (starEach [] X.env)).any (·.1) || (backToKw pos (keywordEach kws X.env)).any (·.1.isNone)) = false := by rfl) :
    PE X (.Call (.Name x p) [] kws pos) (tCallS sp E tk) := by
  refine ⟨fun pins s σ H Q I h => ?_⟩
  refine wpAny_Call_Name_kw (ld_glob I hg hm ?_ hdb)
  refine PySem.W.callWith_KW0 (h₀ := X.base) I.ok.mod.kin hk hall (thn (hkw.run pos pins s σ H _ I h) fun ws s1 ⟨zs, H1, I1, rz, q⟩ => ⟨I1.kIn, ?_⟩) hpl
  rw [hks]
  have hl : ws.length = ps.length := by rw [← rz.length]; exact F.len _ _ _ _ q
  refine wpAny_call (codeAny_mono (F.run X.A X.stack s1 H1 ⟨[], ks.zip ws⟩ ws zs Q (E σ) hr I1.env0 (hb s1 ws I1.kIn hl) rz q) fun r s' hq => ?_)
  cases r with
  | error e => exact hx σ pins H1 s1 e s' I1 hq
  | ok fl =>
    cases fl with
    | ret u => exact I1.after hq
    | next => exact False.elim hq
    | brk => exact False.elim hq
    | cont => exact False.elim hq
abbrev IK (X : Cx) (ex : Option Exn) (Wx : WX) (kws : List Keyword) (m : D (List W)) : Prop := PK X kws (RG X ex Wx (relVs X.K) m)
theorem PK.of {kws : List Keyword} {t t' : TA} (h : PK X kws t) (w : ∀ σ H Q, t' σ H Q → t σ H Q) : PK X kws t' := ⟨fun pos pins s σ H Q I q => h.run pos pins s σ H Q I (w _ _ _ q)⟩
theorem ik_nil : IK X ex Wx [] dNil := PK.of pk_nil fun σ H Q ⟨ρ, env, st, s, e, p⟩ => p.ok_ s (by simp [VRs])
theorem ik_cons {nm : Option Str} {kpos : Pos} {kws : List Keyword} {m : D W} {r : D (List W)} (he : IE X ex Wx e m) (hr : IK X ex Wx kws r) : IK X ex Wx (⟨nm, e, kpos⟩ :: kws) (dCons m r) :=
  PK.of (pk_cons he hr) fun σ H Q ⟨ρ, env, st, s, e, p⟩ => RG.bind s e p fun ρ1 H1 st1 a x g1 s1 e1 ra p1 => RG.bind s1 e1 p1 fun ρ2 H2 st2 l xs g2 s2 e2 rb p2 =>
    p2.ok_ s2 (VRs.cons' (VR.grow s1.apart g2 a x ra) rb)
theorem ie_callK {m : D (List W)} {kws : List Keyword} {ks : List Str} (F : FnOk X.prog X.w X.K X.mg X.base (L2.CX X.prog X.w) k f fd ps (SpM X.K X.mg n den)) (hr : Room k X.A) (hg : Gl X x) (hm : X.mg x = some (.ref f)) (hk : PySem.W.keepIn X.K (.ref f) = true)
    (hb : ∀ (s : Shared) (ws : List Value), X.K.In s.heap → ws.length = ps.length → BindsTo s fd ⟨[], ks.zip ws⟩ (ps.zip ws)) (tk : Takes X Wx) (hkw : IK X ex Wx kws m)
    (hall : (backToKw pos (keywordEach kws X.env)).all (·.1.isSome) = true := by rfl) (hks : (backToKw pos (keywordEach kws X.env)).filterMap (·.1) = ks := by rfl) (hdb : (x == ("__debug__" : Str)) = false := by decide)
    (hpl : ((backTo pos (starEach [] X.env)).any (·.1) || (backToKw pos (keywordEach kws X.env)).any (·.1.isNone)) = false := by rfl) :
    IE X ex Wx (.Call (.Name x p) [] kws pos) (dCall n den m) :=
  PE.of (pe_callKS F hr hg hm hk hb (fun σ => passAt tk σ) hkw hall hks hdb hpl) fun σ H Q ⟨ρ, env, st, s, e, p⟩ => RG.bind s e p fun ρ1 H1 st1 l vs g s1 e1 r p1 => by
    split at p1
    · rename_i hl; exact sp_of s1 r hl p1
    · exact p1.elim
end
end
end MP
namespace MP
open PySem PySem.Spec PyProof.Rows L2
open Classical
noncomputable section
/-! ### the text's defs, as a generated text names them -/
structure DefF (K : PySem.W.Frag) (mg : Str → Option Value) (x qual : Str) (st : Stmt) (ps : List Str) where
  f : Addr
  fd : FuncData
  F : Fun K x qual st f fd
  m : mg x = some (.ref f)
  b : Binds K fd ps []
structure FnF (P : Program) (w : World) (K : PySem.W.Frag) (mg : Str → Option Value) (base : Heap) (x : Str) (ps : List Str) (k n : Nat) (den : List W → Store → Res W) where
  f : Addr
  fd : FuncData
  ok : FnOk P w K mg base (L2.CX P w) k f fd ps (SpM K mg n den)
  m : mg x = some (.ref f)
  kp : PySem.W.keepIn K (.ref f) = true
  b : Binds K fd ps []
/-- an error class of the text -/
structure ErF (P : Program) (w : World) (K : PySem.W.Frag) (mg : Str → Option Value) (base : Heap) (x : Str) where
  C : Addr
  f : Addr
  fd : FuncData
  T : ErrC K mg x C f
  ok : FnOk P w K mg base (L2.CX P w) 1 f fd ["self", "value"] (spExc K)
  b : Binds K fd ["self", "value"] []
theorem fn_stuck {P : Program} {w : World} {K : PySem.W.Frag} {mg : Str → Option Value} {base : Heap} {k n : Nat} {f : Addr} {fd : FuncData} {ps : List Str} : FnOk P w K mg base (L2.CX P w) k f fd ps (SpM K mg n fun _ _ => .stuck) :=
  ⟨fun vs H Q E ⟨_, _, _, _, _, _, z⟩ => z.elim, fun A outer s H args us vs Q E hr he hb hv ⟨_, _, _, _, _, _, z⟩ => z.elim⟩
section
variable {X : Cx} {ex : Option Exn} {Wx : WX} {pos p p' pos2 : Pos} {x : Str} {e : Expr} {es : List Expr} {ps : List Str} {k j n : Nat} {den : List W → Store → Res W}
theorem ie_int {i : Int} {q : Nat} : IE X ex Wx (.Constant (.int i) q pos) (dC (.int i)) := ie_c pe_int fun _ _ => by simp [VR]
theorem ie_str {i : Str} {q : Nat} : IE X ex Wx (.Constant (.str i) q pos) (dC (.str i)) := ie_c pe_str fun _ _ => by simp [VR]
theorem ie_bl {i : Bool} {q : Nat} : IE X ex Wx (.Constant (.bool i) q pos) (dC (.bl i)) := ie_c pe_bl fun _ _ => by simp [VR]
theorem ie_non {q : Nat} : IE X ex Wx (.Constant .none q pos) (dC .non) := ie_c pe_non fun _ _ => by simp [VR]
theorem ie_gint {i : Int} {t : Tok} (hm : X.mg x = some (.int i t)) (hg : Gl X x := by rfl) (hd : (x == ("__debug__" : Str)) = false := by decide) : IE X ex Wx (.Name x pos) (dC (.int i)) := ie_c (pe_glob (v := .int i) hg hm ⟨t, rfl⟩ hd) fun _ _ => by simp [VR]
theorem ie_gstr {i : Str} {t : Tok} (hm : X.mg x = some (.str i t)) (hg : Gl X x := by rfl) (hd : (x == ("__debug__" : Str)) = false := by decide) : IE X ex Wx (.Name x pos) (dC (.str i)) := ie_c (pe_glob (v := .str i) hg hm ⟨t, rfl⟩ hd) fun _ _ => by simp [VR]
theorem ie_callF {m : D (List W)} (G : FnF X.prog X.w X.K X.mg X.base x ps j n den) (hr : Room j X.A) (tk : Takes X Wx) (ha : IA X ex Wx (e :: es) m) (hg : Gl X x := by rfl) (hdb : (x == ("__debug__" : Str)) = false := by decide)
    (he : starEach (e :: es) X.env = (false, eval e X.env) :: starEach es X.env := by rfl) (hpl : (backTo pos (starEach es X.env)).any (·.1) = false := by rfl) : IE X ex Wx (.Call (.Name x p) (e :: es) [] pos) (dCall n den m) :=
  ie_call G.ok hr hg G.m G.kp G.b tk ha hdb he hpl
theorem ie_callF0 (G : FnF X.prog X.w X.K X.mg X.base x ps j n den) (hr : Room j X.A) (tk : Takes X Wx) (hg : Gl X x := by rfl) (hdb : (x == ("__debug__" : Str)) = false := by decide) : IE X ex Wx (.Call (.Name x p) [] [] pos) (dCall n den dNil) :=
  ie_call0 G.ok hr hg G.m G.kp G.b tk hdb
theorem ie_callFK {m : D (List W)} {kws : List Keyword} {ks : List Str} (G : FnF X.prog X.w X.K X.mg X.base x ps j n den) (hr : Room j X.A) (tk : Takes X Wx)
    (hb : ∀ (s : Shared) (ws : List Value), X.K.In s.heap → ws.length = ps.length → BindsTo s G.fd ⟨[], ks.zip ws⟩ (ps.zip ws)) (hkw : IK X ex Wx kws m) (hg : Gl X x := by rfl)
    (hall : (backToKw pos (keywordEach kws X.env)).all (·.1.isSome) = true := by rfl) (hks : (backToKw pos (keywordEach kws X.env)).filterMap (·.1) = ks := by rfl) (hdb : (x == ("__debug__" : Str)) = false := by decide)
    (hpl : ((backTo pos (starEach [] X.env)).any (·.1) || (backToKw pos (keywordEach kws X.env)).any (·.1.isNone)) = false := by rfl) : IE X ex Wx (.Call (.Name x p) [] kws pos) (dCall n den m) :=
  ie_callK G.ok hr hg G.m G.kp hb tk hkw hall hks hdb hpl
theorem is_raiseF {m : D (List W)} (G : ErF X.prog X.w X.K X.mg X.base x) (hr : Room 2 X.A) (tk : Takes X Wx) (ha : IA X ex Wx [e] m) (hc : X.calm = true := by rfl) (hg : Gl X x := by rfl) (hdb : (x == ("__debug__" : Str)) = false := by decide)
    (he : starEach [e] X.env = (false, eval e X.env) :: starEach [] X.env := by rfl) (hpl : (backTo pos (starEach [] X.env)).any (·.1) = false := by rfl) : IS X ex Wx (.Raise (some (.Call (.Name x p) [e] [] pos)) none pos2) (sRaise x m) :=
  is_raise hc tk G.T G.ok hr G.b hg ha hdb he hpl
/-! methods, by their names -/
theorem ie_join {o : Expr} {apos cpos : Pos} {mo : D W} {m : D (List W)} (ho : IE X ex Wx o mo) (ha : IA X ex Wx [e] m) (hbase : attributeBase o "join" X.env (eval o X.env) = eval o X.env := by rfl)
    (hfew : ((backTo cpos (starEach [e] X.env)).all (fun x => !x.1) && (backToKw cpos (keywordEach [] X.env)).all (fun x => x.1.isSome) && decide ([e].length + ([] : List Keyword).length + (if ([] : List Keyword).isEmpty then 0 else 1) < 30)) = true := by rfl)
    (hline : (apos.endLine == cpos.line) = true := by rfl) (hs : starEach [e] X.env = (false, eval e X.env) :: starEach [] X.env := by rfl) (hp : (backTo cpos (starEach [] X.env)).any (·.1) = false := by rfl) :
    IE X ex Wx (.Call (.Attribute o "join" apos) [e] [] cpos) (dBm tyS joinW mo m) := ie_bm PySem.F.plainAttrs_str PySem.F.slot_str_join PySem.F.type_str_join mt_join join_ok tyS_ok ho ha hbase hfew hline hs hp
theorem ie_strip {o : Expr} {apos cpos : Pos} {mo : D W} {m : D (List W)} (ho : IE X ex Wx o mo) (ha : IA X ex Wx [e] m) (hbase : attributeBase o "strip" X.env (eval o X.env) = eval o X.env := by rfl)
    (hfew : ((backTo cpos (starEach [e] X.env)).all (fun x => !x.1) && (backToKw cpos (keywordEach [] X.env)).all (fun x => x.1.isSome) && decide ([e].length + ([] : List Keyword).length + (if ([] : List Keyword).isEmpty then 0 else 1) < 30)) = true := by rfl)
    (hline : (apos.endLine == cpos.line) = true := by rfl) (hs : starEach [e] X.env = (false, eval e X.env) :: starEach [] X.env := by rfl) (hp : (backTo cpos (starEach [] X.env)).any (·.1) = false := by rfl) :
    IE X ex Wx (.Call (.Attribute o "strip" apos) [e] [] cpos) (dBm tyS stripW mo m) := ie_bm PySem.F.plainAttrs_str PySem.F.slot_str_strip PySem.F.type_str_strip mt_stripChars strip_ok tyS_ok ho ha hbase hfew hline hs hp
theorem ie_endswith {o : Expr} {apos cpos : Pos} {mo : D W} {m : D (List W)} (ho : IE X ex Wx o mo) (ha : IA X ex Wx [e] m) (hbase : attributeBase o "endswith" X.env (eval o X.env) = eval o X.env := by rfl)
    (hfew : ((backTo cpos (starEach [e] X.env)).all (fun x => !x.1) && (backToKw cpos (keywordEach [] X.env)).all (fun x => x.1.isSome) && decide ([e].length + ([] : List Keyword).length + (if ([] : List Keyword).isEmpty then 0 else 1) < 30)) = true := by rfl)
    (hline : (apos.endLine == cpos.line) = true := by rfl) (hs : starEach [e] X.env = (false, eval e X.env) :: starEach [] X.env := by rfl) (hp : (backTo cpos (starEach [] X.env)).any (·.1) = false := by rfl) :
    IE X ex Wx (.Call (.Attribute o "endswith" apos) [e] [] cpos) (dBm tyS endswithW mo m) := ie_bm PySem.F.plainAttrs_str PySem.F.slot_str_endswith PySem.F.type_str_endswith mt_endswith endswith_ok tyS_ok ho ha hbase hfew hline hs hp
theorem ie_split {o : Expr} {apos cpos : Pos} {mo : D W} {m : D (List W)} (ho : IE X ex Wx o mo) (ha : IA X ex Wx [e] m) (hbase : attributeBase o "split" X.env (eval o X.env) = eval o X.env := by rfl)
    (hfew : ((backTo cpos (starEach [e] X.env)).all (fun x => !x.1) && (backToKw cpos (keywordEach [] X.env)).all (fun x => x.1.isSome) && decide ([e].length + ([] : List Keyword).length + (if ([] : List Keyword).isEmpty then 0 else 1) < 30)) = true := by rfl)
    (hline : (apos.endLine == cpos.line) = true := by rfl) (hs : starEach [e] X.env = (false, eval e X.env) :: starEach [] X.env := by rfl) (hp : (backTo cpos (starEach [] X.env)).any (·.1) = false := by rfl) :
    IE X ex Wx (.Call (.Attribute o "split" apos) [e] [] cpos) (dBm tyS splitW mo m) := ie_bm PySem.F.plainAttrs_str PySem.F.slot_str_split PySem.F.type_str_split mt_split split_ok tyS_ok ho ha hbase hfew hline hs hp
theorem ie_append {o : Expr} {apos cpos : Pos} {mo : D W} {m : D (List W)} (ho : IE X ex Wx o mo) (ha : IA X ex Wx [e] m) (hbase : attributeBase o "append" X.env (eval o X.env) = eval o X.env := by rfl)
    (hfew : ((backTo cpos (starEach [e] X.env)).all (fun x => !x.1) && (backToKw cpos (keywordEach [] X.env)).all (fun x => x.1.isSome) && decide ([e].length + ([] : List Keyword).length + (if ([] : List Keyword).isEmpty then 0 else 1) < 30)) = true := by rfl)
    (hline : (apos.endLine == cpos.line) = true := by rfl) (hs : starEach [e] X.env = (false, eval e X.env) :: starEach [] X.env := by rfl) (hp : (backTo cpos (starEach [] X.env)).any (·.1) = false := by rfl) :
    IE X ex Wx (.Call (.Attribute o "append" apos) [e] [] cpos) (dBm tyL appendW mo m) := ie_bm PySem.F.plainAttrs_list PySem.F.slot_list_append PySem.F.type_list_append mt_append append_ok tyL_ok ho ha hbase hfew hline hs hp
/-! xs[::-1] of a list -/
def revW (a : W) (st : Store) : Res W := match lstW st a with
  | some ws => .ok (.loc st.length) (st ++ [.lst ws.reverse])
  | none => .stuck
theorem ie_rev {m : D W} {kk : Nat} {p1 p2 p3 : Pos} (he : IE X ex Wx e m) : IE X ex Wx (.Subscript e (.Slice none none (some (.UnaryOp .USub (.Constant (.int 1) kk p1) p2)) p3) pos) (dUn revW m) :=
  PE.of (pe_revL he) fun σ H Q ⟨ρ, env, st, s, e, q⟩ => RG.bind s e q fun ρ1 H1 st1 a x g1 s1 e1 ra q1 => by
    unfold revW at q1
    split at q1
    · rename_i ws hs
      obtain ⟨q2, us, rfl, hq, rs⟩ := lstW_of s1 ra hs
      exact ⟨q2, us, rfl, hq, post_lst s1 rs.reverse q1⟩
    · exact q1.elim
/-! isinstance of the error that a suite holds -/
/-- what is asked of an error's class for that -/
structure ExcI (K : PySem.W.Frag) (C : Addr) : Prop where
  hc : (PySem.W.clsIn K C).isSome = true
  ha : PySem.W.findIn K (.ref C) "__class__" = some (some (.builtin "object.__class__"))
  hn : PySem.W.specialIn K (.builtin "object.__class__") "__get__" = some (some (.builtin "getset_descriptor.__get__"))
  ht : PySem.W.takesIn K (.builtin "object.__class__") = some true
  hm : PySem.W.mroIn K C (.type "object") = some true
theorem call_isExc {X : Cx} {a C dd : Addr} {oe : Obj} {pn : List (Addr × Obj)} {cv : Value} {b : Bool} (T : ExcI X.K C) (xf : XfC X.K C) (hz : Zc (.ref C) (some dd) oe) (hf : ∃ vs, oe.data = .fields vs) (hk : PySem.W.kitOne X.K (.ref C) cv = some b) :
    CallR (X.suite a ((a, oe) :: pn)) (.builtin "isinstance") (fun xs H Q => ∃ (c : V) (o : List (Str × V)), xs = [.ref a, c] ∧ (∀ u, RelV c u → u = cv) ∧ H dd = some (.xd o) ∧ Q (.bl b) H) := by
  intro pins s σ H xs us Q I r h
  obtain ⟨c, o, rfl, hcv, hdd, q⟩ := h
  obtain ⟨u1, u2, rfl, rx, rt⟩ := vals2 r
  cases rx
  have ec := hcv _ rt
  subst ec
  obtain ⟨hget, _⟩ := I.pin (a, oe) (List.mem_append.mpr (.inl List.mem_cons_self))
  obtain ⟨vs, hv⟩ := hf
  obtain ⟨mA, ⟨od, es, ep, hod, _⟩, _⟩ := I.hok dd _ hdd
  have J : PySem.W.InstAt s.heap a oe C (some od) := by
    obtain ⟨oc, odd, oda, osl⟩ := oe
    obtain ⟨h1, h2⟩ := hz
    dsimp only at h1 h2 hv
    subst h1 h2 hv
    exact ⟨hget, rfl, rfl, hod⟩
  exact PySem.W.kia_one (PySem.W.kitx_exc T.hc xf.ga xf.gg xf.exC T.ha T.hn T.ht T.hm) I.kIn J hk (fun z => nomatch z) fun tk => ⟨.bl b, H, I.kept (t' := tk) fun _ _ z => z, rfl, q⟩
def dIsExc (l : List (Str × Bool)) (c : Str) : D W := fun _ st => match l.lookup c with
  | some b => .ok (.bl b) st
  | none => .stuck
theorem lookup_ok {cv : Value} : ∀ {l : List (Str × Bool)}, (∀ q ∈ l, ∃ C, X.mg q.1 = some (.ref C) ∧ ExcI X.K C ∧ PySem.W.kitOne X.K (.ref C) cv = some q.2) → ∀ {c : Str} {b : Bool} {C : Addr}, l.lookup c = some b → X.mg c = some (.ref C) → ExcI X.K C ∧ PySem.W.kitOne X.K (.ref C) cv = some b
  | [], _, c, b, C, h, _ => by simp at h
  | (x, v) :: l, hl, c, b, C, h, hC => by
    rw [List.lookup_cons] at h
    split at h
    · rename_i hc
      cases h
      have : c = x := by simpa using hc
      subst this
      obtain ⟨C', m, e⟩ := hl _ List.mem_cons_self
      have m' : X.mg c = some (.ref C') := m
      rw [hC] at m'; cases m'
      exact e
    · exact lookup_ok (fun q m => hl q (List.mem_cons_of_mem _ m)) h hC
theorem ie_isExc {l : List (Str × Bool)} {a C dd : Addr} {y : V} {w : W} {i : Nat} {oe : Obj} {pn : List (Addr × Obj)} {n cn cN : Str} {q1 q2 : Pos} {cv : Value} {v : V} {sub : Str → Option Bool} (hg : Gl X "isinstance") (hm : X.mg "isinstance" = none) (xf : XfC X.K C)
    (hl : ∀ q ∈ l, ∃ C, X.mg q.1 = some (.ref C) ∧ ExcI X.K C ∧ PySem.W.kitOne X.K (.ref C) cv = some q.2) (hmN : X.mg cN = some (.ref C)) (hsN : sub cN = some true) (hz : Zc (.ref C) (some dd) oe) (hf : ∃ vs, oe.data = .fields vs)
    (hN : X.N[i]? = some n) (hv : Vis X.env.scope n) (ht : PE (X.suite a ((a, oe) :: pn)) (.Name cn q2) (tC v)) (hcv : ∀ u, RelV v u → u = cv) (hd : (n == ("__debug__" : Str)) = false := by decide) (hcd : (n == ("__classdict__" : Str)) = false := by decide)
    (he : starEach [.Name n q1, .Name cn q2] X.env = (false, eval (.Name n q1) X.env) :: starEach [.Name cn q2] X.env := by rfl) (he2 : starEach [.Name cn q2] X.env = (false, eval (.Name cn q2) X.env) :: starEach [] X.env := by rfl) (hpl : (backTo pos (starEach [.Name cn q2] X.env)).any (·.1) = false := by rfl) :
    IE (X.suite a ((a, oe) :: pn)) (some ⟨i, a, dd, y, w⟩) Wx (.Call (.Name "isinstance" p) [.Name n q1, .Name cn q2] [] pos) (dIsExc l cN) := by
  cases hlk : l.lookup cN with
  | none =>
    refine ⟨fun pins s σ H Q I h => ?_⟩
    obtain ⟨ρ, env, st, s1, e, q⟩ := h
    unfold dIsExc at q
    rw [hlk] at q
    exact q.elim
  | some b =>
    obtain ⟨T, hk⟩ := lookup_ok hl hlk hmN
    refine PE.of (pe_callB (call_isExc T xf hz hf hk) hg hm (by decide +kernel) (pa_cons (es := [.Name cn q2]) (pe_var (i := i) hN hv hd hcd) (pa_cons ht pa_nil he2) he) (by decide) (by decide) he hpl) fun σ H Q ⟨ρ, env, st, s, e, q⟩ => ?_
    obtain ⟨h1, h2, h3, h4⟩ := e.exc _ rfl
    unfold dIsExc at q
    rw [hlk] at q
    exact ⟨.ref a, h1, v, _, rfl, hcv, h2, post_bl (X := X) s q⟩
/-! which errors a clause takes, by a list -/
def subL (l : List (Str × Bool)) : Str → Option Bool := fun c => l.lookup c
theorem subL_ok {cv : Value} : ∀ {l : List (Str × Bool)}, (∀ q ∈ l, ∃ C, X.mg q.1 = some (.ref C) ∧ PySem.W.exmOne X.K (.ref C) cv = some q.2 ∧ XfC X.K C ∧ PySem.W.findIn X.K (.ref C) ("value" : Str) = some none) → SubOk X cv (subL l)
  | [], _, c, b, h => by simp [subL] at h
  | (x, v) :: l, hl, c, b, h => by
    unfold subL at h
    rw [List.lookup_cons] at h
    split at h
    · rename_i hc
      cases h
      intro C hC
      have : c = x := by simpa using hc
      subst this
      obtain ⟨C', m, e, xf, nv⟩ := hl _ List.mem_cons_self
      have m' : X.mg c = some (.ref C') := m
      rw [hC] at m'; cases m'
      exact ⟨e, fun _ => ⟨xf, nv⟩⟩
    · exact subL_ok (fun q m => hl q (List.mem_cons_of_mem _ m)) c b h
/-! name op= e -/
def sAug (i : Nat) (f : W → W → Store → Res W) (m : D W) : DS := fun env st => match env[i]? with
  | some (some a) => (m env st).then env fun b st1 => (f a b st1).then env fun c st2 => .go .nx (env.set i (some c)) st2
  | _ => .stuck
def addI (a b : W) (st : Store) : Res W := match a, b with
  | .int i, .int j => .ok (.int (i + j)) st
  | _, _ => .stuck
theorem is_augAdd {i : Nat} {e : Expr} {m : D W} (hN : X.N.Nodup) (hi : X.N[i]? = some x) (hx : Loc X.env.scope x) (he : IE X none Wx e m) (hf : X.fn x = true ∨ X.env.scope.names.lookup x = some .local := by first | exact .inl rfl | exact .inr rfl | assumption) :
    IS X none Wx (.AugAssign (.Name x p') .Add e pos) (sAug i addI m) :=
  PS.of (ps_aug hN hi hx he ip_add hf) fun De σ H ⟨ρ, env, st, s, en, q⟩ => by
    unfold sAug at q
    split at q
    · rename_i a ha
      obtain ⟨v, h1, h2⟩ := en.at_ i a ha
      refine ⟨v, h1, RS.step (rel := relV X.K) s en q fun ρ1 H1 st1 b y g s1 e1 r q1 => ?_⟩
      have h3 := VR.grow s.apart g a v h2
      unfold addI at q1
      split at q1
      · rw [int_of h3, int_of r]
        exact ⟨_, _, rfl, rfl, PostS.go_ (f := .nx) q1 s1 (e1.set .none (by simp [VR]))⟩
      · exact q1.elim
    · exact q.elim
end
/-! ### classes, from what the head finds -/
theorem cls_some {K : PySem.W.Frag} {C : Addr} (h : PySem.W.hasDictIn K C = true) : (PySem.W.clsIn K C).isSome = true := by
  obtain ⟨cd, hc, _⟩ := PySem.W.any_some h
  rw [hc]; rfl
theorem kit_ref {K : PySem.W.Frag} {C D : Addr} {b : Bool} (hd : PySem.W.hasDictIn K C = true) (ht : PySem.W.typeIn K (.ref C) = some (.type "type")) (hs : PySem.W.subIn K (.ref C) (.ref C) = some true) (h : PySem.W.subIn K (.ref D) (.ref C) = some b) : PySem.W.kitOne K (.ref D) (.ref C) = some b := by
  have e2 : ((PySem.W.clsIn K C).isSome && PySem.W.typeIn K (.ref C) == some (.type "type")) = true := by rw [cls_some hd, ht]; rfl
  show (if (Value.ref D == Value.ref C) = true then some true else if ((PySem.W.clsIn K C).isSome && PySem.W.typeIn K (.ref C) == some (.type "type")) = true then PySem.W.subIn K (.ref D) (.ref C) else none) = some b
  rw [if_pos e2]
  by_cases e : (Value.ref D == Value.ref C) = true
  · rw [if_pos e]
    have e' : D = C := Value.ref.inj (beq_iff_eq.mp e)
    subst e'
    rw [hs] at h
    exact h
  · rw [if_neg e]; exact h
theorem kit_type {K : PySem.W.Frag} {D : Addr} {T : String} {b : Bool} (hm : PySem.W.kitMeta T = true) (h : PySem.W.subIn K (.ref D) (.type T) = some b) : PySem.W.kitOne K (.ref D) (.type T) = some b := by
  show (if (Value.ref D == Value.type T) = true then some true else if PySem.W.kitMeta T = true then PySem.W.subIn K (.ref D) (.type T) else none) = some b
  rw [if_neg (by intro z; cases z), if_pos hm]
  exact h
/-! ### what holds of each entry of a written list -/
def allP {α : Type} (p : α → Prop) : List α → Prop
  | [] => True
  | a :: l => p a ∧ allP p l
theorem mem_all {α : Type} {p : α → Prop} : ∀ {l : List α}, allP p l → ∀ q ∈ l, p q
  | [], _, _, h => nomatch h
  | a :: l, h, q, m => by
    rcases List.mem_cons.mp m with rfl | m
    · exact h.1
    · exact mem_all h.2 q m
/-! ### the law's own end -/
/-- what the law promises at the head -/
def spLaw (K : PySem.W.Frag) : Sp := fun vs H Q _ => ∃ (a : Addr) (ns : List Int), vs = [.ref a] ∧ Only H ∧ SqL K H a (ns.map V.int) ∧ ns.length ≤ 63 ∧ (∀ z ∈ ns, Builtin.Int.intBits z ≤ 1048576) ∧ ∀ H', Q (.bl true) H'
theorem VRs.ofInts {K : PySem.W.Frag} {ρ : List Addr} {H : Hp} : ∀ (l : List Int), VRs K ρ H (l.map W.int) (l.map V.int)
  | [] => by simp [VRs]
  | x :: l => .cons' (by simp [VR]) (VRs.ofInts l)
theorem law_end {P : Program} {w : World} {K : PySem.W.Frag} {mg : Str → Option Value} {base : Heap} {k : Nat} {x s : Str} {den : List W → Store → Res W} (G : FnF P w K mg base x [s] k 1 den)
    (h : ∀ ns : List Int, ns.length ≤ 63 → (∀ z ∈ ns, Builtin.Int.intBits z ≤ 1048576) → den [.fro (ns.map W.int)] [] = .ok (.bl true) []) :
    FnOk P w K mg base (L2.CX P w) k G.f G.fd [s] (spLaw K) := by
  refine ⟨fun vs H Q E hs => ?_, fun A outer st H args us vs Q E hr e0 hb r hs => ?_⟩
  · obtain ⟨a, ns, rfl, _⟩ := hs; rfl
  · obtain ⟨a, ns, rfl, hO, hS, hl, hbits, q⟩ := hs
    refine G.ok.run A outer st H args us [.ref a] Q E hr e0 hb r ?_
    have hf : SqF K H a (ns.map V.int) := by
      rcases hS with (hS | ⟨o, hS⟩) | hS
      · rcases hO a with z | ⟨o, xs, z⟩
        · rw [z] at hS; cases hS
        · rw [z] at hS; cases hS
      · exact .inl ⟨o, hS⟩
      · exact .inr hS
    refine ⟨[], [.fro (ns.map W.int)], [], ⟨rfl, List.nodup_nil, fun n o e => by simp at e⟩, ?_, rfl, ?_⟩
    · refine .one ?_
      simp only [VR]
      exact ⟨a, _, rfl, hf, VRs.ofInts ns⟩
    · rw [h ns hl hbits]
      intro ρ' H' v g s' rv
      have : v = .bl true := by simpa only [relV, VR] using rv
      subst this
      exact q H'
end
end MP
namespace MP
open PySem PySem.Spec PyProof.Rows L2
/-! ### try with several clauses 'except X as n' -/
/-- a clause: its class, its name's slot, its suite -/
structure Cl where
  c : Value
  i : Nat
  ts : Addr → Value → Option Addr → TS
def wEach (K : PySem.W.Frag) (Wout : WX) (De : Ends) (l : List Cl) : WX := l.foldr (fun h r => wAs K h.c h.i h.ts r De) Wout
/-- the clauses as they stand in the text -/
inductive ClsOk (X : Cx) : List ExceptHandler → List Cl → Prop
  | nil : ClsOk X [] []
  | as_ {x n : Str} {h : Cl} {b₀ : Stmt} {suite : List Stmt} {np hp : Pos} {hds : List ExceptHandler} {l : List Cl} (hi : X.N[h.i]? = some n) (hln : X.env.kindOf n = some .local) (hc : Names X x h.c)
      (hsu : ∀ (a : Addr) (oe : Obj) (cls : Value) (d : Option Addr) (pn : List (Addr × Obj)), Zc cls d oe → (∃ vs, oe.data = .fields vs) → PSs (X.suite a ((a, oe) :: pn)) (b₀ :: suite) (h.ts a cls d)) (r : ClsOk X hds l) :
      ClsOk X (.ExceptHandler (some (.Name x np)) (some n) (b₀ :: suite) hp :: hds) (h :: l)
section
variable {X : Cx} {body : List Stmt} {h₀ : ExceptHandler} {hds : List ExceptHandler} {l : List Cl} {pos : Pos} {tb : WX → TS} {Wout : WX}
theorem ps_try_each (hs : X.stack = X.env :: X.outer) (hf : X.env.frame = some X.env.locals) (hN : X.N.Nodup) (tk : Takes X Wout)
    (hb : ∀ (V : WX) (pn : List (Addr × Obj)) (xe : Value → Shared → Prop), Takes (X.tr pn xe) V → PassesOwn (model X.prog X.w) X.A X.env xe → PSs (X.tr pn xe) body (tb V))
    (hh : ClsOk X (h₀ :: hds) l) : PS X (.Try body (h₀ :: hds) [] [] pos) (fun De σ H => tb (wEach X.K Wout De l) De σ H) := by
  refine ⟨fun pins s σ H De I h => ?_⟩
  have ok := I.ok
  refine wpAny_Try_except (wpAny_mono ((hb (wEach X.K Wout De l) (X.pn ++ pins) _ (fun u s' xx => ?_) PassesOwn.looking).run [] s σ H De (I.toTry _) h) (fun f s1 q => ?_) (fun e s1 he => he))
  · obtain ⟨a, B, sI, pins', σ', H', cls, d, rfl, J', nb, up, sky, na, os, ag, w⟩ := xx
    have J : Inv X pins σ' H' sI := J'.ofTry ok
    refine Sky.land Zc.steady (by rw [ok.frames, hs]) hf (by rw [← hs]; exact sky) fun h3 fl3 up3 => ?_
    have J3 : Inv X pins σ' H' { s' with heap := h3 } := J.landed nb fl3.1 (up.trans up3) os ag
    obtain ⟨oe3, vs3, he3, hz3, hd3⟩ := fl3.there
    have apart : a ∉ frs (X.env :: X.outer) := fun m => by
      obtain ⟨_, o', e', hnf⟩ := fl3.2.2.1.mem m
      rw [he3] at e'; cases e'
      exact hnf _ hd3
    have nL : a ≠ X.env.locals := fun z => apart (List.mem_filterMap.mpr ⟨X.env, List.mem_cons_self, by rw [hf, z]⟩)
    have nF : a ∉ X.fs := fun m => by
      obtain ⟨e, he, q⟩ := List.mem_filterMap.mp m
      exact apart (List.mem_filterMap.mpr ⟨e, List.mem_cons_of_mem _ he, q⟩)
    have S3 := J3.suite he3 hd3 na nL nF
    suffices go : ∀ (hds' : List ExceptHandler) (l' : List Cl), ClsOk X hds' l' → wEach X.K Wout De l' cls d σ' H' →
        wpAny (model X.prog X.w) X.A (handleBy (.ref a) X.env hds') (SP X pins De) X.xe { s' with heap := h3 } from go _ _ hh w
    intro hds' l' hk
    induction hk with
    | nil =>
      intro w
      obtain ⟨_, _, _, oe, vs, T, oT, ts', he, hz, hd, h1, hr⟩ := id fl3
      refine wpAny_handleBy_nil ?_
      unfold PySem.passOn
      refine wpAny_bind (wpAny_field he hd h1 ?_)
      have nn : ¬ ((Value.ref T == Value.none) = true) := by simp
      rw [if_neg nn]
      have out : wpAny (model X.prog X.w) X.A (setFlight (.ref a) X.env.frame) (fun _ s4 => wpAny (model X.prog X.w) X.A (throw (.ref a) : Sem Flow) (SP X pins De) X.xe s4) X.xe { s' with heap := h3 } := by
        rw [hf]
        exact HandSPX.setFlight_upZ fl3 fun h4 hh4 up4 => wpAny_throw (tk _ _ ⟨a, B, sI, pins, σ', H', cls, d, rfl, J, nb, (up.trans up3).trans up4, .inr (.inr (by rw [hs]; exact hh4)), na, os, ag, w⟩)
      first
        | exact wpAny_bind (wpAny_pure (wpAny_bind out))
        | exact wpAny_bind out
    | @as_ x n c1 b₀ suite np hp hds2 l2 hi hln hc hsu r ih =>
      intro w
      obtain ⟨b, hb1, hyes, hno⟩ := w
      refine wpAny_handleBy_cons (codeAny_handlers_test ?_) (by intro q; cases q)
      have LT : PySem.W.Looks (model X.prog X.w) h3 (typeOf (.ref a)) cls := fun A Q E s k q => wpAny_typeOf_ref (k _ _ he3) (by rw [hz3.1]; exact q)
      have LM := PySem.W.exm_one (M := model X.prog X.w) (J3.kIn) LT hb1
      have named : ∀ {Q E : Value → Shared → Prop}, Q c1.c { s' with heap := h3 } → wpAny (model X.prog X.w) (X.A.mark (some (.ref a))) (eval (.Name x np) X.env) Q E { s' with heap := h3 } := fun {Q E} q => by
        obtain ⟨hg, hdbg, hm | ⟨hm, hv, hnn⟩⟩ := hc
        · exact ld_glob (X := X.suite a ((a, oe3) :: (X.pn ++ pins))) S3 hg hm q hdbg
        · exact ld_blt (X := X.suite a ((a, oe3) :: (X.pn ++ pins))) S3 hg hm hv q hnn hdbg
      refine named (LM.here ?_)
      cases b with
      | false => exact ih (hno rfl)
      | true =>
        refine codeAny_handlers_suite_as (HandSPX.lands_againZ fl3 fun h4 fl4 up4 => ?_)
        have J4 : Inv X pins σ' H' { s' with heap := h4 } := J.landed nb fl4.1 ((up.trans up3).trans up4) os ag
        obtain ⟨oe4, vs4, he4, hz4, hd4⟩ := fl4.there
        have S4 := J4.suite he4 hd4 na nL nF
        refine store_ok (X := X.suite a ((a, oe4) :: (X.pn ++ pins))) (v := .ref a) S4 hN hi (.inl hln) rfl (fun s5 S5 => ?_) (.inr hln)
        refine wpAny_mono ((hsu a oe4 cls d (X.pn ++ pins) hz4 ⟨_, hd4⟩).run [] s5 _ H' _ S5 (hyes rfl a na)) (fun f s6 q => ?_) (fun _ _ z => False.elim z)
        have over : ∀ {σ6 : L2.St} {H6 : Hp} {Q : Shared → Prop}, Inv (X.suite a ((a, oe4) :: (X.pn ++ pins))) [] σ6 H6 s6 → (∀ s7, Inv X pins (σ6.set c1.i none) H6 s7 → Q s7) →
            wpAny (model X.prog X.w) X.A (do bindName X.env n .none; unbindBehindTheSuite X.env n hp) (fun _ s7 => Q s7) X.xe s6 := fun {σ6 H6 Q} S6 hq => gone_ok (S6.unsuite ok) hN hi hln hq
        cases f with
        | next => obtain ⟨σ6, H6, S6, q6⟩ := q; exact over S6 fun s7 J7 => ⟨_, _, J7, q6⟩
        | brk => obtain ⟨σ6, H6, S6, q6⟩ := q; exact over S6 fun s7 J7 => ⟨_, _, J7, q6⟩
        | cont => obtain ⟨σ6, H6, S6, q6⟩ := q; exact over S6 fun s7 J7 => ⟨_, _, J7, q6⟩
        | ret u => obtain ⟨v6, σ6, H6, S6, r6, q6⟩ := q; exact over S6 fun s7 J7 => ⟨_, _, _, J7, r6, q6⟩
  · cases f with
    | next => obtain ⟨σ', H', J', q⟩ := q; exact wpAny_execs_nil ⟨σ', H', J'.ofTry ok, q⟩
    | brk => obtain ⟨σ', H', J', q⟩ := q; exact ⟨σ', H', J'.ofTry ok, q⟩
    | cont => obtain ⟨σ', H', J', q⟩ := q; exact ⟨σ', H', J'.ofTry ok, q⟩
    | ret u => obtain ⟨v, σ', H', J', r, q⟩ := q; exact ⟨v, σ', H', J'.ofTry ok, r, q⟩
end
section
variable {X : Cx} {Wx : WX}
/-- a clause of a denotation: its name's slot, which errors it takes, its suite -/
abbrev ClD := Nat × (Str → Option Bool) × (Str → W → DS)
def eachC : List ClD → Str → W → DS
  | [], c, w, env, st => .err c w env st
  | (i, sub, su) :: r, c, w, env, st => match sub c with
    | some true => if i < env.length then unAt i (su c w (env.set i none) st) else .stuck
    | some false => eachC r c w env st
    | none => .stuck
def kEach (l : List ClD) : RsS → RsS
  | .err c w env st => eachC l c w env st
  | r => r
def sTryEach (b : DS) (l : List ClD) : DS := fun env st => kEach l (b env st)
inductive CDs (X : Cx) : List ExceptHandler → List ClD → Prop
  | nil : CDs X [] []
  | as_ {x n : Str} {c : Value} {i : Nat} {sub : Str → Option Bool} {su : Str → W → DS} {b₀ : Stmt} {suite : List Stmt} {np hp : Pos} {hds : List ExceptHandler} {l : List ClD} (hi : X.N[i]? = some n) (hln : X.env.kindOf n = some .local) (hc : Names X x c)
      (hsub : SubOk X c sub) (hsu : SuOk X i (b₀ :: suite) sub su) (r : CDs X hds l) : CDs X (.ExceptHandler (some (.Name x np)) (some n) (b₀ :: suite) hp :: hds) ((i, sub, su) :: l)
theorem unset_env {ex : Option Exn} {ρ : List Addr} {H : Hp} {env : EnvW} {σ : L2.St} {i : Nat} {v : Option V} (e : EnvR X.K ex ρ H env σ) (hx : ∀ x, ex = some x → False) : EnvR X.K none ρ H (env.set i none) (σ.set i v) :=
  ⟨by simp [e.len], fun j w' h => by
    by_cases hj : i = j
    · subst hj
      rw [List.getElem?_set] at h
      split at h
      · first | cases h | (split at h <;> cases h)
      · rename_i z; exact absurd rfl z
    · rw [List.getElem?_set_ne hj] at h
      obtain ⟨u, h1, h2⟩ := e.at_ j w' h
      exact ⟨u, by rw [List.getElem?_set_ne hj]; exact h1, h2⟩, fun _ h => nomatch h⟩
theorem each_post {hds : List ExceptHandler} {l : List ClD} (hk : CDs X hds l) : ∃ l', ClsOk X hds l' ∧ ∀ (De : Ends) (ρ : List Addr) (H : Hp) (c1 : Str) (w : W) (env1 : EnvW) (st1 : Store) (ρ' : List Addr) (H' : Hp) (σ' : L2.St) (cls : Value) (d : Option Addr),
    PostS X.K none X.mg Wx De ρ H (eachC l c1 w env1 st1) → Grow ρ H ρ' H' → StR X.K ρ' H' st1 → EnvR X.K none ρ' H' env1 σ' → ErR X.K X.mg ρ' H' c1 w cls d → wEach X.K Wx De l' cls d σ' H' := by
  induction hk with
  | nil => exact ⟨[], .nil, fun De ρ H c1 w env1 st1 ρ' H' σ' cls d q g s e er => q ρ' H' σ' cls d g s e er⟩
  | @as_ x n c i sub su b₀ suite np hp hds l hi hln hc hsub hsu r ih =>
    obtain ⟨l', ok, run⟩ := ih
    refine ⟨⟨c, i, fun a cls d De σ H => ∃ (c1 : Str) (C dd : Addr) (y : V) (w : MP.W), (sub c1 = some true ∧ X.mg c1 = some (.ref C) ∧ cls = .ref C ∧ d = some dd ∧ XfC X.K C ∧ PySem.W.findIn X.K (.ref C) ("value" : Str) = some none) ∧ RS X (some ⟨i, a, dd, y, w⟩) W0 (su c1 w) De σ H⟩ :: l', .as_ hi hln hc ?_ ok, ?_⟩
    · intro a oe cls d pn hz hfv
      refine pss_ex fun c1 => pss_ex fun C => pss_ex fun dd => pss_ex fun y => pss_ex fun w => pss_and fun h => ?_
      obtain ⟨hs1, hm1, rfl, rfl, xf, nv⟩ := h
      exact hsu c1 C dd a y w oe pn hs1 hm1 xf nv hz hfv
    · intro De ρ H c1 w env1 st1 ρ' H' σ' cls d q g s' e' er
      obtain ⟨C, dd, y, hm, rfl, rfl, hx, ndd, rw⟩ := id er
      unfold eachC at q
      cases hsb : sub c1 with
      | none => rw [hsb] at q; exact q.elim
      | some bb =>
        rw [hsb] at q
        obtain ⟨hb1, hb2⟩ := hsub c1 bb hsb C hm
        refine ⟨bb, hb1, fun hbt a na => ?_, fun hbf => ?_⟩
        · subst hbt
          simp only at q
          obtain ⟨xf, nv⟩ := hb2 rfl
          by_cases hil0 : i < env1.length
          case neg => rw [if_neg hil0] at q; exact q.elim
          rw [if_pos hil0] at q
          have e2 := unset_env (X := X) (i := i) (v := some (V.ref a)) e' (fun _ z => nomatch z)
          refine ⟨c1, C, dd, y, w, ⟨hsb, hm, rfl, rfl, xf, nv⟩, ρ', env1.set i none, st1, s', ⟨e2.len, e2.at_, fun x h => ?_⟩, ?_⟩
          · cases h
            refine ⟨?_, hx, ndd, rw⟩
            have hil : i < σ'.length := by rw [e'.len]; exact hil0
            show (σ'.set i (some (V.ref a)))[i]? = _
            rw [List.getElem?_set_self hil]
          · generalize su c1 w (env1.set i none) st1 = r2 at q
            have q := PostS.mono q g
            cases r2 with
            | stuck => exact q
            | err c2 w2 env2 st2 => exact q.elim
            | go f env2 st2 =>
              intro ρ2 H2 σ2 g2 s2 e3
              have e4 : EnvR X.K none ρ2 H2 (env2.set i none) (σ2.set i none) := ⟨by simp [e3.len], fun j w' h => by
                by_cases hj : i = j
                · subst hj
                  rw [List.getElem?_set] at h
                  split at h
                  · first | cases h | (split at h <;> cases h)
                  · rename_i z; exact absurd rfl z
                · rw [List.getElem?_set_ne hj] at h
                  obtain ⟨v, h1, h2⟩ := e3.at_ j w' h
                  exact ⟨v, by rw [List.getElem?_set_ne hj]; exact h1, h2⟩, fun _ h => nomatch h⟩
              have z := q ρ2 H2 (σ2.set i none) g2 s2 e4
              cases f with
              | nx => exact z
              | bk => exact z
              | ct => exact z
              | rt v => exact z
        · subst hbf
          simp only at q
          exact run De ρ H c1 w env1 st1 ρ' H' σ' _ _ q g s' e' er
theorem is_try_each {h₀ : ExceptHandler} {hds : List ExceptHandler} {l : List ClD} {body : List Stmt} {pos : Pos} {b : DS} (hs : X.stack = X.env :: X.outer) (hf : X.env.frame = some X.env.locals) (hN : X.N.Nodup) (tk : Takes X Wx)
    (hb : ∀ (V : WX) (pn : List (Addr × Obj)) (xe : Value → Shared → Prop), Takes (X.tr pn xe) V → PassesOwn (model X.prog X.w) X.A X.env xe → ISs (X.tr pn xe) none V body b) (hk : CDs X (h₀ :: hds) l) :
    IS X none Wx (.Try body (h₀ :: hds) [] [] pos) (sTryEach b l) := by
  obtain ⟨l', ok, run⟩ := each_post (Wx := Wx) hk
  refine PS.of (ps_try_each (tb := fun V => RS X none V b) hs hf hN tk hb ok) ?_
  intro De σ H ⟨ρ, env, st, s, e, q⟩
  refine ⟨ρ, env, st, s, e, ?_⟩
  unfold sTryEach at q
  generalize b env st = res at q
  cases res with
  | stuck => exact q
  | go f env1 st1 => exact q
  | err c1 w env1 st1 => exact fun ρ' H' σ' cls d g s' e' er => run De ρ H c1 w env1 st1 ρ' H' σ' cls d q g s' e' er
end
end MP
namespace MP
open PySem PySem.Spec PyProof.Rows L2
open Classical
noncomputable section
section
variable {X : Cx} {ex : Option Exn} {Wx : WX} {e : Expr} {es : List Expr} {p pos : Pos}
/-! a range that a name is to hold -/
def rngW (l : List W) (st : Store) : Res W := match l with
  | [.int i, .int j] => .ok (.rng i j) st
  | _ => .stuck
theorem rng_ok : CallOk X (fun vs H Q => ∃ i j, vs = [V.int i, V.int j] ∧ ∀ p, H p = none → Q (.ref p) (upd H p (.rng i j))) rngW := fun Wx ρ H st σ l vs Q s r q => by
  unfold rngW at q
  split at q
  · obtain ⟨x, y, rfl, ra, rb⟩ := vrs2 r
    rw [int_of ra, int_of rb]
    refine ⟨_, _, rfl, fun d hd => ?_⟩
    exact q ρ _ (.ref d) (grow_imm hd) (s.grow_imm hd) (by simp only [VR]; exact ⟨d, rfl, upd_same⟩)
  · exact q.elim
theorem ie_rng {m : D (List W)} (hg : Gl X "range") (hm : X.mg "range" = none) (ha : IA X ex Wx (e :: es) m) (he : starEach (e :: es) X.env = (false, eval e X.env) :: starEach es X.env := by rfl) (hpl : (backTo pos (starEach es X.env)).any (·.1) = false := by rfl) :
    IE X ex Wx (.Call (.Name "range" p) (e :: es) [] pos) (dApp rngW m) := ie_callTy cr_range2 rng_ok hg hm (by decide +kernel) ha (by decide) (by decide) he hpl
/-! the place of a text in a text -/
def sIndexW (a : W) (l : List W) (st : Store) : Res W := match a, l with
  | .str z, [.str b] => match Builtin.Str.occurrences z b 0 z.length 1 with
    | i :: _ => .ok (.int (i : Nat)) st
    | [] => .stuck
  | _, _ => .stuck
theorem sIndex_ok : MtOk X (fun x xs H Q => ∃ a b i rest, x = .str a ∧ xs = [.str b] ∧ Builtin.Str.occurrences a b 0 a.length 1 = i :: rest ∧ Q (.int (i : Nat)) H) sIndexW := fun Wx ρ H st σ a l x vs Q s ra r q => by
  unfold sIndexW at q
  split at q
  · obtain ⟨y, rfl, rb⟩ := vrs1 r
    split at q
    · rename_i i rest ho
      exact ⟨_, _, i, rest, str_of ra, by rw [str_of rb], ho, post_int s q⟩
    · exact q.elim
  · exact q.elim
theorem ie_sindex {o : Expr} {apos cpos : Pos} {mo : D W} {m : D (List W)} (ho : IE X ex Wx o mo) (ha : IA X ex Wx [e] m) (hbase : attributeBase o "index" X.env (eval o X.env) = eval o X.env := by rfl)
    (hfew : ((backTo cpos (starEach [e] X.env)).all (fun x => !x.1) && (backToKw cpos (keywordEach [] X.env)).all (fun x => x.1.isSome) && decide ([e].length + ([] : List Keyword).length + (if ([] : List Keyword).isEmpty then 0 else 1) < 30)) = true := by rfl)
    (hline : (apos.endLine == cpos.line) = true := by rfl) (hs : starEach [e] X.env = (false, eval e X.env) :: starEach [] X.env := by rfl) (hp : (backTo cpos (starEach [] X.env)).any (·.1) = false := by rfl) :
    IE X ex Wx (.Call (.Attribute o "index" apos) [e] [] cpos) (dBm tyS sIndexW mo m) := ie_bm PySem.F.plainAttrs_str PySem.F.slot_str_index PySem.F.type_str_index mt_sindex sIndex_ok tyS_ok ho ha hbase hfew hline hs hp
end
end
end MP
namespace MP
open PySem PySem.Spec PyProof.Rows L2
open Classical
noncomputable section
/-! ### <= of tuples whose items are whole numbers and texts -/
theorem rc_le_str {A : Around} {s : Shared} (a b : Str) (t u : Tok) : Ob.RcOp .LtE A s (.str a t) (.str b u) (!decide (b.cps.toList < a.cps.toList)) := fun _ _ _ _ h => PySem.P.le_str h
/-- two items at one place: whether they are equal, whether the first is not behind the second -/
def pairV : V → V → Option (Bool × Bool)
  | .int i, .int k => some (i == k, decide (i ≤ k))
  | .str x, .str y => some (x == y, !decide (y.cps.toList < x.cps.toList))
  | _, _ => none
def rLeM (K : PySem.W.Frag) : R2 := fun x y H Q => ∃ (a b : Addr) (xs ys : List V) (e r : Nat → Bool), x = .ref a ∧ y = .ref b ∧ SqT K H a xs ∧ SqT K H b ys ∧ (∀ j v w, xs[j]? = some v → ys[j]? = some w → pairV v w = some (e j, r j)) ∧
  Q (.bl (Ob.lexAt e r (decide (xs.length ≤ ys.length)) 0 (min xs.length ys.length))) H
theorem vals_at : ∀ {xs : List V} {its : List Value}, Vals xs its → ∀ (j : Nat) (u : Value), its[j]? = some u → ∃ v, xs[j]? = some v ∧ RelV v u
  | _, _, .nil, j, u, h => by simp at h
  | _, _, .cons r rs, 0, u, h => by simp at h; subst h; exact ⟨_, rfl, r⟩
  | _, _, .cons r rs, j + 1, u, h => by
    obtain ⟨v, hv, hr⟩ := vals_at rs j u (by simpa using h)
    exact ⟨v, by simpa using hv, hr⟩
theorem op_leM {X : Cx} (hu : X.A.units < cLine) : OpR X (compareOp .LtE) (rLeM X.K) := by
  intro pins s σ H x y v u Q I rx ry h
  obtain ⟨a, b, xs, ys, e, r, rfl, rfl, ha, hb, hp, q⟩ := h
  cases rx
  cases ry
  obtain ⟨its, r1, p1, _⟩ := I.tuple ha
  obtain ⟨its2, r2, p2, _⟩ := I.tuple hb
  have n1 : its.toArray.size = xs.length := by rw [List.size_toArray]; exact r1.length.symm
  have n2 : its2.toArray.size = ys.length := by rw [List.size_toArray]; exact r2.length.symm
  have both : ∀ j (h1 : j < its.toArray.size) (h2 : j < its2.toArray.size), (∃ i k t t', its.toArray[j] = .int i t ∧ its2.toArray[j] = .int k t' ∧ e j = (i == k) ∧ r j = decide (i ≤ k)) ∨ (∃ i k t t', its.toArray[j] = .str i t ∧ its2.toArray[j] = .str k t' ∧ e j = (i == k) ∧ r j = !decide (k.cps.toList < i.cps.toList)) := fun j h1 h2 => by
    have g1 : its[j]? = some its.toArray[j] := by simp at h1; simp [h1]
    have g2 : its2[j]? = some its2.toArray[j] := by simp at h2; simp [h2]
    obtain ⟨v, hv, rv⟩ := vals_at r1 j _ g1
    obtain ⟨w, hw, rw'⟩ := vals_at r2 j _ g2
    have pv := hp j v w hv hw
    unfold pairV at pv
    split at pv
    · injection pv with pv
      obtain ⟨t, et⟩ := rv
      obtain ⟨t', et'⟩ := rw'
      exact .inl ⟨_, _, t, t', et, et', (congrArg Prod.fst pv).symm, (congrArg Prod.snd pv).symm⟩
    · injection pv with pv
      obtain ⟨t, et⟩ := rv
      obtain ⟨t', et'⟩ := rw'
      exact .inr ⟨_, _, t, t', et, et', (congrArg Prod.fst pv).symm, (congrArg Prod.snd pv).symm⟩
    · cases pv
  have R := Ob.RcOp.tuples_le (A := X.A) (s := s) (e := e) (r := r) p1 p2 hu (fun j h1 h2 => by
    rcases both j h1 h2 with ⟨i, k, t, t', e1, e2, e3, _⟩ | ⟨i, k, t, t', e1, e2, e3, _⟩
    · rw [e1, e2, e3]; exact SeqAt.EqAt.int_int _ _ _ _
    · rw [e1, e2, e3]; exact SeqAt.EqAt.str_str _ _ _ _) (fun j h1 h2 _ => by
    rcases both j h1 h2 with ⟨i, k, t, t', e1, e2, _, e4⟩ | ⟨i, k, t, t', e1, e2, _, e4⟩
    · rw [e1, e2, e4]; exact Ob.RcOp.le_int _ _ _ _
    · rw [e1, e2, e4]; exact rc_le_str _ _ _ _)
  rw [n1, n2] at R
  exact R X.prog X.w X.xe (EP X pins σ Q) ⟨.bl _, H, I, rfl, q⟩
/-- the same of values -/
def pairW : W → W → Option (Bool × Bool)
  | .int i, .int k => some (i == k, decide (i ≤ k))
  | .str x, .str y => some (x == y, !decide (y.cps.toList < x.cps.toList))
  | _, _ => none
def pairsW : List W → List W → Option (List (Bool × Bool))
  | w :: ws, v :: vs => match pairW w v, pairsW ws vs with
    | some p, some ps => some (p :: ps)
    | _, _ => none
  | _, _ => some []
def leTW (a b : W) (st : Store) : Res W := match a, b with
  | .tup ws, .tup vs => match pairsW ws vs with
    | some ps => .ok (.bl (Ob.lexAt (fun j => (ps.getD j (false, false)).1) (fun j => (ps.getD j (false, false)).2) (decide (ws.length ≤ vs.length)) 0 (min ws.length vs.length))) st
    | none => .stuck
  | _, _ => .stuck
section
variable {X : Cx} {ex : Option Exn} {Wx : WX} {a b : Expr} {ma mb : D W} {pos : Pos}
theorem pairs_at {ρ : List Addr} {H : Hp} : ∀ {ws vs : List W} {xs ys : List V} {ps : List (Bool × Bool)}, VRs X.K ρ H ws xs → VRs X.K ρ H vs ys → pairsW ws vs = some ps → ∀ (j : Nat) (v w : V), xs[j]? = some v → ys[j]? = some w → pairV v w = some (ps.getD j (false, false))
  | [], _, xs, _, _, h1, _, _, j, v, w, hv, _ => by simp only [VRs] at h1; subst h1; simp at hv
  | _ :: _, [], _, ys, _, _, h2, _, j, v, w, _, hw => by simp only [VRs] at h2; subst h2; simp at hw
  | w :: ws, v :: vs, xs, ys, ps, h1, h2, hp, j, x, y, hx, hy => by
    simp only [VRs] at h1 h2
    obtain ⟨u, us, rfl, r, rs⟩ := h1
    obtain ⟨u', us', rfl, r', rs'⟩ := h2
    unfold pairsW at hp
    split at hp
    · rename_i p ps' hp1 hp2
      cases hp
      cases j with
      | zero =>
        simp at hx hy
        subst hx; subst hy
        unfold pairW at hp1
        split at hp1
        · rw [int_of r, int_of r']; simpa [pairV] using hp1
        · rw [str_of r, str_of r']; simpa [pairV] using hp1
        · cases hp1
      | succ j => simpa using pairs_at rs rs' hp2 j x y (by simpa using hx) (by simpa using hy)
    · cases hp
theorem leT_ok : OpOk X (rLeM X.K) leTW := fun Wx ρ H st σ a b x y Q s ra rb p => by
  unfold leTW at p
  split at p
  · rename_i ws vs
    split at p
    · rename_i ps hps
      obtain ⟨d1, xs, rfl, ht, rs⟩ := tup_of ra
      obtain ⟨d2, ys, rfl, ht', rs'⟩ := tup_of rb
      rw [VRs.length rs, VRs.length rs'] at p
      exact ⟨d1, d2, xs, ys, _, _, rfl, rfl, ht.sq, ht'.sq, fun j v w hv hw => pairs_at rs rs' hps j v w hv hw, post_bl s p⟩
    · exact p.elim
  · exact p.elim
theorem ie_leT (hu : X.A.units + 64 < cLine) (ha : IE X ex Wx a ma) (hb : IE X ex Wx b mb) : IE X ex Wx (.Compare a [.LtE] [b] pos) (dOp leTW ma mb) := ie_cmp (op_leM (Nat.lt_of_le_of_lt (Nat.le_add_right _ _) hu)) leT_ok ha hb (nomark _)
theorem it_leT (hu : X.A.units + 64 < cLine) (ha : IE X ex Wx a ma) (hb : IE X ex Wx b mb) : IT X ex Wx (.Compare a [.LtE] [b] pos) (dBool (dOp leTW ma mb)) := it_cmp (op_leM (Nat.lt_of_le_of_lt (Nat.le_add_right _ _) hu)) leT_ok ha hb (nomark _)
end
end
end MP
namespace MP
open PySem PySem.Spec PyProof.Rows L2
open Classical
noncomputable section
/-! ### list(x), x a text or a sequence -/
def sgnV (x : Str) : List V := x.cps.toList.map fun c => .str ⟨#[c]⟩
theorem cr_listS {X : Cx} (hcalm : X.calm = true) : CallR X (.type "list") (fun xs H Q => ∃ x, xs = [V.str x] ∧ x.length ≤ sizeLine ∧ ∀ q, H q = none → Q (.ref q) (upd H q (.lst (sgnV x)))) := by
  intro pins s σ H xs us Q I r h
  obtain ⟨x, rfl, hz, q⟩ := h
  obtain ⟨u, rfl, ru⟩ := vals1 r
  obtain ⟨t, rfl⟩ := ru
  refine PySem.call_list_str (I.ok.hd hcalm) x t (fun h' tk acc c' hk e hi => ?_) (hn := hz)
  refine ⟨.ref s.heap.objs.size, upd H s.heap.objs.size (.lst (sgnV x)), I.laid hk (Nat.le_refl _) ⟨by simp [sgnV]; exact hz, acc.toList, c', ?_, by rw [Array.toArray_toList]; exact e⟩, rfl, q _ (I.hok.fresh (Nat.le_refl _))⟩
  refine vals_of_idx _ _ (by rw [Array.length_toList, hi.1]; simp [sgnV]) fun j u hj => ?_
  obtain ⟨c, t', hc, rfl⟩ := hi.2 j u (by rw [← Array.getElem?_toList]; exact hj)
  exact ⟨.str ⟨#[c]⟩, by simp [sgnV, hc], ⟨_, rfl⟩⟩
def listAW (l : List W) (st : Store) : Res W := match l with
  | [.str z] => if z.length ≤ sizeLine then .ok (.loc st.length) (st ++ [.lst (signs z)]) else .stuck
  | l => listW l st
theorem vrs_signs {K : PySem.W.Frag} {ρ : List Addr} {H : Hp} : ∀ (l : List Nat), VRs K ρ H (l.map fun c => W.str ⟨#[c]⟩) (l.map fun c => V.str ⟨#[c]⟩)
  | [] => by simp [VRs]
  | c :: l => .cons' (by simp [VR]) (vrs_signs l)
theorem listA_ok {X : Cx} : CallOk X (fun xs H Q => (∃ x, xs = [V.str x] ∧ x.length ≤ sizeLine ∧ ∀ q, H q = none → Q (.ref q) (upd H q (.lst (sgnV x)))) ∨ ∃ p ys, xs = [.ref p] ∧ (SqL X.K H p ys ∨ SqT X.K H p ys) ∧ ∀ l, H l = none → Q (.ref l) (upd H l (.lst ys))) listAW := fun Wx ρ H st σ l vs Q s r q => by
  unfold listAW at q
  split at q
  · rename_i z
    obtain ⟨x, rfl, ra⟩ := vrs1 r
    split at q
    · rename_i hz
      rw [str_of ra]
      exact .inl ⟨z, rfl, hz, post_lst s (vrs_signs _) q⟩
    · exact q.elim
  · exact .inr (list_ok Wx ρ H st σ _ vs Q s r q)
section
variable {X : Cx} {ex : Option Exn} {Wx : WX} {e : Expr} {es : List Expr} {p pos : Pos}
theorem ie_listA {m : D (List W)} (hc : X.calm = true) (hg : Gl X "list") (hm : X.mg "list" = none) (ha : IA X ex Wx (e :: es) m) (he : starEach (e :: es) X.env = (false, eval e X.env) :: starEach es X.env := by rfl) (hpl : (backTo pos (starEach es X.env)).any (·.1) = false := by rfl) :
    IE X ex Wx (.Call (.Name "list" p) (e :: es) [] pos) (dApp listAW m) := ie_callTy ((cr_listS hc).or call_list_of) listA_ok hg hm (by decide +kernel) ha (by decide) (by decide) he hpl
end
end
end MP
namespace MP
open PySem PySem.Spec PyProof.Rows L2
open Classical
noncomputable section
/-! ### repr of whole numbers, truths, None -/
def reprW (l : List W) (st : Store) : Res W := match l with
  | [.int i] => if i.natAbs.log2 < 1920 then .ok (.str (Str.ofString (toString i))) st else .stuck
  | [.bl b] => .ok (.str (if b then "True" else "False")) st
  | [.non] => .ok (.str "None") st
  | _ => .stuck
section
variable {X : Cx}
def rRepr : List V → Hp → VK → Prop := fun xs H Q => ∃ x, xs = [x] ∧ ((∃ i, x = .int i ∧ i.natAbs.log2 < 1920 ∧ Q (.str (Str.ofString (toString i))) H) ∨ ((∃ b, x = .bl b ∧ Q (.str (if b then "True" else "False")) H) ∨ (x = .non ∧ Q (.str "None") H)))
theorem cr_repr : CallR X (.builtin "repr") rRepr := by
  intro pins s σ H xs us Q I r h
  obtain ⟨x, rfl, h⟩ := h
  obtain ⟨u, rfl, ru⟩ := vals1 r
  rcases h with ⟨i, rfl, hz, q⟩ | ⟨b, rfl, q⟩ | ⟨rfl, q⟩
  · obtain ⟨t, rfl⟩ := ru
    exact PySem.P.repr_of_int hz ⟨.str _, H, I.tok _, ⟨_, rfl⟩, q⟩
  · cases (show u = Value.bool b from ru)
    exact PySem.P.repr_of_bool ⟨.str _, H, I.tok _, ⟨_, rfl⟩, q⟩
  · cases (show u = Value.none from ru)
    exact PySem.P.repr_of_none ⟨.str _, H, I.tok _, ⟨_, rfl⟩, q⟩
theorem repr_ok : CallOk X rRepr reprW := fun Wx ρ H st σ l vs Q s r q => by
  unfold reprW at q
  split at q
  · obtain ⟨x, rfl, ra⟩ := vrs1 r
    split at q
    · rename_i hz
      rw [int_of ra]; exact ⟨_, rfl, .inl ⟨_, rfl, hz, post_str s q⟩⟩
    · exact q.elim
  · obtain ⟨x, rfl, ra⟩ := vrs1 r
    rw [bl_of ra]; exact ⟨_, rfl, .inr (.inl ⟨_, rfl, post_str s q⟩)⟩
  · obtain ⟨x, rfl, ra⟩ := vrs1 r
    rw [non_of ra]; exact ⟨_, rfl, .inr (.inr ⟨rfl, post_str s q⟩)⟩
  · exact q.elim
/-! ### is, is not, of truths -/
def isBW (neg : Bool) (a b : W) (st : Store) : Res W := match b with
  | .bl c => match a with
    | .bl d => .ok (.bl (if neg then !decide (d = c) else decide (d = c))) st
    | _ => .stuck
  | _ => .stuck
theorem isB_ok : OpOk X (fun x y H Q => ∃ a b, x = .bl a ∧ y = .bl b ∧ Q (.bl (decide (a = b))) H) (isBW false) := fun Wx ρ H st σ a b x y Q s ra rb p => by
  unfold isBW at p
  split at p
  · split at p
    · exact ⟨_, _, bl_of ra, bl_of rb, post_bl s p⟩
    · exact p.elim
  · exact p.elim
theorem isNotB_ok : OpOk X (fun x y H Q => ∃ a b, x = .bl a ∧ y = .bl b ∧ Q (.bl (!decide (a = b))) H) (isBW true) := fun Wx ρ H st σ a b x y Q s ra rb p => by
  unfold isBW at p
  split at p
  · split at p
    · exact ⟨_, _, bl_of ra, bl_of rb, post_bl s p⟩
    · exact p.elim
  · exact p.elim
end
section
variable {X : Cx} {ex : Option Exn} {Wx : WX} {e : Expr} {es : List Expr} {p pos : Pos}
theorem ie_repr {m : D (List W)} (hg : Gl X "repr") (hm : X.mg "repr" = none) (ha : IA X ex Wx (e :: es) m) (he : starEach (e :: es) X.env = (false, eval e X.env) :: starEach es X.env := by rfl) (hpl : (backTo pos (starEach es X.env)).any (·.1) = false := by rfl) :
    IE X ex Wx (.Call (.Name "repr" p) (e :: es) [] pos) (dApp reprW m) := ie_callB cr_repr repr_ok hg hm (by decide +kernel) ha (by decide) (by decide) he hpl
theorem ie_isB {a b : Expr} {ma mb : D W} (ha : IE X ex Wx a ma) (hb : IE X ex Wx b mb) : IE X ex Wx (.Compare a [.Is] [b] pos) (dOp (isBW false) ma mb) := ie_cmp op_is_bl isB_ok ha hb (nomark _)
theorem ie_isNotB {a b : Expr} {ma mb : D W} (ha : IE X ex Wx a ma) (hb : IE X ex Wx b mb) : IE X ex Wx (.Compare a [.IsNot] [b] pos) (dOp (isBW true) ma mb) := ie_cmp op_isnot_bl isNotB_ok ha hb (nomark _)
theorem it_isB {a b : Expr} {ma mb : D W} (ha : IE X ex Wx a ma) (hb : IE X ex Wx b mb) : IT X ex Wx (.Compare a [.Is] [b] pos) (dBool (dOp (isBW false) ma mb)) := it_cmp op_is_bl isB_ok ha hb (nomark _)
theorem it_isNotB {a b : Expr} {ma mb : D W} (ha : IE X ex Wx a ma) (hb : IE X ex Wx b mb) : IT X ex Wx (.Compare a [.IsNot] [b] pos) (dBool (dOp (isBW true) ma mb)) := it_cmp op_isnot_bl isNotB_ok ha hb (nomark _)
/-! ### keywords in any order -/
def permL {α : Type} (ix : List Nat) (l : List α) : List α := ix.filterMap fun i => l[i]?
theorem perm_vals : ∀ {ix : List Nat} {zs : List V} {ws : List Value}, Vals zs ws → Vals (permL ix zs) (permL ix ws)
  | [], _, _, _ => .nil
  | i :: ix, zs, ws, r => by
    have ih := perm_vals (ix := ix) r
    unfold permL at ih ⊢
    have hl := r.length
    by_cases h : i < zs.length
    · have h' : i < ws.length := by rw [← hl]; exact h
      simp only [List.filterMap_cons, List.getElem?_eq_getElem h, List.getElem?_eq_getElem h']
      refine .cons ?_ ih
      obtain ⟨v, e, rv⟩ := vals_at r i ws[i] (List.getElem?_eq_getElem h')
      rw [List.getElem?_eq_getElem h] at e
      rw [Option.some.inj e]; exact rv
    · have h' : ¬ i < ws.length := by rw [← hl]; exact h
      simp only [List.filterMap_cons, List.getElem?_eq_none (Nat.le_of_not_lt h), List.getElem?_eq_none (Nat.le_of_not_lt h')]
      exact ih
theorem perm_vrs {K : PySem.W.Frag} {ρ : List Addr} {H : Hp} : ∀ {ix : List Nat} {ws : List W} {vs : List V}, VRs K ρ H ws vs → VRs K ρ H (permL ix ws) (permL ix vs)
  | [], _, _, _ => by simp [permL, VRs]
  | i :: ix, ws, vs, r => by
    have ih := perm_vrs (ix := ix) r
    unfold permL at ih ⊢
    have hl := VRs.length r
    by_cases h : i < ws.length
    · have h' : i < vs.length := by rw [← hl]; exact h
      simp only [List.filterMap_cons, List.getElem?_eq_getElem h, List.getElem?_eq_getElem h']
      obtain ⟨v, e, rv⟩ := r.get (List.getElem?_eq_getElem h)
      rw [List.getElem?_eq_getElem h'] at e
      rw [Option.some.inj e]; exact .cons' rv ih
    · have h' : ¬ i < vs.length := by rw [← hl]; exact h
      simp only [List.filterMap_cons, List.getElem?_eq_none (Nat.le_of_not_lt h), List.getElem?_eq_none (Nat.le_of_not_lt h')]
      exact ih
def tCallP (ix : List Nat) (n : Nat) (sp : Sp) (E : L2.St → XK) (tk : TA) : TE := fun σ H Q => tk σ H fun vs H1 => vs.length = n ∧ sp (permL ix vs) H1 Q (E σ)
theorem pe_callKP {k n : Nat} {f : Addr} {fd : FuncData} {ps : List Str} {x : Str} {ix : List Nat} {sp : Sp} {E : L2.St → XK} {CX : CXT} {kws : List Keyword} {tk : TA} {ks : List Str} (F : FnOk X.prog X.w X.K X.mg X.base CX k f fd ps sp) (hn : n = ps.length) (hr : Room k X.A) (hg : Gl X x) (hm : X.mg x = some (.ref f)) (hk : PySem.W.keepIn X.K (.ref f) = true)
    (hb : ∀ (s : Shared) (ws : List Value), X.K.In s.heap → ws.length = ps.length → BindsTo s fd ⟨[], ks.zip ws⟩ (ps.zip (permL ix ws))) (hx : ∀ σ, PassesAt CX X σ (E σ)) (hkw : PK X kws tk)
    (hall : (backToKw pos (keywordEach kws X.env)).all (·.1.isSome) = true := by rfl) (hks : (backToKw pos (keywordEach kws X.env)).filterMap (·.1) = ks := by rfl) (hdb : (x == ("__debug__" : Str)) = false := by decide)
    (hpl : ((backTo pos (starEach [] X.env)).any (·.1) || (backToKw pos (keywordEach kws X.env)).any (·.1.isNone)) = false := by rfl) :
    PE X (.Call (.Name x p) [] kws pos) (tCallP ix n sp E tk) := by
  refine ⟨fun pins s σ H Q I h => ?_⟩
  refine wpAny_Call_Name_kw (ld_glob I hg hm ?_ hdb)
  refine PySem.W.callWith_KW0 (h₀ := X.base) I.ok.mod.kin hk hall (thn (hkw.run pos pins s σ H _ I h) fun ws s1 ⟨zs, H1, I1, rz, hl0, q⟩ => ⟨I1.kIn, ?_⟩) hpl
  rw [hks]
  have hl : ws.length = ps.length := by rw [← rz.length, ← hn]; exact hl0
  refine wpAny_call (codeAny_mono (F.run X.A X.stack s1 H1 ⟨[], ks.zip ws⟩ (permL ix ws) (permL ix zs) Q (E σ) hr I1.env0 (hb s1 ws I1.kIn hl) (perm_vals rz) q) fun r s' hq => ?_)
  cases r with
  | error e => exact hx σ pins H1 s1 e s' I1 hq
  | ok fl =>
    cases fl with
    | ret u => exact I1.after hq
    | next => exact False.elim hq
    | brk => exact False.elim hq
    | cont => exact False.elim hq
def dCallP (n : Nat) (ix : List Nat) (den : List W → Store → Res W) (m : D (List W)) : D W := fun env st => (m env st).bind fun l st1 => if l.length = n ∧ (permL ix l).length = n then den (permL ix l) st1 else .stuck
theorem ie_callFKP {ps : List Str} {j n : Nat} {x : Str} {den : List W → Store → Res W} {ix : List Nat} {m : D (List W)} {kws : List Keyword} {ks : List Str} (G : FnF X.prog X.w X.K X.mg X.base x ps j n den) (hr : Room j X.A) (tk : Takes X Wx)
    (hb : ∀ (s : Shared) (ws : List Value), X.K.In s.heap → ws.length = ps.length → BindsTo s G.fd ⟨[], ks.zip ws⟩ (ps.zip (permL ix ws))) (hkw : IK X ex Wx kws m) (hn : n = ps.length := by rfl) (hg : Gl X x := by rfl)
    (hall : (backToKw pos (keywordEach kws X.env)).all (·.1.isSome) = true := by rfl) (hks : (backToKw pos (keywordEach kws X.env)).filterMap (·.1) = ks := by rfl) (hdb : (x == ("__debug__" : Str)) = false := by decide)
    (hpl : ((backTo pos (starEach [] X.env)).any (·.1) || (backToKw pos (keywordEach kws X.env)).any (·.1.isNone)) = false := by rfl) : IE X ex Wx (.Call (.Name x p) [] kws pos) (dCallP n ix den m) :=
  PE.of (pe_callKP (n := n) G.ok hn hr hg G.m G.kp hb (fun σ => passAt tk σ) hkw hall hks hdb hpl) fun σ H Q ⟨ρ, env, st, s, e, q⟩ => RG.bind s e q fun ρ1 H1 st1 l vs g s1 e1 r p1 => by
    split at p1
    · rename_i hl
      exact ⟨by rw [← VRs.length r]; exact hl.1, sp_of s1 (perm_vrs r) hl.2 p1⟩
    · exact p1.elim
end
/-! ### zip of two lists, in a for -/
structure ItG where
  items : List W
  chk : Store → Prop
section
variable {X : Cx} {ex : Option Exn} {Wx : WX} {pos : Pos}
def relG (X : Cx) : List Addr → Hp → ItG → It → Prop := fun ρ0 H0 it J =>
  ∀ ρ H st, Grow ρ0 H0 ρ H → StR X.K ρ H st → it.chk st → ∀ i, (∀ w, it.items[i]? = some w → J.go i H ∧ ∀ x H', J.yld i H x H' → Grow ρ H ρ H' ∧ StR X.K ρ H' st ∧ VR X.K ρ H' w x) ∧ (it.items.length ≤ i → J.stop i H)
abbrev IIG (X : Cx) (ex : Option Exn) (Wx : WX) (tg e : Expr) (m : D ItG) : Prop := PI X tg e (RG X ex Wx (relG X) m)
def sForG (m : D ItG) (t : DT) (b : DS) : DS := fun env st => (m env st).then env fun it st1 => forW it.chk t b it.items env st1
theorem is_forG {vs : List Nat} {tg iter : Expr} {body : List Stmt} {m : D ItG} {t : DT} {b : DS} (hp : PassesOwn (model X.prog X.w) X.A X.env X.xe) (hc : X.calm = true) (hi : IIG X ex Wx tg iter m) (hg : IG X ex vs tg t) (hb : ISs X ex Wx body b) (hs : ∀ x, foldedSetIterable iter X.env x = pure x := by intro _; rfl) : IS X ex Wx (.For tg iter body [] pos) (sForG m t b) :=
  PS.of (ps_for hp hc hi hg hb hs) fun De σ H ⟨ρ, env, st, s, e, p⟩ => RS.step (rel := relG X) s e p fun ρ1 H1 st1 it J g s1 e1 r q => by
    refine ⟨fun i m σ H => m = it.items.length - i ∧ i ≤ it.items.length ∧ ∃ ρ env st, Grow ρ1 H1 ρ H ∧ StR X.K ρ H st ∧ EnvR X.K ex ρ H env σ ∧ PostS X.K ex X.mg Wx De ρ H (forW it.chk t b (it.items.drop i) env st),
      ⟨_, rfl, Nat.zero_le _, ρ1, env, st1, .refl, s1, e1, q⟩, ?_⟩
    rintro i m σ' H' ⟨rfl, hi, ρ', env', st', g', s', e', q'⟩
    by_cases hlt : i < it.items.length
    · rw [List.drop_eq_getElem_cons hlt] at q'
      unfold forW at q'
      split at q'
      · rename_i ck
        obtain ⟨go, stop⟩ := r ρ' H' st' g' s' ck i
        obtain ⟨hgo, hy⟩ := go _ (List.getElem?_eq_getElem hlt)
        refine .inr ⟨hgo, fun σ2 H2 => ∃ ρ env st, Grow ρ1 H1 ρ H2 ∧ StR X.K ρ H2 st ∧ EnvR X.K ex ρ H2 env σ2 ∧ PostS X.K ex X.mg Wx De ρ H2 (forW it.chk t b (it.items.drop (i + 1)) env st), fun σ2 H2 n => ⟨_, by omega, rfl, hlt, n⟩, fun x H2 y => ?_⟩
        obtain ⟨g2, s2, rv⟩ := hy x H2 y
        have e2 := e'.grow s'.apart g2
        cases ht : t it.items[i] env' st' with
        | none => rw [ht] at q'; exact q'.elim
        | some pr =>
          obtain ⟨env3, st3⟩ := pr
          rw [ht] at q'
          refine ⟨ρ', env', st', _, s2, e2, rv, env3, st3, ht, fun ρ3 H3 σ3 g3 s3 e3 _ => ⟨ρ3, env3, st3, s3, e3, ?_⟩⟩
          simp only at q'
          have gg := g'.trans (g2.trans g3)
          have q3 := PostS.mono q' (g2.trans g3)
          generalize hbr : b env3 st3 = br at q3
          cases br with
          | stuck => exact q3
          | err c fs env4 st4 => exact q3
          | go f env4 st4 =>
            cases f with
            | nx => exact fun ρ4 H4 σ4 g4 s4 e4 => ⟨ρ4, env4, st4, gg.trans g4, s4, e4, PostS.mono q3 g4⟩
            | ct => exact fun ρ4 H4 σ4 g4 s4 e4 => ⟨ρ4, env4, st4, gg.trans g4, s4, e4, PostS.mono q3 g4⟩
            | bk => exact q3
            | rt v => exact q3
      · exact q'.elim
    · have : i = it.items.length := by omega
      subst this
      rw [List.drop_length] at q'
      unfold forW at q'
      split at q'
      · rename_i ck
        exact .inl ⟨(r ρ' H' st' g' s' ck _).2 (Nat.le_refl _), PostS.go_ (f := .nx) q' s' e'⟩
      · exact q'.elim
def zipW (xs ys : List W) : List W := List.zipWith (fun x y => W.tup [x, y]) xs ys
def zipOf (l : List W) (st : Store) : Res ItG := match l with
  | [.loc m, .loc n] => match lst2 st m n with
    | some (xs, ys) => .ok ⟨zipW xs ys, fun st => st[m]? = some (.lst xs) ∧ st[n]? = some (.lst ys)⟩ st
    | none => .stuck
  | _ => .stuck
def dZip (m : D (List W)) : D ItG := fun env st => (m env st).bind zipOf
theorem ob_at {ρ ρ' : List Addr} {H H' : Hp} {st : Store} {n : Nat} {a : Addr} {ws : List W} (g : Grow ρ H ρ' H') (s : StR X.K ρ' H' st) (hn : ρ[n]? = some a) (h : st[n]? = some (.lst ws)) : ∃ us, H' a = some (.lst us) ∧ VRs X.K ρ' H' ws us := by
  obtain ⟨m, e, _⟩ := g.pre
  subst e
  obtain ⟨b, hb, us, hu, r⟩ := s.ob n (.lst ws) h
  have : b = a := by
    rw [List.getElem?_append_left (List.getElem?_eq_some_iff.mp hn).1, hn] at hb
    exact (Option.some.inj hb).symm
  subst this
  exact ⟨us, hu, r⟩
theorem relG_zip {ρ : List Addr} {H : Hp} {xs ys : List W} {m n : Nat} {a b : Addr} (hm : ρ[m]? = some a) (hn : ρ[n]? = some b) : relG X ρ H ⟨zipW xs ys, fun st => st[m]? = some (.lst xs) ∧ st[n]? = some (.lst ys)⟩ (Itz X.K a b) := by
  intro ρ' H' st' g s' ck i
  obtain ⟨us, hu, ru⟩ := ob_at g s' hm ck.1
  obtain ⟨vs, hv, rv⟩ := ob_at g s' hn ck.2
  have su : SqL X.K H' a us := .inl (.inl hu)
  have sv : SqL X.K H' b vs := .inl (.inl hv)
  refine ⟨fun w e => ?_, fun h => ⟨us, vs, su, sv, ?_⟩⟩
  · have e : (zipW xs ys)[i]? = some w := e
    unfold zipW at e
    rw [List.getElem?_zipWith] at e
    cases hx : xs[i]? with
    | none => rw [hx] at e; simp at e
    | some x =>
      cases hy : ys[i]? with
      | none => rw [hx, hy] at e; simp at e
      | some y =>
        rw [hx, hy] at e
        simp only [Option.some.injEq] at e
        subst e
        obtain ⟨u, e1, r1⟩ := ru.get hx
        obtain ⟨v, e2, r2⟩ := rv.get hy
        refine ⟨⟨us, vs, u, v, su, sv, e1, e2⟩, fun z H2 ⟨T, x', y', ez, hT, eH, fx, fy⟩ => ?_⟩
        have h1 := fx us su
        rw [e1] at h1; cases h1
        have h2 := fy vs sv
        rw [e2] at h2; cases h2
        subst ez; subst eH
        exact ⟨grow_imm hT, s'.grow_imm hT, tup_new s' (.cons' r1 (.one r2)) hT⟩
  · have h : (zipW xs ys).length ≤ i := h
    unfold zipW at h
    rw [List.length_zipWith, VRs.length ru, VRs.length rv] at h
    omega
theorem iig_zip {e e2 : Expr} {m : D (List W)} {p tpos : Pos} {elts : List Expr} {kk : Nat} (hg : Gl X "zip") (hm : X.mg "zip" = none) (ha : IA X ex Wx [e, e2] m)
    (hs : starEach [e, e2] X.env = (false, eval e X.env) :: starEach [e2] X.env := by rfl) (hpl : (backTo pos (starEach [e2] X.env)).any (·.1) = false := by rfl) :
    IIG X ex Wx (.Tuple elts kk tpos) (.Call (.Name "zip" p) [e, e2] [] pos) (dZip m) :=
  ⟨fun pins s σ H R I h => (pi_zip hg hm ha hs hpl).run pins s σ H R I (by
    obtain ⟨ρ, env, st, s, e, q⟩ := h
    refine RG.bind s e q fun ρ1 H1 st1 l vs g s1 e1 r p1 => ?_
    unfold zipOf at p1
    split at p1
    · split at p1
      · rename_i xs ys h2
        obtain ⟨x, y, rfl, ra, rb⟩ := vrs2 r
        obtain ⟨hx, hy⟩ := lst2_of h2
        obtain ⟨a1, us, hm1, rfl, hu, _⟩ := loc_lst s1 ra hx
        obtain ⟨b1, vs, hn1, rfl, hv, _⟩ := loc_lst s1 rb hy
        exact ⟨a1, b1, us, vs, rfl, .inl (.inl hu), .inl (.inl hv), p1 ρ1 H1 _ .refl s1 (relG_zip hm1 hn1)⟩
      · exact p1.elim
    · exact p1.elim)⟩
end
end
end MP
namespace MP
open PySem PySem.Spec PyProof.Rows L2
noncomputable section
/-! ### tuples of texts that the module holds -/
/-- the name stands for a tuple of these texts, of the written part -/
def GTup (K : PySem.W.Frag) (mg : Str → Option Value) (x : Str) (ss : List Str) : Prop :=
  ∃ (a : Addr) (o : Obj) (its : Array Value) (n : Nat), mg x = some (.ref a) ∧ K.lookup a = some o ∧ o.cls = .type "tuple" ∧ o.data = .seq its n ∧ its.size ≤ sizeLine ∧ Vals (ss.map V.str) its.toList
theorem vrs_strs {K : PySem.W.Frag} {ρ : List Addr} {H : Hp} : ∀ (l : List Str), VRs K ρ H (l.map W.str) (l.map V.str)
  | [] => by simp [VRs]
  | c :: l => .cons' (by simp [VR]) (vrs_strs l)
theorem vals_strs : ∀ {ss : List Str} {us : List Value}, (∀ p ∈ ss.zip us, ∃ t, p.2 = .str p.1 t) → ss.length = us.length → Vals (ss.map V.str) us
  | [], [], _, _ => .nil
  | s :: ss, u :: us, h, hl => by
    obtain ⟨t, e⟩ := h (s, u) (by simp)
    simp only at e
    refine .cons ⟨t, e⟩ (vals_strs (fun p hp => h p (by simp [hp])) (by simpa using hl))
  | [], _ :: _, _, hl => by simp at hl
  | _ :: _, [], _, hl => by simp at hl
section
variable {X : Cx} {ex : Option Exn} {Wx : WX} {pos : Pos} {x : Str}
/-- the number of a sign -/
def ordFW (l : List W) (st : Store) : Res W := match l with
  | [.str z] => if z.length = 1 then .ok (.int (z.cps.getD 0 0 : Nat)) st else .stuck
  | _ => .stuck
theorem ordF_ok : CallOk X (fun xs H Q => ∃ x, xs = [V.str x] ∧ x.length = 1 ∧ Q (.int (x.cps.getD 0 0 : Nat)) H) ordFW := fun Wx ρ H st σ l vs Q s r p => by
  unfold ordFW at p
  split at p
  · rename_i z
    obtain ⟨x, rfl, ra⟩ := vrs1 r
    split at p
    · rename_i hz
      rw [str_of ra]
      exact ⟨z, rfl, hz, post_int s p⟩
    · exact p.elim
  · exact p.elim
theorem ie_ord {e : Expr} {es : List Expr} {p : Pos} {m : D (List W)} (hg : Gl X "ord") (hm : X.mg "ord" = none) (ha : IA X ex Wx (e :: es) m) (he : starEach (e :: es) X.env = (false, eval e X.env) :: starEach es X.env := by rfl) (hpl : (backTo pos (starEach es X.env)).any (·.1) = false := by rfl) :
    IE X ex Wx (.Call (.Name "ord" p) (e :: es) [] pos) (dApp ordFW m) := ie_callB call_ord ordF_ok hg hm (by decide +kernel) ha (by decide) (by decide) he hpl
/-- two names at once -/
def kPar (i j : Nat) (env : EnvW) (l : List W) (st : Store) : RsS := match l with
  | [a, b] => .go .nx ((env.set i (some a)).set j (some b)) st
  | _ => .stuck
def sPar (i j : Nat) (m : D (List W)) : DS := fun env st => (m env st).then env (kPar i j env)
@[simp] theorem sPar_ap {i j : Nat} {m : D (List W)} {env : EnvW} {st : Store} : sPar i j m env st = (m env st).then env (kPar i j env) := rfl
@[simp] theorem kPar_ap {i j : Nat} {a b : W} {env : EnvW} {st : Store} : kPar i j env [a, b] st = .go .nx ((env.set i (some a)).set j (some b)) st := rfl
theorem is_par {i j : Nat} {x y : Str} {a b : Expr} {m : D (List W)} {px py pt pt2 : Pos} {kt k2 : Nat} (hc : X.calm = true) (hN : X.N.Nodup) (hi : X.N[i]? = some x) (hj : X.N[j]? = some y) (hij : i ≠ j) (hx : X.env.scope.names.lookup x = some .local) (hy : X.env.scope.names.lookup y = some .local)
    (hx0 : ExOk ex i) (hy0 : ExOk ex j) (ha : IA X ex Wx [a, b] m) (hw : swappedStores [.Tuple [.Name x px, .Name y py] kt pt] (.Tuple [a, b] k2 pt2) X.env = pure (some [x, y]) := by rfl)
    (hs : swapsWithSole [.Tuple [.Name x px, .Name y py] kt pt] (.Tuple [a, b] k2 pt2) pos.line X.env = pure false := by rfl) : IS X ex Wx (.Assign [.Tuple [.Name x px, .Name y py] kt pt] (.Tuple [a, b] k2 pt2) pos) (sPar i j m) :=
  PS.of (ps_par hc hN hi hj hij hx hy ha hw hs) fun D σ H ⟨ρ, env, st, s, e, p⟩ => RS.step s e p fun ρ1 H1 st1 l xs g s1 e1 r p1 => by
    unfold kPar at p1
    split at p1
    · obtain ⟨u, v, rfl, ra, rb⟩ := vrs2 r
      exact ⟨u, v, rfl, PostS.go_ p1 s1 ((e1.set hx0 ra).set hy0 rb)⟩
    · exact p1.elim
/-- a text of a whole number, or of a text -/
def strW (l : List W) (st : Store) : Res W := match l with
  | [.int i] => if i.natAbs.log2 < 1920 then .ok (.str (Str.ofString (toString i))) st else .stuck
  | [.str x] => .ok (.str x) st
  | _ => .stuck
theorem strF_ok : CallOk X (fun xs H Q => (∃ i, xs = [V.int i] ∧ i.natAbs.log2 < 1920 ∧ Q (.str (Str.ofString (toString i))) H) ∨ ∃ a, xs = [V.str a] ∧ Q (.str a) H) strW := fun Wx ρ H st σ l vs Q s r p => by
  unfold strW at p
  split at p
  · obtain ⟨x, rfl, ra⟩ := vrs1 r
    split at p
    · rename_i hz
      rw [int_of ra]
      exact .inl ⟨_, rfl, hz, post_str s p⟩
    · exact p.elim
  · obtain ⟨x, rfl, ra⟩ := vrs1 r
    rw [str_of ra]
    exact .inr ⟨_, rfl, post_str s p⟩
  · exact p.elim
theorem ie_strOf {e : Expr} {es : List Expr} {p : Pos} {m : D (List W)} (hg : Gl X "str") (hm : X.mg "str" = none) (ha : IA X ex Wx (e :: es) m) (he : starEach (e :: es) X.env = (false, eval e X.env) :: starEach es X.env := by rfl) (hpl : (backTo pos (starEach es X.env)).any (·.1) = false := by rfl) :
    IE X ex Wx (.Call (.Name "str" p) (e :: es) [] pos) (dApp strW m) := ie_callTy (call_str_int.or SkE.call_str_str) strF_ok hg hm (by decide +kernel) ha (by decide) (by decide) he hpl
theorem ie_gtup {ss : List Str} (h : GTup X.K X.mg x ss) (hg : Gl X x := by rfl) (hd : (x == ("__debug__" : Str)) = false := by decide) : IE X ex Wx (.Name x pos) (dC (.tup (ss.map W.str))) := by
  obtain ⟨a, o, its, n, hm, hl, hc, hs, hz, hv⟩ := h
  exact ie_c (pe_glob (v := .ref a) hg hm rfl hd) fun ρ H => by
    simp only [VR]
    exact ⟨a, _, rfl, .inr ⟨o, its, n, hl, hc, hs, hz, hv⟩, vrs_strs ss⟩
end
/-! ### < of numbers, texts, and tuples of such, also nested -/
theorem rc_lt_str {A : Around} {s : Shared} (a b : Str) (t u : Tok) : Ob.RcOp .Lt A s (.str a t) (.str b u) (decide (a.cps.toList < b.cps.toList)) := fun _ _ _ _ h => PySem.P.lt_str h
mutual
def ordUW (st : Store) : Nat → W → W → Option Bool
  | 0, _, _ => none
  | n + 1, a, b => match a, b with
    | .int i, .int k => some (decide (i < k))
    | .str x, .str y => some (decide (x.cps.toList < y.cps.toList))
    | .tup xs, .tup ys => match ordsUW st n xs ys with
      | some ps => some (Ob.lexAt (fun j => (ps.getD j (false, false)).1) (fun j => (ps.getD j (false, false)).2) (decide (xs.length < ys.length)) 0 (min xs.length ys.length))
      | none => none
    | _, _ => none
def ordsUW (st : Store) : Nat → List W → List W → Option (List (Bool × Bool))
  | n, x :: xs, y :: ys => match datF st 66 x, datF st 66 y with
    | some d, some e => if SeqAt.shaped d = true ∧ SeqAt.shaped e = true then
        match (if d.eqv e = true then some false else ordUW st n x y), ordsUW st n xs ys with
        | some r, some ps => some ((d.eqv e, r) :: ps)
        | _, _ => none
      else none
    | _, _ => none
  | _, _, _ => some []
end
def ltUW (a b : W) (st : Store) : Res W := match ordUW st 8 a b with
  | some r => .ok (.bl r) st
  | none => .stuck
def rLtU (X : Cx) : R2 := fun x y H Q => ∃ (ρ : List Addr) (st : Store) (a b : W) (r : Bool), StR X.K ρ H st ∧ VR X.K ρ H a x ∧ VR X.K ρ H b y ∧ ordUW st 8 a b = some r ∧ Q (.bl r) H
theorem shaped_d {d : PyData} (h : SeqAt.shaped d = true) : d.canLay0 = true ∧ d.depth ≤ 64 := by
  rw [SeqAt.shaped.eq_1] at h
  simpa using h
section
variable {X : Cx} {pins : List (Addr × Obj)} {σ : L2.St} {H : Hp} {s : Shared} {ρ : List Addr} {st : Store}
theorem vrs_get {K : PySem.W.Frag} : ∀ {ws : List W} {us : List V} {j : Nat} {v : V}, VRs K ρ H ws us → us[j]? = some v → ∃ w, ws[j]? = some w ∧ VR K ρ H w v
  | [], us, j, v, h, e => by simp only [VRs] at h; subst h; simp at e
  | w :: ws, us, 0, v, h, e => by
    simp only [VRs] at h
    obtain ⟨u, us', rfl, r, rs⟩ := h
    simp at e; subst e
    exact ⟨w, rfl, r⟩
  | w :: ws, us, j + 1, v, h, e => by
    simp only [VRs] at h
    obtain ⟨u, us', rfl, r, rs⟩ := h
    obtain ⟨w', e', r'⟩ := vrs_get rs (by simpa using e)
    exact ⟨w', by simpa using e', r'⟩
theorem ords_get : ∀ {n : Nat} {xs ys : List W} {ps : List (Bool × Bool)} {j : Nat} {x y : W}, ordsUW st n xs ys = some ps → xs[j]? = some x → ys[j]? = some y → ∃ d e, datF st 66 x = some d ∧ datF st 66 y = some e ∧ SeqAt.shaped d = true ∧ SeqAt.shaped e = true ∧ (ps.getD j (false, false)).1 = d.eqv e ∧ (d.eqv e = false → ordUW st n x y = some (ps.getD j (false, false)).2)
  | n, [], ys, ps, j, x, y, _, h, _ => by simp at h
  | n, _ :: _, [], ps, j, x, y, _, _, h => by simp at h
  | n, a :: xs, b :: ys, ps, j, x, y, h, hx, hy => by
    unfold ordsUW at h
    split at h
    · rename_i d e hd he
      split at h
      · rename_i hz
        split at h
        · rename_i r qs hr hq
          cases h
          cases j with
          | zero =>
            simp at hx hy; subst hx; subst hy
            refine ⟨d, e, hd, he, hz.1, hz.2, rfl, fun q => ?_⟩
            rw [q] at hr
            simpa using hr
          | succ j =>
            obtain ⟨d', e', h1, h2, h3, h4, h5, h6⟩ := ords_get hq (by simpa using hx) (by simpa using hy)
            exact ⟨d', e', h1, h2, h3, h4, by simpa using h5, by simpa using h6⟩
        · cases h
      · cases h
    · cases h
theorem rc_ord (I : L2.Inv X pins σ H s) (S : StR X.K ρ H st) : ∀ (n : Nat) (A : Around) (a b : W) (x y : V) (u v : Value) (r : Bool), VR X.K ρ H a x → VR X.K ρ H b y → L2.RelV x u → L2.RelV y v → ordUW st n a b = some r → A.units + n + 66 < cLine → Ob.RcOp .Lt A s u v r
  | 0, A, a, b, x, y, u, v, r, _, _, _, _, h, _ => by simp [ordUW] at h
  | n + 1, A, a, b, x, y, u, v, r, ra, rb, ru, rv, h, hu => by
    unfold ordUW at h
    split at h
    · rw [int_of ra] at ru
      rw [int_of rb] at rv
      obtain ⟨t, rfl⟩ := ru
      obtain ⟨t', rfl⟩ := rv
      cases h
      exact Ob.RcOp.lt_int _ _ _ _
    · rw [str_of ra] at ru
      rw [str_of rb] at rv
      obtain ⟨t, rfl⟩ := ru
      obtain ⟨t', rfl⟩ := rv
      cases h
      exact rc_lt_str _ _ _ _
    · rename_i xs ys
      split at h
      · rename_i ps hps
        cases h
        obtain ⟨d1, us, rfl, ht, rs⟩ := tup_of ra
        obtain ⟨d2, vs, rfl, ht', rs'⟩ := tup_of rb
        cases ru
        cases rv
        obtain ⟨its, r1, p1, _⟩ := I.tuple ht.sq
        obtain ⟨its2, r2, p2, _⟩ := I.tuple ht'.sq
        have n1 : its.toArray.size = xs.length := by rw [List.size_toArray, VRs.length rs]; exact r1.length.symm
        have n2 : its2.toArray.size = ys.length := by rw [List.size_toArray, VRs.length rs']; exact r2.length.symm
        have both : ∀ j (h1 : j < its.toArray.size) (h2 : j < its2.toArray.size), SeqAt.EqAt A.in1 s its.toArray[j] its2.toArray[j] (ps.getD j (false, false)).1 ∧ ((ps.getD j (false, false)).1 = false → Ob.RcOp .Lt A.in1 s its.toArray[j] its2.toArray[j] (ps.getD j (false, false)).2) := fun j h1 h2 => by
          have g1 : its[j]? = some its.toArray[j] := by simp at h1; simp [h1]
          have g2 : its2[j]? = some its2.toArray[j] := by simp at h2; simp [h2]
          obtain ⟨v1, hv1, rv1⟩ := vals_at r1 j _ g1
          obtain ⟨v2, hv2, rv2⟩ := vals_at r2 j _ g2
          obtain ⟨w1, hw1, rw1⟩ := vrs_get rs hv1
          obtain ⟨w2, hw2, rw2⟩ := vrs_get rs' hv2
          obtain ⟨d, e, hd, he, sd, se, e1, e2⟩ := ords_get hps hw1 hw2
          rw [e1]
          have D1 := datF_dp S 66 w1 v1 d rw1 hd
          have D2 := datF_dp S 66 w2 v2 e rw2 he
          obtain ⟨as, R1⟩ := L2.Dp.reads I d v1 _ D1 rv1
          obtain ⟨bs, R2⟩ := L2.Dp.reads I e v2 _ D2 rv2
          refine ⟨SeqAt.eqAt_reads d e A.in1 s _ _ as bs R1 R2 (shaped_d sd).1 (shaped_d se).1 ?_, fun q => ?_⟩
          · have := (shaped_d sd).2
            show A.units + 1 + min d.depth e.depth < cLine
            omega
          · exact rc_ord I S n A.in1 w1 w2 v1 v2 _ _ _ rw1 rw2 rv1 rv2 (e2 q) (by show A.units + 1 + n + 66 < cLine; omega)
        have R := Ob.RcOp.tuples_lt (A := A) (s := s) (e := fun j => (ps.getD j (false, false)).1) (r := fun j => (ps.getD j (false, false)).2) p1 p2 (by omega) (fun j h1 h2 => (both j h1 h2).1) (fun j h1 h2 q => (both j h1 h2).2 q)
        rw [n1, n2] at R
        exact R
      · cases h
    · cases h
theorem op_ltU (hu : X.A.units + 200 < cLine) : OpR X (compareOp .Lt) (rLtU X) := by
  intro pins s σ H x y v u Q I rx ry h
  obtain ⟨ρ, st, a, b, r, S, ra, rb, ho, q⟩ := h
  exact rc_ord I S 8 X.A a b x y v u r ra rb rx ry ho (by omega) X.prog X.w X.xe (EP X pins σ Q) ⟨.bl _, H, I, rfl, q⟩
theorem ltU_ok : OpOk X (rLtU X) ltUW := fun Wx ρ H st σ a b x y Q s ra rb p => by
  unfold ltUW at p
  split at p
  · rename_i r hr
    exact ⟨ρ, st, a, b, r, s, ra, rb, hr, post_bl s p⟩
  · exact p.elim
end
section
variable {X : Cx} {ex : Option Exn} {Wx : WX} {a b : Expr} {ma mb : D W} {pos : Pos} {k : Nat}
theorem ie_ltU (hr : Room k X.A) (ha : IE X ex Wx a ma) (hb : IE X ex Wx b mb) : IE X ex Wx (.Compare a [.Lt] [b] pos) (dOp ltUW ma mb) := ie_cmp (op_ltU (by have := hr.un; omega)) ltU_ok ha hb (nomark _)
theorem it_ltU (hr : Room k X.A) (ha : IE X ex Wx a ma) (hb : IE X ex Wx b mb) : IT X ex Wx (.Compare a [.Lt] [b] pos) (dBool (dOp ltUW ma mb)) := it_cmp (op_ltU (by have := hr.un; omega)) ltU_ok ha hb (nomark _)
end
/-! ### in a list of data -/
def inDW (a b : W) (st : Store) : Res W := match datF st 66 a, datF st 66 b with
  | some d, some (.list ds) => if SeqAt.shaped d = true ∧ SeqAt.shaped (.list ds) = true then .ok (.bl (ds.any fun z => PyData.eqv z d)) st else .stuck
  | _, _ => .stuck
section
variable {X : Cx} {ex : Option Exn} {Wx : WX} {a b : Expr} {ma mb : D W} {pos : Pos} {k : Nat}
theorem inD_ok : OpOk X (rInD X.K) inDW := fun Wx ρ H st σ a b x y Q s ra rb p => by
  unfold inDW at p
  split at p
  · rename_i d ds hd he
    split at p
    · rename_i hz
      exact ⟨d, ds, datF_dp s 66 a x d ra hd, datF_dp s 66 b y _ rb he, hz.1, hz.2, post_bl s p⟩
    · exact p.elim
  · exact p.elim
theorem ie_inD (hr : Room k X.A) (ha : IE X ex Wx a ma) (hb : IE X ex Wx b mb) (hm : behindInMarks .In b = false := by with_unfolding_all rfl) : IE X ex Wx (.Compare a [.In] [b] pos) (dOp inDW ma mb) := ie_cmp (op_inD (by have := hr.un; omega)) inD_ok ha hb hm
theorem it_inD (hr : Room k X.A) (ha : IE X ex Wx a ma) (hb : IE X ex Wx b mb) (hm : behindInMarks .In b = false := by with_unfolding_all rfl) : IT X ex Wx (.Compare a [.In] [b] pos) (dBool (dOp inDW ma mb)) := it_cmp (op_inD (by have := hr.un; omega)) inD_ok ha hb hm
end
/-! ### [::-1] of a list or a tuple -/
theorem places_rev (n : Nat) : Builtin.Slice.slicePlaces ((n : Int) - 1) (-1) (-1) = n := by
  unfold Builtin.Slice.slicePlaces
  rw [if_neg (by decide)]
  by_cases h : n = 0
  · subst h; rfl
  · rw [if_pos (by omega)]
    have : ((n : Int) - 1 - -1 - 1) / - -1 = (n : Int) - 1 := by
      rw [show (- -1 : Int) = 1 from rfl, Int.ediv_one]; omega
    rw [this]; omega
theorem applied_rev {prog : Program} {w : World} {A : Around} {E : Value → Shared → Prop} {s : Shared} {sl : Addr} {t : Tok} {n : Nat} {Q : Int × Int × Nat → Shared → Prop} (hs : s.heap.IsSliceOf sl .none .none (.int (-1) t)) (h : Q ((n : Int) - 1, -1, n) s) : wpAny (model prog w) A (Builtin.Slice.sliceApplied (.ref sl) (pure (n : Int))) Q E s := by
  obtain ⟨os, hos, hcs, hds⟩ := hs
  unfold Builtin.Slice.sliceApplied Builtin.Slice.sliceFields
  refine wpAny_bind (wpAny_bind (wpAny_field hos hds rfl (wpAny_bind (wpAny_field hos hds rfl (wpAny_bind (wpAny_field hos hds rfl (wpAny_pure ?_)))))))
  refine wpAny_bind (HT.slicePart_ (.int (-1) t) ?_)
  show wpAny (model prog w) A (if ((-1 : Int) == 0) = true then _ else _) Q E s
  rw [if_neg (by decide)]
  refine wpAny_bind (HT.slicePart_ .none (wpAny_bind (HT.slicePart_ .none (wpAny_bind (wpAny_pure ?_)))))
  rw [show Builtin.Slice.sliceAdjust none none ((some (-1 : Int)).getD 1) (n : Int) = ((n : Int) - 1, -1) from rfl]
  show wpAny (model prog w) A (pure ((n : Int) - 1, -1, Builtin.Slice.slicePlaces ((n : Int) - 1) (-1) (-1))) Q E s
  rw [places_rev]
  exact wpAny_pure h
theorem filterMap_cg {α β : Type} {f g : α → Option β} : ∀ {l : List α}, (∀ a ∈ l, f a = g a) → List.filterMap f l = List.filterMap g l
  | [], _ => rfl
  | a :: l, h => by
    rw [List.filterMap_cons, List.filterMap_cons, h a List.mem_cons_self, filterMap_cg fun b m => h b (List.mem_cons_of_mem _ m)]
theorem pick_rev (items : Array Value) : (List.filterMap (fun k : Nat => items[((items.size : Int) - 1 + (k : Int) * -1).toNat]?) (List.range items.size)).toArray = items.toList.reverse.toArray := by
  have h := HT.pick_gen items.toList.reverse.toArray 0 items.size
  have e : List.filterMap (fun k : Nat => items[((items.size : Int) - 1 + (k : Int) * -1).toNat]?) (List.range items.size) = List.filterMap (fun m : Nat => items.toList.reverse.toArray[(((0 : Nat) : Int) + (m : Int) * 1).toNat]?) (List.range items.size) := by
    refine filterMap_cg fun k hk => ?_
    have hk := List.mem_range.mp hk
    have e1 : ((items.size : Int) - 1 + (k : Int) * -1).toNat = items.size - 1 - k := by omega
    have e2 : (((0 : Nat) : Int) + (k : Int) * 1).toNat = k := by omega
    rw [e1, e2]
    rw [← Array.getElem?_toList, ← Array.getElem?_toList, List.toList_toArray]
    rw [List.getElem?_reverse (by simpa using hk)]
    simp
  rw [e, h, List.drop_zero, List.take_of_length_le (by simp)]
theorem getItem_tuple_rev {prog : Program} {w : World} {A : Around} {E : Value → Shared → Prop} {s : Shared} {t sl : Addr} {items : Array Value} {tk : Tok} {Q : Value → Shared → Prop} (ht : IsTup s.heap t items) (hs : s.heap.IsSliceOf sl .none .none (.int (-1) tk))
    (h : Q (.ref s.heap.objs.size) { s with heap := s.heap.push { cls := .type "tuple", data := .seq items.toList.reverse.toArray } }) (hsz : items.size ≤ sizeLine) : wpAny (model prog w) A (getItem (.ref t) (.ref sl)) Q E s := by
  have hTs : s.TypeIs (.ref sl) "slice" := by
    obtain ⟨os, hos, hcs, hds⟩ := hs
    exact ⟨os, hos, hcs⟩
  unfold getItem
  refine wpAny_holding (wpAny_bind (wpAny_sequenceKey (IsTup.typeIs ht) (by decide) (wpAny_bind (wpAny_callSpecial?_slot (IsTup.typeIs ht) slot_tuple_getitem (wpAny_call_entry slot_tuple_getitem (IsTup.typeIs ht) entry_tuple_getitem ?_ (args_tuple_getitem _ _))))))
  show wpAny (model prog w) A.in1 (Builtin.Tuple.tupleItemsOf (.ref t) >>= _) _ E s
  refine wpAny_bind (tupleItemsOf_ ht ?_)
  refine wpAny_bind (wpAny_typeOf hTs ?_)
  rw [if_pos (by decide)]
  refine wpAny_bind (applied_rev hs ?_)
  show wpAny (model prog w) A.in1 (if (((items.size : Int) - 1 == 0 && (-1 : Int) == 1 && items.size == items.size) = true) then _ else _) _ E s
  rw [if_neg (by simp)]
  show wpAny (model prog w) A.in1 (Builtin.Tuple.tupleExact (List.filterMap (fun k : Nat => items[((items.size : Int) - 1 + (k : Int) * -1).toNat]?) (List.range items.size)).toArray >>= _) _ E s
  rw [pick_rev]
  refine wpAny_bind ?_
  unfold Builtin.Tuple.tupleExact
  refine wpAny_newObj_type ?_ (by show items.toList.reverse.toArray.size ≤ sizeLine; simpa using hsz)
  exact wpAny_pure ⟨_, rfl, wpAny_pure h⟩

/-- [::-1] of a list or a tuple -/
def tRev2 (K : PySem.W.Frag) (te : TE) : TE := fun σ H Q => te σ H fun x H1 => ∃ a xs, x = V.ref a ∧ ((SqL K H1 a xs ∧ ∀ p, H1 p = none → Q (V.ref p) (upd H1 p (.lst xs.reverse))) ∨ (SqT K H1 a xs ∧ ∀ p, H1 p = none → Q (V.ref p) (upd H1 p (.tup xs.reverse))))
theorem pe_rev2 {X : Cx} {e : Expr} {te : TE} {k : Nat} {p1 p2 p3 pos : Pos} (he : PE X e te) : PE X (.Subscript e (.Slice none none (some (.UnaryOp .USub (.Constant (.int 1) k p1) p2)) p3) pos) (tRev2 X.K te) :=
  ⟨fun pins s σ H Q I h => Subscript_ (thn (he.run pins s σ H _ I h) fun v s1 ⟨x, H1, I1, r1, q1⟩ => by
    obtain ⟨a, xs, rfl, hx⟩ := q1
    cases r1
    have hst := po_some (pe_un (pos := p2) un_neg (pe_int (X := X) (i := 1) (j := k) (pos := p1)))
    refine wpAny_Slice (thn (po_none.run pins s1 σ H1 (fun o H2 => o = none ∧ H2 = H1) I1 ⟨rfl, rfl⟩) fun vl s2 ⟨l, H2, I2, pl, el, e2⟩ => ?_)
    subst el e2
    refine thn (po_none.run pins s2 σ H2 (fun o H3 => o = none ∧ H3 = H2) I2 ⟨rfl, rfl⟩) fun vu s3 ⟨u, H3, I3, pu, eu, e3⟩ => ?_
    subst eu e3
    refine thn (hst.run pins s3 σ H3 (fun o H4 => o = some (-1) ∧ H4 = H3) I3 ?_) fun vk s4 ⟨o, H4, I4, pk, eo, e4⟩ => ?_
    · exact ⟨1, rfl, -1, rfl, rfl, rfl⟩
    subst eo e4
    cases pl; cases pu; cases pk with
    | int _ tk =>
    have I5 := Inv.kept (t' := s4.toks) I4 fun b ob q => Heap.get?_push_of_some { cls := Value.type "slice", data := Data.fields #[Value.none, Value.none, Value.int (-1) tk] } q
    have hsl := Heap.IsSliceOf.new s4.heap Value.none Value.none (Value.int (-1) tk)
    rcases hx with ⟨hx, q⟩ | ⟨hx, q⟩
    · obtain ⟨its, r1, p1, hz⟩ := I5.list hx
      refine tail_any p1.isList.typeIs slot_list_getitem.lookup (wpAny_getItem_list_slice p1.isList hsl .none .none (.int (-1) tk) (by decide) ?_ (by rw [List.size_toArray, ← r1.length]; exact hz)) rfl
      rw [PySem.W.krv_pick]
      refine ⟨.ref _, upd H4 _ (.lst xs.reverse), I5.laid (fun b u q => Heap.get?_push_of_some _ q) (Nat.le_refl _) ?_, rfl, q _ (I5.hok.fresh (Nat.le_refl _))⟩
      exact ⟨by simpa using hz, its.reverse, _, r1.reverse, Heap.get?_push_size _ (by first | rfl | decide | simp)⟩
    · obtain ⟨its, r1, p1, hz⟩ := I5.tuple hx
      refine tail_any (IsTup.typeIs p1) slot_tuple_getitem.lookup (getItem_tuple_rev p1 hsl ?_ (by rw [List.size_toArray, ← r1.length]; exact hz)) rfl
      refine ⟨.ref _, upd H4 _ (.tup xs.reverse), I5.laid (fun b u q => Heap.get?_push_of_some _ q) (Nat.le_refl _) ?_, rfl, q _ (I5.hok.fresh (Nat.le_refl _))⟩
      exact ⟨by simpa using hz, its.reverse, r1.reverse, IsTup.new _ _⟩)⟩

def rev2W (a : W) (st : Store) : Res W := match a with
  | .tup ws => .ok (.tup ws.reverse) st
  | a => revW a st
section
variable {X : Cx} {ex : Option Exn} {Wx : WX} {pos : Pos} {e : Expr}
theorem ie_rev2 {m : D W} {kk : Nat} {p1 p2 p3 : Pos} (he : IE X ex Wx e m) : IE X ex Wx (.Subscript e (.Slice none none (some (.UnaryOp .USub (.Constant (.int 1) kk p1) p2)) p3) pos) (dUn rev2W m) :=
  PE.of (pe_rev2 he) fun σ H Q ⟨ρ, env, st, s, e, q⟩ => RG.bind s e q fun ρ1 H1 st1 a x g1 s1 e1 ra q1 => by
    unfold rev2W at q1
    split at q1
    · obtain ⟨a1, us, rfl, ht, rs⟩ := tup_of ra
      exact ⟨a1, us, rfl, .inr ⟨ht.sq, post_tup s1 rs.reverse q1⟩⟩
    · unfold revW at q1
      split at q1
      · rename_i ws hs
        obtain ⟨q2, us, rfl, hq, rs⟩ := lstW_of s1 ra hs
        exact ⟨q2, us, rfl, .inl ⟨hq, post_lst s1 rs.reverse q1⟩⟩
      · exact q1.elim
end
/-! ### a tuple, none or one time -/
theorem tup_exact {prog : Program} {w : World} {A : Around} {E : Value → Shared → Prop} {s : Shared} {l : Addr} {items : Array Value} {Q : Bool → Shared → Prop} (ht : IsTup s.heap l items) (h : Q true s) : wpAny (model prog w) A (Builtin.Tuple.tupleIsExact (.ref l)) Q E s := by
  unfold Builtin.Tuple.tupleIsExact
  refine wpAny_bind (wpAny_typeOf (IsTup.typeIs ht) ?_)
  exact wpAny_pure h
theorem as_index {prog : Program} {w : World} {A : Around} {E : Value → Shared → Prop} {s : Shared} {i : Int} {tk : Tok} {Q : Int → Shared → Prop} (h : Q i s) : wpAny (model prog w) A (asIndex (.int i tk)) Q E s := by
  unfold asIndex
  exact wpAny_pure h
theorem rule_ok {prog : Program} {w : World} {A : Around} {E : Value → Shared → Prop} {s : Shared} {x : String} {Q : Unit → Shared → Prop} (h : Q () s) : wpAny (model prog w) A (rule x) Q E s := by
  first | exact wpAny_rule h | exact PySem.wpAny_rule h | (unfold rule; exact wpAny_of_eq rfl h)
theorem tup_mul1 {prog : Program} {w : World} {A : Around} {E : Value → Shared → Prop} {s : Shared} {l : Addr} {items : Array Value} {tk : Tok} {Q : Value → Shared → Prop} (ht : IsTup s.heap l items) (h : Q (.ref l) s) : wpAny (model prog w) A (call (.builtin "tuple.__mul__") [.ref l, .int 1 tk]) Q E s := by
  refine wpAny_call_entry F.slot_tuple_mul (IsTup.typeIs ht) F.entry_tuple_mul ?_ (F.args_tuple_mul_2 _ _)
  show wpAny (model prog w) A.in1 (asIndex (.int 1 tk) >>= _) _ E s
  refine wpAny_bind (as_index ?_)
  simp only []
  rw [if_neg (by decide)]
  refine wpAny_bind (tupleItemsOf_ ht ?_)
  rw [if_pos (by simp)]
  refine wpAny_bind (tup_exact ht ?_)
  rw [if_pos rfl]
  refine wpAny_bind (rule_ok ?_)
  exact wpAny_pure ⟨_, rfl, h⟩
theorem tup_mul0 {prog : Program} {w : World} {A : Around} {E : Value → Shared → Prop} {s : Shared} {l : Addr} {items : Array Value} {tk : Tok} {Q : Value → Shared → Prop} (ht : IsTup s.heap l items) (hne : items.isEmpty = false) (h : Q (.ref s.heap.objs.size) { s with heap := s.heap.push { cls := .type "tuple", data := .seq #[] } }) : wpAny (model prog w) A (call (.builtin "tuple.__mul__") [.ref l, .int 0 tk]) Q E s := by
  refine wpAny_call_entry F.slot_tuple_mul (IsTup.typeIs ht) F.entry_tuple_mul ?_ (F.args_tuple_mul_2 _ _)
  show wpAny (model prog w) A.in1 (asIndex (.int 0 tk) >>= _) _ E s
  refine wpAny_bind (as_index ?_)
  simp only []
  rw [if_neg (by decide)]
  refine wpAny_bind (tupleItemsOf_ ht ?_)
  rw [if_neg (by rw [hne]; decide), if_pos (by simp)]
  unfold Builtin.Tuple.tupleExact
  refine wpAny_bind (wpAny_newObj_type ?_ (by show (#[] : Array Value).size ≤ sizeLine; decide))
  exact wpAny_pure ⟨_, rfl, h⟩

def rRep01 (K : PySem.W.Frag) : R2 := fun x y H Q => ∃ (l : Addr) (k : Int) (xs : List V), x = .ref l ∧ y = .int k ∧ SqT K H l xs ∧ xs ≠ [] ∧ ((k = 1 ∧ Q (.ref l) H) ∨ (k = 0 ∧ ∀ p, H p = none → Q (.ref p) (upd H p (.tup []))))
theorem op_rep01 {X : Cx} : OpR X (binaryOp .Mult) (rRep01 X.K) := by
  intro pins s σ H x y v u Q I rx ry h
  obtain ⟨l, k, xs, rfl, rfl, hT, hne, h⟩ := h
  cases rx
  obtain ⟨t, rfl⟩ := ry
  obtain ⟨its, r, ht, hs⟩ := I.tuple hT
  have ht' := ht
  obtain ⟨⟨cls, dd, data, sl⟩, ho, hc, n, hd⟩ := ht'
  simp only at hc hd
  subst hc hd
  refine wpAny_binaryOp_repeat_ref (T := "tuple") (U := "int") (by decide) (IsTup.typeIs ht) (fun s' => typeIs_int _ _ _) noFill_tuple_mul F.fills_int_mul F.slot_int_rmul repeat_tuple F.slot_int_index.lookup ?_
  refine call_meets F.slot_int_rmul (typeIs_int _ _ _) F.entry_int_rmul (F.args_int_rmul_2 _ _) (int_rmul_tuple k t l its.toArray n dd sl) ⟨ho, ?_⟩
  refine ⟨rfl, IsTup.typeIs ht, ?_⟩
  rcases h with ⟨rfl, q⟩ | ⟨rfl, q⟩
  · exact tup_mul1 ht ⟨.ref l, H, I, rfl, q⟩
  · refine tup_mul0 ht ?_ ⟨.ref _, upd H _ (.tup []), I.laid (fun b u q => Heap.get?_push_of_some _ q) (Nat.le_refl _) ⟨by simp, [], .nil, IsTup.new _ _⟩, rfl, q _ (I.hok.fresh (Nat.le_refl _))⟩
    cases its with
    | nil => cases r; exact absurd rfl hne
    | cons a l => rfl
def mulTW (a b : W) (st : Store) : Res W := match a, b with
  | .tup ws, .int k => if ws ≠ [] ∧ k = 1 then .ok (.tup ws) st else if ws ≠ [] ∧ k = 0 then .ok (.tup []) st else .stuck
  | _, _ => .stuck
section
variable {X : Cx} {ex : Option Exn} {Wx : WX} {a b : Expr} {ma mb : D W} {pos : Pos}
theorem mulT_ok : OpOk X (rRep01 X.K) mulTW := fun Wx ρ H st σ a b x y Q s ra rb p => by
  unfold mulTW at p
  split at p
  · rename_i ws k
    obtain ⟨d1, xs, rfl, ht, rs⟩ := tup_of ra
    have hn : ws ≠ [] → xs ≠ [] := fun h e => by
      have := VRs.length rs
      rw [e] at this
      exact h (List.eq_nil_of_length_eq_zero this)
    split at p
    · rename_i hk
      rw [int_of rb]
      obtain ⟨h1, rfl⟩ := hk
      exact ⟨d1, 1, xs, rfl, rfl, ht.sq, hn h1, .inl ⟨rfl, p.ok_ s (by simp only [VR]; exact ⟨d1, xs, rfl, ht, rs⟩)⟩⟩
    · split at p
      · rename_i hk
        rw [int_of rb]
        obtain ⟨h1, rfl⟩ := hk
        exact ⟨d1, 0, xs, rfl, rfl, ht.sq, hn h1, .inr ⟨rfl, post_tup s (by simp [VRs]) p⟩⟩
      · exact p.elim
  · exact p.elim
theorem ie_mulT (ha : IE X ex Wx a ma) (hb : IE X ex Wx b mb) : IE X ex Wx (.BinOp a .Mult b pos) (dOp mulTW ma mb) := ie_op op_rep01 mulT_ok ha hb
end
end
end MP
/-! sorted by a key: tuples, also empty ones -/
namespace MPS
open PySem PySem.Calls PyProof.Rows PySem.W PySem.SeqAt
section
variable {prog : Program} {w : World} {A : Around} {E : Value → Shared → Prop} {s : Shared}
theorem call_tuple_lt {Q : Value → Shared → Prop} {l b : Addr} {items items2 : Array Value} {e r : Nat → Bool} (hl : s.heap.IsTuple l items) (hb : s.heap.IsTuple b items2)
    (he : ∀ j (h1 : j < items.size) (h2 : j < items2.size), EqAt A.in1 s items[j] items2[j] (e j)) (hr : ∀ j (h1 : j < items.size) (h2 : j < items2.size), e j = false → RcLt A.in1 s items[j] items2[j] (r j))
    (h : Q (.bool (firstLt e r (decide (items.size < items2.size)) (List.range (min items.size items2.size)))) s) : wpAny (model prog w) A (call (.builtin "tuple.__lt__") [.ref l, .ref b]) Q E s := by
  obtain ⟨⟨cls, dd, data, sl⟩, ho, hc, n, hd⟩ := id hl
  obtain ⟨⟨cls2, dd2, data2, sl2⟩, ho2, hc2, n2, hd2⟩ := id hb
  simp only at hc hd hc2 hd2
  subst hc hd hc2 hd2
  exact call_meets F.slot_tuple_lt ⟨_, ho, rfl⟩ F.entry_tuple_lt (F.args_tuple_lt_2 _ _) (tuple_ltAt l b items items2 n n2 dd dd2 sl sl2 e r) ⟨ho, ho2, he, hr, h⟩
theorem oneLt_tup {f : Bool} {xs ys : List PyData} {a b : Value} {as bs : List Addr} {Q : Bool → Shared → Prop} (ra : Reads s.heap a (.tuple xs) as) (rb : Reads s.heap b (.tuple ys) bs) (h : alike (.tuple xs) (.tuple ys) = true)
    (hu : A.units + min (PyData.tuple xs).depth (PyData.tuple ys).depth < cLine) (hq : Q (dataLt (.tuple xs) (.tuple ys)) s) : wpAny (model prog w) A (oneLt' f a b) Q E s := by
  cases f with
  | false => exact oneLt_alike (fun z => nomatch z) ra rb h (fun z => nomatch z) hu hq
  | true =>
    have hal : alikeAll xs ys = true := by simpa [alike] using h
    cases ra with
    | @tuple l o vs n _ as₁ h1 h2 h3 h4 =>
      cases rb with
      | @tuple l' o' vs' n' _ bs₁ k1 k2 k3 k4 =>
        have n1 : vs.size = xs.length := by simpa using ReadsAll.length _ _ _ h4
        have n2 : vs'.size = ys.length := by simpa using ReadsAll.length _ _ _ k4
        rw [dataLt_tuple, ← firstLt_toks xs ys hal, ← n1, ← n2] at hq
        rw [oneLt'_eq]
        simp only [if_true]
        refine wpAny_bind (wpAny_cRoomFor (room_here hu) ?_)
        refine wpAny_bind (wpAny_callSpecialIfBound?_slot (T := "tuple") ⟨_, h1, h2⟩ F.slot_tuple_lt (call_tuple_lt (e := pairEq xs ys) (r := fun j => dataLt (xs.getD j .none) (ys.getD j .none)) ⟨_, h1, h2, _, h3⟩ ⟨_, k1, k2, _, k3⟩ (fun j j1 j2 => ?_) (fun j j1 j2 hj => ?_) ?_))
        · have := eqAt_alikeAll xs ys A.in1 s vs.toList vs'.toList _ _ h4 k4 hal (room_in hu) j (by simpa using j1) (by simpa using j2)
          simpa using this
        · have := rcLt_alikeAll xs ys A.in1 s vs.toList vs'.toList _ _ h4 k4 hal (room_in hu) j (by simpa using j1) (by simpa using j2) hj
          simpa using this
        · exact wpAny_truthy_bool hq
end
def neT : PyData → Bool
  | .tuple (_ :: _) => true
  | _ => false
def allT (ds : List PyData) : Prop := ∀ d ∈ ds, ∃ xs, d = .tuple xs
section
variable {M : Model} {A : Around} {E : Value → Shared → Prop} {s : Shared}
theorem firsts_any : ∀ (vs : List Value) (ds : List PyData) {Q : List (Option Value) → Shared → Prop}, EachIs (fun v d => ∃ as, Reads s.heap v d as) vs ds → allT ds → (∀ fs : List (Option Value), fs.map (·.isSome) = ds.map neT → Q fs s) → wpAny M A (vs.mapM firstOfTuple') Q E s
  | _, _, Q, .nil, _, h => by rw [List.mapM_nil]; exact wpAny_pure (h [] rfl)
  | v :: vs, d :: ds, Q, .cons r e, ht, h => by
    obtain ⟨xs, rfl⟩ := ht d List.mem_cons_self
    obtain ⟨as, r⟩ := r
    cases r with
    | @tuple l o its n _ as₁ h1 h2 h3 h4 =>
      have n1 : its.size = xs.length := by simpa using ReadsAll.length _ _ _ h4
      rw [List.mapM_cons]
      refine wpAny_bind ?_
      rw [kas_first_eq]
      refine wpAny_bind (Looks.here (show Looks M s.heap (typeOf (.ref l)) o.cls from (Looks.ld h1).andThen .now) ?_)
      rw [h2, if_neg (by first | decide | simp)]
      refine wpAny_bind (listItems_at h1 h3 (wpAny_pure ?_))
      refine wpAny_bind (firsts_any vs ds (Q := fun bs s' => wpAny M A (pure (its[0]? :: bs)) Q E s') e (fun d hd => ht d (List.mem_cons_of_mem _ hd)) fun fs hfs => wpAny_pure (h _ ?_))
      rw [List.map_cons, List.map_cons, hfs]
      congr 1
      cases xs with
      | nil =>
        have : its.size = 0 := n1
        rw [Array.getElem?_eq_none (by omega)]; rfl
      | cons x r =>
        have : 0 < its.size := by rw [n1]; exact Nat.zero_lt_succ _
        rw [Array.getElem?_eq_getElem this]; rfl
def kdT (ds : List PyData) : SortKind := if neT (ds.headD .none) = true then general' else oneType'
theorem kind_tups {vs : List Value} {ds : List PyData} {Q : SortKind → Shared → Prop} (e : EachIs (fun v d => ∃ as, Reads s.heap v d as) vs ds) (ht : allT ds) (hn : ds.all neT = false) (h2 : 2 ≤ vs.length) (h : Q (kdT ds) s) : wpAny M A (keyKind' vs.toArray) Q E s := by
  have hlen := e.length
  obtain ⟨v₁, vr, rfl⟩ : ∃ v₁ vr, vs = v₁ :: vr := by
    match vs, h2 with
    | v₁ :: vr, _ => exact ⟨v₁, vr, rfl⟩
  obtain ⟨d₁, dr, rfl⟩ : ∃ d₁ dr, ds = d₁ :: dr := by
    match ds, hlen with
    | d₁ :: dr, _ => exact ⟨d₁, dr, rfl⟩
  rw [kat_kind_eq, List.mapM_toArray, map_eq_pure_bind]
  refine wpAny_bind (wpAny_bind (firsts_any _ _ e ht fun fs hfs => wpAny_pure ?_))
  obtain ⟨f₁, fr, rfl⟩ : ∃ f₁ fr, fs = f₁ :: fr := by
    match fs, hfs with
    | f₁ :: fr, _ => exact ⟨f₁, fr, rfl⟩
  have hall : ((f₁ :: fr).toArray.all fun x => x.isSome) = false := by
    have : ((f₁ :: fr).map (·.isSome)).all id = false := by
      rw [hfs, List.all_map]; exact hn
    rw [List.all_map] at this
    simpa using this
  rw [if_neg (by rw [hall]; simp)]
  have h1 : f₁.isSome = neT d₁ := by
    simp only [List.map_cons, List.cons.injEq] at hfs
    exact hfs.1
  have h0 : (((f₁ :: fr).toArray[0]?).bind id).isSome = neT d₁ := by
    simp [h1]
  rw [h0]
  unfold kdT at h
  have hh : (d₁ :: dr).headD .none = d₁ := rfl
  rw [hh] at h
  cases q : neT d₁ with
  | true =>
    rw [q] at h
    rw [if_pos rfl] at h ⊢
    exact wpAny_pure h
  | false =>
    rw [q] at h
    rw [if_neg (by simp)] at h ⊢
    have hT : ∀ v ∈ v₁ :: vr, Looks M s.heap (typeOf v) (Value.type "tuple") := fun v hv => by
      obtain ⟨d, hd, as, r⟩ := e.left v hv
      obtain ⟨xs, rfl⟩ := ht d hd
      exact looks_reads r
    rw [oneTypeOnly'_eq, List.mapM_toArray, map_eq_pure_bind]
    refine wpAny_bind (wpAny_bind (wpAny_bind (kas_mapM (r := Value.type "tuple") _ (fun v hv Q' hq => (hT v hv).here hq) (wpAny_pure ?_))))
    have hall2 : ((List.map (fun _ => Value.type "tuple") (v₁ :: vr)).toArray.all fun x => x == Value.type "tuple") = true := by
      simp only [List.all_toArray, List.all_map, List.all_eq_true]
      intro _ _
      exact beq_self_eq_true _
    have h0 : (List.map (fun _ => Value.type "tuple") (v₁ :: vr)).toArray[0]? = some (Value.type "tuple") := by simp
    rw [h0]
    simp only [hall2, if_true]
    exact wpAny_pure (wpAny_pure h)
end
section
variable {prog : Program} {w : World} {A : Around} {s : Shared}
theorem sorts_tups {vs : List Value} {ds : List PyData} (e : EachIs (fun v d => ∃ as, Reads s.heap v d as) vs ds) (hal : AllAlike ds) (ht : allT ds) (hu : ∀ d, d ∈ ds → A.units + d.depth < cLine) : SortsAt prog w A s (dataKind s.heap ds) vs := by
  by_cases hn : ds.all neT = true
  · refine SortsAt.data e hal (.inl fun d hd => ?_) hu
    have := List.all_eq_true.mp hn d hd
    match d, this with
    | .tuple (x :: r), _ => exact ⟨x, r, rfl⟩
  · have hn : ds.all neT = false := by simpa using hn
    refine ⟨fun v hv => ?_, kdT ds, ?_, fun h2 E Q hq => kind_tups e ht hn h2 hq⟩
    · obtain ⟨d, hd, as, r⟩ := e.left v hv
      exact ⟨_, dataKind_some hal hd r⟩
    · intro E x y a b Q ha hb hq
      obtain ⟨d, as, hd, ra, rfl⟩ := dataKind_inv ha
      obtain ⟨d', as', hd', rb, rfl⟩ := dataKind_inv hb
      have hroom : A.units + min d.depth d'.depth < cLine := Nat.lt_of_le_of_lt (Nat.add_le_add_left (Nat.min_le_left _ _) _) (hu d hd)
      have hdd := hal d hd d' hd'
      obtain ⟨xs, rfl⟩ := ht d hd
      obtain ⟨ys, rfl⟩ := ht d' hd'
      unfold kdT
      split
      · exact oneLt_tup (f := false) ra rb hdd hroom hq
      · rw [keyLt'_oneType]
        exact oneLt_tup (f := true) ra rb hdd hroom hq
def SortsE (ds : List PyData) : Prop := Sortable ds ∨ allT ds
theorem sorts_any {vs : List Value} {ds : List PyData} (e : EachIs (fun v d => ∃ as, Reads s.heap v d as) vs ds) (hal : AllAlike ds) (hk : SortsE ds) (hu : ∀ d, d ∈ ds → A.units + d.depth < cLine) : SortsAt prog w A s (dataKind s.heap ds) vs := by
  rcases hk with hk | hk
  · exact SortsAt.data e hal hk hu
  · exact sorts_tups e hal hk hu
end
end MPS
namespace MPS
open PySem PySem.Calls PyProof.Rows PySem.W PySem.SeqAt
/-- the heap behind a sort: the keys' list is emptied, the list has what is sorted -/
def finHeap (h : Heap) (a kS : Addr) (out : List Value) : Heap := (h.update kS (Obj.mapSeq fun _ => (#[] : Array Value))).update a (Obj.mapSeq fun _ => out.toArray)
section
variable {prog : Program} {w : World} {A : Around} {E : Value → Shared → Prop} {s : Shared} {a kS : Addr} {vs : List Value} {keys : Array Value} {e e1 : Nat} {P : PySem.Fin → Shared → Prop}
theorem keyI_tail {st : SortSt} {out : List Value} (nk : s.heap.get? kS = some (seqObj "list" keys e)) (na : s.heap.get? a = some (seqObj "list" #[] e1)) (hka : kS ≠ a)
    (hsz : keys.size ≤ sizeLine) (hz : out.length ≤ sizeLine) (hfl : failedOf st = none) (ho : (arrOf st).map (·.2) = out.toArray)
    (h : ∀ c, (finHeap s.heap a kS out).get? a = some (seqObj "list" out.toArray c) → P (.done (.ret .none)) { s with heap := finHeap s.heap a kS out }) :
    wpAny (model prog w) A (ksk_tail a false e1 (.ref kS) st) P E s := by
  have s1 := Heap.SameBut.update s.heap kS (Obj.mapSeq fun _ => (#[] : Array Value))
  have na1 : (s.heap.update kS (Obj.mapSeq fun _ => (#[] : Array Value))).get? a = some (seqObj "list" #[] e1) := (s1.2 a hka.symm).trans na
  obtain ⟨c2, hc2⟩ : ∃ c2, ((s.heap.update kS (Obj.mapSeq fun _ => (#[] : Array Value))).update a (Obj.mapSeq fun _ => out.toArray)).get? a = some (seqObj "list" out.toArray c2) :=
    ⟨_, get?_update_seq na1 fun _ => out.toArray⟩
  have hz2 : out.toArray.size ≤ sizeLine + 1 := by
    rw [List.size_toArray]
    exact Nat.le_succ_of_le hz
  unfold ksk_tail
  try dsimp only
  simp only [Bool.false_eq_true, if_false]
  rw [ho]
  refine wpAny_bind (listUpdate_at nk rfl ?_ hsz (Nat.zero_le _))
  refine wpAny_bind (wpAny_letGo ?_)
  refine wpAny_bind (seqEpoch_at na1 rfl ?_)
  refine wpAny_bind (listUpdate_at na1 rfl ?_ (Nat.zero_le _) hz2)
  rw [hfl]
  simp only [bne_self_eq_false, Bool.false_eq_true, if_false]
  exact wpAny_pure (h c2 hc2)
theorem keyI_end {κ : PyProof.Rows.KeyKind} (nk : s.heap.get? kS = some (seqObj "list" keys e)) (na : s.heap.get? a = some (seqObj "list" #[] e1)) (hka : kS ≠ a)
    (S : SortsAt prog w A s κ keys.toList) (hsz : keys.size = vs.length) (hZ : vs.length ≤ sizeLine)
    (h : ∀ c, (finHeap s.heap a kS (sortVals κ false keys.toList vs)).get? a = some (seqObj "list" (sortVals κ false keys.toList vs).toArray c) → P (.done (.ret .none)) { s with heap := finHeap s.heap a kS (sortVals κ false keys.toList vs) }) :
    wpAny (model prog w) A (ksk_end a false vs.toArray e1 (.ref kS) keys) P E s := by
  obtain ⟨kd, h1, h2⟩ := S.kind
  have hkl : keys.toList.length = vs.length := by
    rw [Array.length_toList]
    exact hsz
  have hK : PyProof.Rows.KeysOf κ (keys.zip vs.toArray) := keysOf_zip S.keys
  have hol : (sortVals κ false keys.toList vs).length = vs.length := sortVals_length false hkl
  have hss : (keys.zip vs.toArray).size = vs.length := by rw [Array.size_zip, hsz, List.size_toArray, Nat.min_self]
  have fin : ∀ st' : SortSt, (arrOf st').Perm (keys.zip vs.toArray) → SortedToK κ (arrOf st') (keys.zip vs.toArray).size →
      Stable κ (arrOf st') (keys.zip vs.toArray) → (arrOf st').map (·.2) = (sortVals κ false keys.toList vs).toArray := by
    intro st' hp hs ht
    have e := sort_out (rev := false) (keys := keys) (items := vs.toArray) (xs := arrOf st') (κ := κ) hK (by simpa using hp) (by simpa using hs) (by simpa using ht)
    have e' := congrArg List.toArray e
    rw [Array.toArray_toList] at e'
    simpa using e'
  unfold ksk_end
  try dsimp only
  simp only [Bool.false_eq_true, if_false]
  by_cases hl2 : vs.toArray.size < 2
  · rw [if_pos hl2, if_pos hl2]
    refine wpAny_bind (wpAny_pure ?_)
    rw [StateT.run_pure]
    refine wpAny_bind (wpAny_pure ?_)
    try dsimp only
    refine keyI_tail (st := SortSt.mk' general' (keys.zip vs.toArray) #[] 7 none) nk na hka (by rw [hsz]; exact hZ) (by rw [hol]; exact hZ) rfl (fin _ (Array.Perm.refl _) ?_ (Stable.refl _)) h
    intro i j hij hj
    rw [hss] at hj
    rw [List.size_toArray] at hl2
    have : i = j := by omega
    subst this
    exact KeyOrd.kle_refl _
  · rw [if_neg hl2, if_neg hl2]
    rw [List.size_toArray] at hl2
    refine wpAny_bind (h2 (by omega) _ ?_)
    refine wpAny_bind (wpAny_mono (H.wpS_sortRunsSt (κ := κ) (kd := kd) (a₀ := keys.zip vs.toArray)
      (st := SortSt.mk' kd (keys.zip vs.toArray) #[] 7 none)
      (Q := fun _ st' => failedOf st' = none ∧ (arrOf st').map (·.2) = (sortVals κ false keys.toList vs).toArray)
      h1 hK ⟨Array.Perm.refl _, rfl, rfl⟩ rfl (Stable.refl _) (by rw [hss]; omega) fun st' a1 a2 a3 a4 => ⟨a2, fin st' a1 a3 a4⟩) ?_ fun _ _ e => e)
    rintro ⟨⟨⟩, st'⟩ s' ⟨rfl, hf, ho⟩
    try dsimp only at ho ⊢
    exact keyI_tail nk na hka (by rw [hsz]; exact hZ) (by rw [hol]; exact hZ) hf ho h
end
end MPS
namespace MP
open PySem PySem.Spec PyProof.Rows L2 MPS
open PySem.W (AllAlike SortsAt KeyedOut dataKind dataLe EachIs sortVals)
section
variable {X : Cx} {pins : List (Addr × Obj)} {σ : L2.St} {H : Hp} {s : Shared} {ρ : List Addr} {st : Store}
/-- an object that stands is tracked from now on -/
theorem Inv.track {a : Addr} {o : HO} (I : L2.Inv X pins σ H s) (f : FpOk X pins H a) (new : ObjOk X.prog X.w (upd H a o) s.heap a o) : L2.Inv X pins σ (upd H a o) s := by
  obtain ⟨hn, hL, hfs, hex, hc, hp⟩ := f
  have ne : ∀ b u, H b = some u → b ≠ a := fun b u e z => by rw [z, hn] at e; cases e
  refine I.step (h' := s.heap) (g' := s.gens) (d' := s.drawn) (t' := s.toks) (ch := [a]) (fun b hb => ?_) (fun b o _ _ _ e _ => e) (fun b o _ _ _ e _ => ⟨o.slots, e⟩) (fun b o hb _ n => ?_) (fun b o _ e => ⟨o, e⟩)
    (fun b xs e => by rw [upd_ne (ne b _ e)]; exact e) (fun b o u e => by rw [upd_ne (ne b _ e)]; exact e) (fun b ps e => ⟨#[], by rw [upd_ne (ne b _ e)]; simpa using e⟩) (fun m hm => hm) (fun b u e => ?_) I.bare
  · have e : b = a := by simpa using hb
    subst e
    exact ⟨hex, hL, hc, hp⟩
  · rw [upd_ne (fun z : b = a => hb (by simp [z]))]; exact n
  · by_cases hb : b = a
    · subst hb
      rw [upd_same] at e; cases e
      exact new
    · rw [upd_ne hb] at e
      refine (I.hok b u e).stay (fun c v _ q => q) (fun c q => by rw [upd_ne (ne c _ q)]; exact q) fun c xs q => by rw [upd_ne (ne c _ q)]; exact q
theorem each_reads (I : L2.Inv X pins σ H s) (S : StR X.K ρ H st) : ∀ {ks : List W} {xs : List V} {us : List Value} {ds : List PyData}, VRs X.K ρ H ks xs → Vals xs us → ks.map (datF st 66) = ds.map some → EachIs (fun v d => ∃ as, Reads s.heap v d as) us ds
  | [], xs, us, ds, r, e, h => by
    simp only [VRs] at r
    subst r
    cases e
    cases ds with
    | nil => exact .nil
    | cons d ds => simp at h
  | k :: ks, xs, us, ds, r, e, h => by
    simp only [VRs] at r
    obtain ⟨x, xs', rfl, r1, rs⟩ := r
    cases e with
    | cons e1 es =>
      cases ds with
      | nil => simp at h
      | cons d ds =>
        simp only [List.map_cons, List.cons.injEq] at h
        obtain ⟨as, R⟩ := L2.Dp.reads I d x _ (datF_dp S 66 k x d r1 h.1) e1
        exact .cons ⟨as, R⟩ (each_reads I S rs es h.2)
theorem keyI_rest {f : Value} {vs : List Value} {ks : List W} {dk : List PyData} {a kS : Addr} {e1 : Nat} {A : Around} {P : PySem.Fin → Shared → Prop} {E : Value → Shared → Prop} (I : L2.Inv X pins σ H s) (S : StR X.K ρ H st)
    (fa : FpOk X pins H a) (fk : FpOk X pins H kS) (nk : s.heap.get? kS = some (seqObj "list" #[] 0)) (na : s.heap.get? a = some (seqObj "list" #[] e1)) (hka : kS ≠ a)
    (hlen : ks.length = vs.length) (hZ : vs.length ≤ sizeLine)
    (turn : ∀ (i : Nat) (u : Value) (k : W), vs[i]? = some u → ks[i]? = some k → ∀ (pins' : List (Addr × Obj)) (s' : Shared) (ρ' : List Addr) (H' : Hp), L2.Inv X pins' σ H' s' → Grow ρ H ρ' H' → StR X.K ρ' H' st →
      wpAny (model X.prog X.w) A (call f [u]) (fun v s'' => ∃ x ρ'' H'', L2.Inv X pins' σ H'' s'' ∧ Grow ρ' H' ρ'' H'' ∧ StR X.K ρ'' H'' st ∧ RelV x v ∧ VR X.K ρ'' H'' k x) (fun _ _ => False) s')
    (hd : ks.map (datF st 66) = dk.map some) (hal : AllAlike dk) (hsk : SortsE dk) (hu : ∀ d, d ∈ dk → A.units + d.depth < cLine)
    (fin : ∀ (s' : Shared) (ρ' : List Addr) (H' : Hp) (out : List Value) (c : Nat), L2.Inv X pins σ H' s' → Grow ρ H ρ' H' → StR X.K ρ' H' st → FpOk X pins H' a → s'.heap.get? a = some (seqObj "list" (List.toArray out) c) → KeyedOut false dk vs out → P (.done (.ret .none)) s') :
    wpAny (model X.prog X.w) A (ksk_rest a f false vs.toArray e1 (.ref kS)) P E s := by
  unfold ksk_rest
  refine wpAny_bind (wpAny_rule ?_)
  first
    | rw [List.forIn_toArray]
    | (rw [← Array.forIn_toList]; simp only [List.toList_toArray])
    | rw [← Array.forIn_toList]
  refine wpAny_bind (ksk_fold (fun i s' => ∃ ρ' H' kA e xs, L2.Inv X pins σ H' s' ∧ Grow ρ H ρ' H' ∧ StR X.K ρ' H' st ∧ H' a = none ∧ H' kS = none ∧ s'.heap.get? kS = some (seqObj "list" kA e) ∧ s'.heap.get? a = some (seqObj "list" #[] e1) ∧ Vals xs kA.toList ∧ VRs X.K ρ' H' (ks.take i) xs) vs 0 s
    ⟨ρ, H, #[], 0, [], I, .refl, S, fa.1, fk.1, nk, na, .nil, by simp [VRs]⟩ ?step ?done)
  case step =>
    rintro j x s' hx ⟨ρ', H', kA, e, xs, I', g', S', ha', hk', nk', na', rv, rs⟩
    simp only [Nat.zero_add] at rs ⊢
    have hj : j < vs.length := (List.getElem?_eq_some_iff.mp hx).1
    obtain ⟨k, hkj⟩ : ∃ k, ks[j]? = some k := ⟨_, List.getElem?_eq_getElem (by omega)⟩
    have hz : kA.size ≤ vs.length := by
      have h1 := VRs.length rs
      have h2 : xs.length = kA.toList.length := Vals.length rv
      have h3 : kA.toList.length = kA.size := by simp
      rw [List.length_take] at h1
      omega
    have Ip : L2.Inv X (pins ++ [(kS, seqObj "list" kA e), (a, seqObj "list" #[] e1)]) σ H' s' := I'.pins_of fun p hp => by
      rcases List.mem_append.mp hp with hp | hp
      · exact I'.pin p (List.mem_append_right _ hp)
      · simp only [List.mem_cons, List.not_mem_nil, or_false] at hp
        rcases hp with rfl | rfl
        · exact ⟨nk', hk', fk.2.1, fk.2.2.1, fun v z => nomatch z⟩
        · exact ⟨na', ha', fa.2.1, fa.2.2.1, fun v z => nomatch z⟩
    refine wpAny_bind (wpAny_attempt (wpAny_mono (turn j x k hx hkj _ s' ρ' H' Ip g' S') (fun v s'' he => ?_) fun _ _ hF => hF.elim))
    obtain ⟨y, ρ2, H2, I2, g2, S2, ry, rk⟩ := he
    try dsimp only
    obtain ⟨nk2, hk2, _⟩ := I2.pin (kS, seqObj "list" kA e) (List.mem_append_right _ (List.mem_append_right _ (by simp)))
    obtain ⟨na2, ha2, _⟩ := I2.pin (a, seqObj "list" #[] e1) (List.mem_append_right _ (List.mem_append_right _ (by simp)))
    have I2 : L2.Inv X pins σ H2 s'' := I2.unpinned
    have s1 := Heap.SameBut.update s''.heap kS (Obj.mapSeq (·.push v))
    obtain ⟨c2, hc2⟩ : ∃ c2, (s''.heap.update kS (Obj.mapSeq (·.push v))).get? kS = some (seqObj "list" (kA.push v) c2) := ⟨_, get?_update_seq nk2 (·.push v)⟩
    have ek : ks.take (j + 1) = ks.take j ++ [k] := by rw [List.take_add_one, hkj]; simp
    have ea : (kA.push v).toList = kA.toList ++ [v] := by simp
    refine wpAny_bind (listUpdate_at nk2 rfl ?_ (Nat.le_trans hz hZ) (Nat.le_trans (Nat.le_of_eq (Array.size_push ..)) (Nat.succ_le_succ (Nat.le_trans hz hZ))))
    have I3 := I2.turned (t' := s''.toks) (h' := s''.heap.update kS (Obj.mapSeq (·.push v))) (it := kS) (fun b o hb q => (s1.2 b hb).trans q) hk2 fk.2.1 fk.2.2.2.1 fk.2.2.2.2.1 fk.2.2.2.2.2
    refine wpAny_pure ⟨rfl, ρ2, H2, kA.push v, c2, xs ++ [y], I3, g'.trans g2, S2, ha2, hk2, hc2, (s1.2 a hka.symm).trans na2, ?_, ?_⟩
    · rw [ea]; exact rv.append (.cons ry .nil)
    · rw [ek]; exact (VRs.grow S'.apart g2 _ _ rs).append (.one rk)
  case done =>
    rintro s' ⟨ρ', H', kA, e, xs, I', g', S', ha', hk', nk', na', rv, rs⟩
    have e3 : ks.take (0 + vs.length) = ks := List.take_of_length_le (by omega)
    rw [e3] at rs
    have er := each_reads I' S' rs rv hd
    have hsz : kA.size = vs.length := by
      have h1 := VRs.length rs
      have h2 : xs.length = kA.toList.length := Vals.length rv
      have h3 : kA.toList.length = kA.size := by simp
      omega
    try dsimp only
    refine wpAny_bind (listItems_at nk' rfl ?_)
    refine keyI_end (κ := dataKind s'.heap dk) nk' na' hka (sorts_any er hal hsk hu) hsz hZ fun c n3 => ?_
    have s1 := Heap.SameBut.update s'.heap kS (Obj.mapSeq fun _ => (#[] : Array Value))
    have s2 := Heap.SameBut.update (s'.heap.update kS (Obj.mapSeq fun _ => (#[] : Array Value))) a (Obj.mapSeq fun _ => (sortVals (dataKind s'.heap dk) false kA.toList vs).toArray)
    have I1 := I'.turned (t' := s'.toks) (h' := s'.heap.update kS (Obj.mapSeq fun _ => (#[] : Array Value))) (it := kS) (fun b o hb q => (s1.2 b hb).trans q) hk' fk.2.1 fk.2.2.2.1 fk.2.2.2.2.1 fk.2.2.2.2.2
    have I2 := I1.turned (t' := s'.toks) (h' := finHeap s'.heap a kS (sortVals (dataKind s'.heap dk) false kA.toList vs)) (it := a) (fun b o hb q => (s2.2 b hb).trans q) ha' fa.2.1 fa.2.2.2.1 fa.2.2.2.2.1 fa.2.2.2.2.2
    exact fin _ ρ' H' _ c I2 g' S' ⟨ha', fa.2⟩ n3 ⟨s'.heap, kA.toList, hal, rfl, er⟩
end
end MP
namespace MP
open PySem PySem.Spec PyProof.Rows L2 MPS
open PySem.W (AllAlike SortsAt KeyedOut dataKind dataLe EachIs sortVals copyHeap copyHeap_at copyHeap_old sortingHeap sortingHeap_old)
open Classical
noncomputable section
section
variable {X : Cx} {pins : List (Addr × Obj)} {σ : L2.St} {H : Hp} {s : Shared} {ρ : List Addr} {st : Store}
theorem each_vrs {β : Type} {g : β → W} : ∀ {us : List Value} {bs : List β}, EachIs (fun u b => ∃ x, RelV x u ∧ VR X.K ρ H (g b) x) us bs → ∃ xs, Vals xs us ∧ VRs X.K ρ H (bs.map g) xs
  | _, _, .nil => ⟨[], .nil, by simp [VRs]⟩
  | _, _, .cons ⟨x, rx, vx⟩ e => by
    obtain ⟨xs, r, v⟩ := each_vrs e
    exact ⟨x :: xs, .cons rx r, VRs.cons' vx v⟩
theorem each_of {δ : Type} : ∀ {ws : List W} {xs : List V} {us : List Value} {ds : List δ}, VRs X.K ρ H ws xs → Vals xs us → ds.length = ws.length → EachIs (fun u (p : W × δ) => ∃ x, RelV x u ∧ VR X.K ρ H p.1 x) us (ws.zip ds)
  | [], xs, us, ds, r, e, _ => by
    simp only [VRs] at r
    subst r
    cases e
    exact .nil
  | w :: ws, xs, us, [], r, e, h => by simp at h
  | w :: ws, xs, us, d :: ds, r, e, h => by
    simp only [VRs] at r
    obtain ⟨x, xs', rfl, r1, rs⟩ := r
    cases e with
    | cons e1 es =>
      simp only [List.length_cons, Nat.add_right_cancel_iff] at h
      exact .cons ⟨x, e1, r1⟩ (each_of rs es h)
theorem sortedI_run {q l : Addr} {us : List V} {ws ks : List W} {dk : List PyData} {Q : VK} (I : L2.Inv X pins σ H s) (S : StR X.K ρ H st)
    (hl : SqL X.K H l us) (rs : VRs X.K ρ H ws us) (hlen : ks.length = ws.length)
    (turn : ∀ (i : Nat) (x : V) (w k : W), us[i]? = some x → ws[i]? = some w → ks[i]? = some k → ∀ (pins' : List (Addr × Obj)) (s' : Shared) (ρ' : List Addr) (H' : Hp) (u : Value), RelV x u → L2.Inv X pins' σ H' s' → StR X.K ρ' H' st → VR X.K ρ' H' w x →
      wpAny (model X.prog X.w) X.A.in1.in1 (call (.ref q) [u]) (fun v s'' => ∃ y ρ'' H'', L2.Inv X pins' σ H'' s'' ∧ Grow ρ' H' ρ'' H'' ∧ StR X.K ρ'' H'' st ∧ RelV y v ∧ VR X.K ρ'' H'' k y) (fun _ _ => False) s')
    (hd : ks.map (datF st 66) = dk.map some) (hal : AllAlike dk) (hsk : SortsE dk) (hu : ∀ d, d ∈ dk → X.A.in1.in1.units + d.depth < cLine)
    (fin : ∀ (ρ' : List Addr) (H' : Hp) (p : Addr) (xs : List V), Grow ρ H ρ' H' → StR X.K ρ' H' st → H' p = none → VRs X.K ρ' H' (((ws.zip dk).mergeSort (dataLe false Prod.snd)).map Prod.fst) xs → Q (.ref p) (upd H' p (.lst xs))) :
    wpAny (model X.prog X.w) X.A (call (.builtin "sorted") [.ref l] [(Str.ofString "key", .ref q)]) (EP X pins σ Q) X.xe s := by
  obtain ⟨its, r, ⟨o, n, e1, e2, e3, e4⟩, z⟩ := I.list hl
  have hz : its.length ≤ sizeLine := by rw [← Vals.length r]; exact z
  have hws : ws.length = its.length := by rw [VRs.length rs, Vals.length r]
  have hdl : dk.length = ws.length := by
    have := congrArg List.length hd
    simp only [List.length_map] at this
    omega
  have isl : s.heap.IsList l its.toArray := ⟨o, e1, e2, n, e4⟩
  refine PySem.W.sorted_of_sort isl hz (ksk_s1 _ _) (fun x => ksk_l1 (.ref x) _) fun E' => ?_
  rw [ksk_t1]
  have ho := copyHeap_at s.heap its
  have ha : s.heap.objs.size + 1 < (copyHeap s.heap its).objs.size := Heap.lt_size ho
  obtain ⟨e0, ho1⟩ : ∃ e0, ((copyHeap s.heap its).update (s.heap.objs.size + 1) (Obj.mapSeq fun _ => (#[] : Array Value))).get? (s.heap.objs.size + 1) = some (seqObj "list" #[] e0) := ⟨_, get?_update_seq ho fun _ => #[]⟩
  have hkS : (((copyHeap s.heap its).update (s.heap.objs.size + 1) (Obj.mapSeq fun _ => (#[] : Array Value))).push (seqObj "tuple" its.toArray 0)).objs.size = (copyHeap s.heap its).objs.size + 1 := by rw [size_push', Heap.size_update]
  unfold ksk_tree
  refine wpAny_bind (listItems_at ho rfl ?_)
  refine wpAny_bind (listUpdate_at ho rfl ?_ (by rw [List.size_toArray]; exact hz) (Nat.zero_le _))
  refine wpAny_bind (seqEpoch_at ho1 rfl ?_)
  refine wpAny_bind (wpAny_newTuple ?_ (by show its.length ≤ _; exact hz))
  refine wpAny_bind (wpAny_newList ?_ (Nat.zero_le _))
  refine wpAny_holding ?_
  have keep : ∀ b u, s.heap.get? b = some u → (sortingHeap (copyHeap s.heap its) (s.heap.objs.size + 1) its).get? b = some u := fun b u q =>
    sortingHeap_old (Nat.ne_of_lt (Nat.lt_succ_of_lt (Heap.lt_size q))) (copyHeap_old q)
  have fa : FpOk X pins H (s.heap.objs.size + 1) := I.fpOk (Nat.le_succ _) (I.hok.fresh (Nat.le_succ _))
  have hle : s.heap.objs.size ≤ (((copyHeap s.heap its).update (s.heap.objs.size + 1) (Obj.mapSeq fun _ => (#[] : Array Value))).push (seqObj "tuple" its.toArray 0)).objs.size := by rw [hkS]; omega
  have fk := I.fpOk hle (I.hok.fresh hle)
  have hka : (((copyHeap s.heap its).update (s.heap.objs.size + 1) (Obj.mapSeq fun _ => (#[] : Array Value))).push (seqObj "tuple" its.toArray 0)).objs.size ≠ s.heap.objs.size + 1 := by rw [hkS]; omega
  have hks : ks.length = its.length := by omega
  have I1 := I.kept (t' := s.toks) keep
  refine keyI_rest (ks := ks) (dk := dk) (s := { s with heap := sortingHeap (copyHeap s.heap its) (s.heap.objs.size + 1) its }) (kS := (((copyHeap s.heap its).update (s.heap.objs.size + 1) (Obj.mapSeq fun _ => (#[] : Array Value))).push (seqObj "tuple" its.toArray 0)).objs.size) I1 S fa fk
    (Heap.get?_push_size _ rfl) (Heap.get?_push_of_some _ (Heap.get?_push_of_some _ ho1)) hka hks hz ?_ hd hal hsk hu ?_
  · intro i u k hi hk pins' s' ρ' H' I' g' S'
    obtain ⟨x, hx, rx⟩ := vals_at r i u hi
    obtain ⟨w, hw, vw⟩ := vrs_get rs hx
    exact turn i x w k hx hw hk pins' s' ρ' H' u rx I' S' (VR.grow S.apart g' w x vw)
  · intro s' ρ' H' out c I' g' S' fa' hga ko
    have hmap : (ws.zip dk).map Prod.snd = dk := List.map_snd_zip (by omega)
    have eb := each_of (X := X) (ds := dk) (VRs.grow S.apart g' ws us rs) r hdl
    have ko' : KeyedOut false ((ws.zip dk).map Prod.snd) its out := by rw [hmap]; exact ko
    have eo := PySem.W.keyedOut_each Prod.snd ko' eb
    obtain ⟨xs, rx, vx⟩ := each_vrs (g := Prod.fst) eo
    have hol : out.length = its.length := ko.length (by omega)
    have hxl : xs.length ≤ sizeLine := by rw [Vals.length rx, hol]; exact hz
    have I2 := Inv.track (o := .lst xs) I' fa' ⟨hxl, out, c, rx, hga⟩
    exact ⟨rfl, .ref (s.heap.objs.size + 1), _, I2, rfl, fin ρ' H' _ xs g' S' fa'.1 vx⟩
end
/-- an item's key, and how it reads -/
def keyO (den : List W → Store → Res W) (st : Store) (w : W) : Option (W × PyData) := match den [w] st with
  | .ok k st' => if st' = st then (datF st 66 k).map fun d => (k, d) else none
  | _ => none
def sortedKW (den : List W → Store → Res W) (l : List W) (st : Store) : Res W := match l with
  | [a] => match lstW st a with
    | some ws => match allO (ws.map (keyO den st)) with
      | some ps => if AllAlike (ps.map Prod.snd) ∧ SortsE (ps.map Prod.snd) ∧ (∀ p ∈ ps, p.2.depth ≤ 64) then
          .ok (.loc st.length) (st ++ [.lst (((ws.zip (ps.map Prod.snd)).mergeSort (dataLe false Prod.snd)).map Prod.fst)]) else .stuck
      | none => .stuck
    | none => .stuck
  | _ => .stuck
theorem keyO_some {den : List W → Store → Res W} {st : Store} {w : W} {p : W × PyData} (h : keyO den st w = some p) : den [w] st = .ok p.1 st ∧ datF st 66 p.1 = some p.2 := by
  unfold keyO at h
  split at h
  · rename_i k st' e
    split at h
    · rename_i hs
      cases hd : datF st 66 k with
      | none => rw [hd] at h; simp at h
      | some d =>
        rw [hd] at h
        simp only [Option.map_some, Option.some.injEq] at h
        subst h
        rw [e, hs]
        exact ⟨rfl, hd⟩
    · cases h
  · cases h
theorem allO_get {α β : Type} {f : α → Option β} : ∀ {l : List α} {m : List β}, allO (l.map f) = some m → m.length = l.length ∧ ∀ (i : Nat) (a : α), l[i]? = some a → ∃ b, m[i]? = some b ∧ f a = some b
  | [], m, h => by
    simp only [List.map_nil, allO, Option.some.injEq] at h
    subst h
    exact ⟨rfl, fun i a e => by simp at e⟩
  | a :: l, m, h => by
    simp only [List.map_cons] at h
    cases hf : f a with
    | none => rw [hf] at h; simp [allO] at h
    | some b =>
      rw [hf] at h
      cases ha : allO (l.map f) with
      | none => rw [show allO (some b :: l.map f) = (allO (l.map f)).map (b :: ·) from rfl, ha] at h; simp at h
      | some r =>
        rw [show allO (some b :: l.map f) = (allO (l.map f)).map (b :: ·) from rfl, ha] at h
        simp only [Option.map_some, Option.some.injEq] at h
        subst h
        obtain ⟨h1, h2⟩ := allO_get ha
        refine ⟨by simp [h1], fun i x e => ?_⟩
        cases i with
        | zero => simp at e; subst e; exact ⟨b, rfl, hf⟩
        | succ i => simpa using h2 i x (by simpa using e)
section
variable {X : Cx} {ex : Option Exn} {Wx : WX} {pos p pf kp : Pos} {e : Expr} {m : D W} {f : Str} {ps : List Str} {j : Nat} {den : List W → Store → Res W}
theorem run_den {pins : List (Addr × Obj)} {σ : L2.St} {H : Hp} {s : Shared} {ρ : List Addr} {st : Store} {x : V} {u : Value} {w k : W} {A : Around} (G : FnF X.prog X.w X.K X.mg X.base f ps j 1 den) (hr : Room j A) (env0 : Env0 X.prog X.w X.K X.mg X.base A X.stack s H)
    (rx : RelV x u) (I : L2.Inv X pins σ H s) (S : StR X.K ρ H st) (vw : VR X.K ρ H w x) (hd : den [w] st = .ok k st) :
    wpAny (model X.prog X.w) A (call (.ref G.f) [u]) (fun v s'' => ∃ y ρ'' H'', L2.Inv X pins σ H'' s'' ∧ Grow ρ H ρ'' H'' ∧ StR X.K ρ'' H'' st ∧ RelV y v ∧ VR X.K ρ'' H'' k y) (fun _ _ => False) s := by
  have hsp : SpM X.K X.mg 1 den [x] H (fun y H'' => ∃ ρ'', Grow ρ H ρ'' H'' ∧ StR X.K ρ'' H'' st ∧ VR X.K ρ'' H'' k y) (fun _ _ _ => False) := by
    refine ⟨ρ, [w], st, S, VRs.one vw, rfl, ?_⟩
    rw [hd]
    exact fun ρ'' H'' y g s r => ⟨ρ'', g, s, r⟩
  have hl : [u].length = ps.length := G.ok.len _ _ _ _ hsp
  refine wpAny_call (codeAny_mono (G.ok.run A X.stack s H ⟨[u], []⟩ ([u] ++ []) [x] _ _ hr env0 (G.b s [u] I.kIn hl) (.cons rx .nil) hsp) fun r s' hq => ?_)
  cases r with
  | error e =>
    obtain ⟨_, _, _, _, _, _, _, _, _, _, _, _, z⟩ := hq
    exact z.elim
  | ok fl =>
    cases fl with
    | ret u =>
      obtain ⟨y, H'', I'', ry, ρ'', g, S'', vk⟩ := I.after hq
      exact ⟨y, ρ'', H'', I'', g, S'', ry, vk⟩
    | next => exact False.elim hq
    | brk => exact False.elim hq
    | cont => exact False.elim hq
theorem cr_sortedK (G : FnF X.prog X.w X.K X.mg X.base f ps j 1 den) (hr : Room (j + 2) X.A) : CallRK X (.builtin "sorted") [Str.ofString "key"] (fun vs zs H Q => zs = [.ref G.f] ∧ ∃ (ρ : List Addr) (st : Store) (l : List W) (v : W) (st' : Store), StR X.K ρ H st ∧ VRs X.K ρ H l vs ∧ sortedKW den l st = .ok v st' ∧ ∀ ρ' H' x, Grow ρ H ρ' H' → StR X.K ρ' H' st' → VR X.K ρ' H' v x → Q x H') := fun pins s σ H xs zs us ws Q I rx rz q => by
  obtain ⟨rfl, ρ, st, l, v, st', S, rl, hs, fin⟩ := q
  cases rz with
  | cons r0 rn =>
    cases rn
    rename_i u0
    obtain rfl : u0 = Value.ref G.f := r0
    unfold sortedKW at hs
    split at hs
    · rename_i a
      obtain ⟨x, rfl, ra⟩ := vrs1 rl
      cases rx with
      | cons r1 r2 =>
        cases r2
        rename_i u1
        split at hs
        · rename_i wsl hl
          obtain ⟨ql, vl, rfl, hq, rs⟩ := lstW_of S ra hl
          obtain rfl : u1 = Value.ref ql := r1
          split at hs
          · rename_i pl hp
            split at hs
            · rename_i hc
              cases hs
              obtain ⟨h1, h2⟩ := allO_get hp
              have hkd : (pl.map Prod.fst).map (datF st 66) = (pl.map Prod.snd).map some := by
                rw [List.map_map, List.map_map]
                refine List.map_congr_left fun p hpm => ?_
                obtain ⟨i, hi⟩ := List.getElem?_of_mem hpm
                have hlt : i < wsl.length := by rw [← h1]; exact (List.getElem?_eq_some_iff.mp hi).1
                obtain ⟨b, hb, hf⟩ := h2 i wsl[i] (List.getElem?_eq_getElem hlt)
                rw [hi] at hb; cases hb
                exact (keyO_some hf).2
              refine sortedI_run (ks := pl.map Prod.fst) (dk := pl.map Prod.snd) I S hq rs (by simp [h1]) ?_ hkd hc.1 hc.2.1 (fun d hd => ?_) ?_
              · intro i x w k hx hw hk pins' s' ρ' H' u rxu I' S' vw
                obtain ⟨b, hb, hf⟩ := h2 i w hw
                rw [List.getElem?_map, hb] at hk
                simp only [Option.map_some, Option.some.injEq] at hk
                subst hk
                exact run_den G hr.in1.in1 I'.env0.in1.in1 rxu I' S' vw (keyO_some hf).1
              · obtain ⟨p, hpm, rfl⟩ := List.mem_map.mp hd
                have h64 := hc.2.2 p hpm
                have := hr.un
                show X.A.units + 1 + 1 + p.2.depth < cLine
                omega
              · intro ρ' H' p xs g' S' hn vx
                refine fin (ρ' ++ [p]) _ _ (g'.trans (grow_new hn)) (S'.new hn (grow_new hn) ⟨xs, upd_same, VRs.grow S'.apart (grow_new hn) _ _ vx⟩) ?_
                simp only [VR]
                exact ⟨p, by rw [← S'.len]; simp, rfl⟩
            · cases hs
          · cases hs
        · cases hs
    · cases hs
theorem sortedKW_err {l : List W} {st st' : Store} {c : Str} {w : W} : sortedKW den l st ≠ .err c w st' := by
  unfold sortedKW
  intro h
  split at h
  · split at h
    · split at h
      · split at h <;> cases h
      · cases h
    · cases h
  · cases h
theorem ie_sortedK (G : FnF X.prog X.w X.K X.mg X.base f ps j 1 den) (hr : Room (j + 2) X.A) (hg : Gl X "sorted") (hm : X.mg "sorted" = none) (he : IE X ex Wx e m) (hgf : Gl X f := by rfl) (hdf : (f == ("__debug__" : Str)) = false := by decide)
    (hst : starEach [e] X.env = (false, eval e X.env) :: starEach [] X.env := by rfl)
    (hbt : backTo pos (starEach [e] X.env) = (false, eval e X.env) :: backTo pos (starEach [] X.env) := by rfl) (hpl : (backTo pos (starEach [e] X.env)).any (·.1) = false := by rfl)
    (hall : (backToKw pos (keywordEach [⟨some "key", .Name f pf, kp⟩] X.env)).all (·.1.isSome) = true := by rfl) (hnone : (backToKw pos (keywordEach [⟨some "key", .Name f pf, kp⟩] X.env)).any (·.1.isNone) = false := by rfl) (hks : (backToKw pos (keywordEach [⟨some "key", .Name f pf, kp⟩] X.env)).filterMap (·.1) = [Str.ofString "key"] := by rfl) :
    IE X ex Wx (.Call (.Name "sorted" p) [e] [⟨some "key", .Name f pf, kp⟩] pos) (dApp (sortedKW den) (dCons m dNil)) :=
  PE.of (pe_callBK (cr_sortedK G hr) hg hm rfl (ia_cons he ia_nil hst) (pk_cons (pe_glob (v := .ref G.f) hgf G.m rfl hdf) pk_nil) (by decide) (by decide) hbt hpl hall hnone hks) fun σ H Q ⟨ρ, env, st, s, e, p⟩ => RG.bind s e p fun ρ1 H1 st1 l vs g1 s1 e1 r p1 => by
    refine ⟨rfl, ρ1, st1, l, ?_⟩
    generalize hq : sortedKW den l st1 = res at p1
    cases res with
    | ok v st' => exact ⟨v, st', s1, r, rfl, fun ρ' H' x g s r => p1 ρ' H' x g s r⟩
    | err c w st' => exact absurd hq sortedKW_err
    | stuck => exact p1.elim
end
end
end MP
namespace MP
open PySem PySem.Spec PyProof.Rows L2
open Classical
noncomputable section
abbrev KX := List L2.Key × Addr × Value
/-- a dict that only an expression has: its keys flat tuples -/
def dO (P : Program) (w : World) (D : Addr) (xs : List KX) : HO := .ext fun h => (D == sysModules) = false ∧ ∃ o es ep, h.get? D = some o ∧ o.ExactDict ∧ o.data = .dict es ep ∧ es.toList = xs.map (entryOfKey (tupleKind (mixKind P w)))
theorem dO_mk {P : Program} {w : World} {H : Hp} {h : Heap} {D : Addr} {xs : List KX} {o : Obj} {es : Array DictEntry} {ep : Nat} (hs : (D == sysModules) = false) (h1 : h.get? D = some o) (h2 : o.ExactDict) (h3 : o.data = .dict es ep) (h4 : es.toList = xs.map (entryOfKey (tupleKind (mixKind P w)))) :
    ObjOk P w H h D (dO P w D xs) := by
  refine ⟨⟨hs, o, es, ep, h1, h2, h3, h4⟩, ⟨o, h1⟩, fun g1 g2 p k => ?_⟩
  obtain ⟨hs, o, es, ep, h1, h2, h3, h4⟩ := p
  exact ⟨hs, o, es, ep, k o h1, h2, h3, h4⟩
theorem dO_empty {P : Program} {w : World} {H : Hp} (h : Heap) (hb : sysModules < h.objs.size) : ObjOk P w H (h.push { cls := .type "dict", data := .dict #[] }) h.objs.size (dO P w h.objs.size []) :=
  dO_mk (beq_eq_false_iff_ne.mpr (Ne.symm (Nat.ne_of_lt hb))) (Heap.get?_push_size _ rfl) ⟨rfl, rfl, rfl⟩ rfl rfl
theorem dO_of {X : Cx} {pins : List (Addr × Obj)} {σ : L2.St} {H : Hp} {s : Shared} {D : Addr} {xs : List KX} (I : Inv X pins σ H s) (hD : H D = some (dO X.prog X.w D xs)) :
    (D == sysModules) = false ∧ ∃ o es ep, s.heap.get? D = some o ∧ o.ExactDict ∧ o.data = .dict es ep ∧ es.toList = xs.map (entryOfKey (tupleKind (mixKind X.prog X.w))) := by
  have h : ObjOk X.prog X.w H s.heap D (dO X.prog X.w D xs) := I.hok D _ hD
  exact h.1
theorem key_tpf {X : Cx} {pins : List (Addr × Obj)} {σ : L2.St} {H : Hp} {s : Shared} {a : Addr} {k : List L2.Key} (I : Inv X pins σ H s) (h : TpF X.K H a (k.map kV)) : (tupleKind (mixKind X.prog X.w)).is s.heap k a := by
  rcases h with h | ⟨o, its, n, h1, h2, h3, h4, h5⟩
  · exact key_of I.hok h
  · exact ⟨o, its, n, I.kIn a o h1, h2, h3, items_are h5⟩
theorem x_dictSet {X : Cx} {pins : List (Addr × Obj)} {σ : L2.St} {H : Hp} {s : Shared} {E : Value → Shared → Prop} {D a : Addr} {xs : List KX} {k : List L2.Key} {u r : Value} {Q : Unit → Shared → Prop} (hu : X.A.units < cLine) (I : Inv X pins σ H s) (hD : H D = some (dO X.prog X.w D xs)) (hz : xs.length < sizeLine)
    (ha : TpF X.K H a (k.map kV)) (hxs : ∀ x ∈ xs, TpF X.K H x.2.1 (x.1.map kV)) (hn : (xs.map (·.1)).Nodup) (ry : RelV (.ref a) u) (rv : RelV (.bl true) r) (h : ∀ s', Inv X pins σ (upd H D (dO X.prog X.w D (storedH xs k a (.bool true)))) s' → Q () s') : wpAny (model X.prog X.w) X.A (dictSet D u r) Q E s := by
  obtain rfl : u = Value.ref a := ry
  obtain rfl : r = Value.bool true := rv
  obtain ⟨hs, o, es, ep, h1, h2, h3, h4⟩ := dO_of I hD
  refine wpAny_dictSet_heap (knd := tupleKind (mixKind X.prog X.w)) (hsz := Nat.le_of_lt hz) hu (key_tpf I ha) ⟨o, es, ep, h1, h2, h3, h4, fun x hx => key_tpf I (hxs x hx), hn⟩ fun h' dd hsb => h _ ?_
  obtain ⟨o', es', ep', g1, g2, g3, g4, _, _⟩ := dd
  exact d_write I (by rw [hD]; exact True.intro) hsb ⟨o', g1⟩ (dO_mk hs g1 g2 g3 g4)
/-! ### {k: True for x in xs}: one turn, the loop, the whole -/
/-- a key that is new or not goes into the dict at D, with True -/
def Puts (X : Cx) (D : Addr) (y z : V) (H : Hp) (N : Hp → Prop) : Prop := ∃ (xs : List KX) (k : List L2.Key) (a : Addr), (y = .ref a ∧ z = .bl true) ∧ (TpF X.K H a (k.map kV) ∧ ∀ x ∈ xs, TpF X.K H x.2.1 (x.1.map kV)) ∧
  ((xs.map (·.1)).Nodup ∧ xs.length < sizeLine) ∧ H D = some (dO X.prog X.w D xs) ∧ N (upd H D (dO X.prog X.w D (storedH xs k a (.bool true))))
theorem puts_ok {X : Cx} {pins : List (Addr × Obj)} {σ : L2.St} {H : Hp} {s : Shared} {E : Value → Shared → Prop} {D : Addr} {y z : V} {u r : Value} {N : Hp → Prop} {Q : Unit → Shared → Prop} (hu : X.A.units < cLine) (I : Inv X pins σ H s) (p : Puts X D y z H N) (ry : RelV y u) (rz : RelV z r)
    (fin : ∀ s' H', Inv X pins σ H' s' → N H' → Q () s') : wpAny (model X.prog X.w) X.A (dictSet D u r) Q E s := by
  obtain ⟨xs, k, a, ⟨ey, ez⟩, ⟨ta, ts⟩, ⟨nd, lt⟩, at_, nx⟩ := p
  rw [ey] at ry
  rw [ez] at rz
  exact x_dictSet hu I at_ lt ta ts nd ry rz fun s' J => fin s' _ J nx
/-- what a turn does, told of the tracked things -/
def Turns (X : Cx) (J : It) (g : TG) (tk tv : TE) (vs : List Nat) (σ : L2.St) (D : Addr) (fin : Hp → Prop) (at_ : Nat → Nat → Hp → Prop) : Prop := ∀ i m H, at_ i m H →
  (J.stop i H ∧ fin H) ∨ (J.go i H ∧ ∃ nx : Hp → Prop, (∀ H', nx H' → ∃ m', m' < m ∧ at_ (i + 1) m' H') ∧
    ∀ x H', J.yld i H x H' → g x (wipe σ vs) H' fun σ2 H2 => wipe σ2 vs = wipe σ vs ∧ tk σ2 H2 fun y H3 => tv σ2 H3 fun z H4 => Puts X D y z H4 nx)
def tDx (X : Cx) (wi : TI) (g : TG) (tk tv : TE) (vs : List Nat) : TE := fun σ H Q => wi σ H fun J H1 => ∀ D, H1 D = none → ∃ at_ : Nat → Nat → Hp → Prop, (∃ m, at_ 0 m (upd H1 D (dO X.prog X.w D []))) ∧ Turns X J g tk tv vs σ D (Q (.ref D)) at_
section
variable {X : Cx} {s0 : Shared} {H0 : Hp} {sc : Scope} {ce : Env} {fp : List Addr} {σ : L2.St} {vs : List Nat}
theorem blk_fp {pn : List (Addr × Obj)} {τ : L2.St} {H : Hp} {s : Shared} (I : Inv (X.blk s0 H0 sc ce fp) [] τ H s) (none_ : ∀ b ∈ fp, H b = none) : ∀ b ∈ fp, FpOk (X.blk s0 H0 sc ce fp) [] H b := by
  intro b hb
  have two := I.ok.exf b hb
  refine ⟨none_ b hb, two.1, I.ok.exfs b hb, Or.inl hb, two.2, ?_⟩
  intro q hq
  cases (show q ∈ ([] : List (Addr × Obj)) ++ [] from hq)
/-- the state between two turns -/
def DxAt (X : Cx) (s0 : Shared) (H0 : Hp) (sc : Scope) (ce : Env) (fp : List Addr) (τ : L2.St) (tn : Nat → Heap → Prop) (at_ : Nat → Nat → Hp → Prop) (m : Nat) (s : Shared) : Prop :=
  ∃ (i : Nat) (H : Hp), Inv (X.blk s0 H0 sc ce fp) [] τ H s ∧ tn i s.heap ∧ (∀ b ∈ fp, H b = none) ∧ at_ i m H
/-- behind a turn: what is walked stood still -/
theorem dx_back {tg : Expr} {J : It} {it : Addr} {tn : Nat → Heap → Prop} {at_ : Nat → Nat → Hp → Prop} {σ2 : L2.St} {h : Heap} {H : Hp} {s : Shared} {i m : Nat} (T : Turn X.prog X.w X.K tg J fp it tn) (st : tn i h)
    (I : Inv (X.blk s0 H0 sc ce fp) ([] ++ pinsAt fp h) σ2 H s) (hw : wipe σ2 vs = wipe σ vs) (w : at_ i m H) : DxAt X s0 H0 sc ce fp (wipe σ vs) tn at_ m s := by
  have still : ∀ b ∈ fp, ∀ o, h.get? b = some o → s.heap.get? b = some o ∧ H b = none := by
    intro b hb o e
    obtain ⟨k1, k2, _⟩ := I.pin (b, o) (List.mem_append_right _ (List.mem_append_right _ (mem_pinsAt hb e)))
    exact ⟨k1, k2⟩
  have J0 : Inv (X.blk s0 H0 sc ce fp) [] σ2 H s := I.unpinned
  refine ⟨i, H, J0.weak (by rw [← hw, wipe_length]) ?_, T.keep i h s.heap st fun b hb o e => (still b hb o e).1, ?_, w⟩
  · intro j v e
    rw [← hw] at e
    exact (wipe_some e).1
  · intro b hb
    obtain ⟨o, e, _⟩ := T.obj i h st b hb
    exact (still b hb o e).2
theorem dx_turn {tg kx vx : Expr} {J : It} {g : TG} {tk tv : TE} {it D : Addr} {tn : Nat → Heap → Prop} {at_ : Nat → Nat → Hp → Prop} {fin : Hp → Prop} {R : Result → Shared → Prop} (hu : X.A.units < cLine) (hc : X.calm = true) (T : Turn X.prog X.w X.K tg J fp it tn)
    (pg : PG (X.blk s0 H0 sc ce fp) tg g) (pk : PE (X.blk s0 H0 sc ce fp) kx tk) (pv : PE (X.blk s0 H0 sc ce fp) vx tv) (S : Turns X J g tk tv vs σ D fin at_)
    (stop : ∀ s H, Inv (X.blk s0 H0 sc ce fp) [] (wipe σ vs) H s → fin H → R (.ok .next) s) {iter : Expr} {scope : Scope} {pos : Pos} {m : Nat} {s : Shared} (h : DxAt X s0 H0 sc ce fp (wipe σ vs) tn at_ m s) :
    codeAny (model X.prog X.w) X.A (.compLoop (.DictComp kx vx [⟨tg, iter, [], 0⟩] scope pos) 0 (.ref it) (.ref D) ce) R s := by
  refine compLoop_anyD (DxAt X s0 H0 sc ce fp (wipe σ vs) tn at_) (fun m s at1 => ?_) m h
  obtain ⟨i, H, I, st, nn, w⟩ := at1
  rcases S i m H w with ⟨js, f⟩ | ⟨jg, nx, down, step⟩
  · refine thnF (T.done (X.blk s0 H0 sc ce fp) rfl rfl rfl hc i [] s _ H _ I (blk_fp (pn := []) I nn) st js) ?_
    rintro _ t ⟨rfl, It⟩
    exact stop t H It f
  · refine thnF (T.item (X.blk s0 H0 sc ce fp) rfl rfl rfl hc i [] s _ H _ I (blk_fp (pn := []) I nn) st jg) ?_
    rintro _ t ⟨v, rfl, hv⟩
    refine thnF hv ?_
    rintro _ t1 ⟨x, H1, I1, rx, yx, st1, nn1⟩
    have P1 := I1.pinned (blk_fp (pn := []) I1 nn1) (T.obj (i + 1) t1.heap st1)
    refine thnF (pg.run _ t1 _ H1 x v _ P1 rx (step x H1 yx)) ?_
    rintro _ t2 ⟨σ2, H2, I2, hw, kq⟩
    refine thnF ((pts_nil (X := X.blk s0 H0 sc ce fp)).run _ t2 σ2 H2 (fun b H' => b = true ∧ tk σ2 H' fun y H3 => tv σ2 H3 fun z H4 => Puts X D y z H4 nx) I2 ⟨rfl, kq⟩) ?_
    rintro b t3 ⟨H3, I3, rfl, kq3⟩
    rw [if_pos rfl]
    refine thnF (pk.run _ t3 σ2 H3 _ I3 kq3) ?_
    rintro uk t4 ⟨y, H4, I4, ry, vq⟩
    refine thnF (pv.run _ t4 σ2 H4 _ I4 vq) ?_
    rintro uv t5 ⟨z, H5, I5, rz, pq⟩
    refine puts_ok (X := X.blk s0 H0 sc ce fp) hu I5 pq ry rz ?_
    intro t6 H6 I6 nq
    obtain ⟨m', lt, w'⟩ := down H6 nq
    exact ⟨m', lt, dx_back T st1 I6 hw w'⟩
end
section
variable {X : Cx}
theorem pe_dx {kx vx tg iter : Expr} {scope : Scope} {own : List (Str × Nat)} {pos : Pos} {wi : TI} {g : TG} {tk tv : TE} (hu : X.A.units < cLine) (hc : X.calm = true) (hN : X.N.Nodup) (hi : PI X tg iter wi) (ok : BlkOk X.N X.env.scope scope own)
    (hg : ∀ (s : Shared) (H : Hp) (C : Addr) (cl : List (Str × Addr)) (fp : List Addr), PG (X.blk s H scope (compEnvC scope cl C X.env) fp) tg g)
    (hk : ∀ (s : Shared) (H : Hp) (C : Addr) (cl : List (Str × Addr)) (fp : List Addr), PE (X.blk s H scope (compEnvC scope cl C X.env) fp) kx tk)
    (hv : ∀ (s : Shared) (H : Hp) (C : Addr) (cl : List (Str × Addr)) (fp : List Addr), PE (X.blk s H scope (compEnvC scope cl C X.env) fp) vx tv) (hs : ∀ x, foldedSetIterable iter X.env x = pure x := by intro _; rfl) :
    PE X (.DictComp kx vx [⟨tg, iter, [], 0⟩] scope pos) (tDx X wi g tk tv (own.map (·.2))) := by
  refine ⟨fun pins s σ H Q I h => ?_⟩
  rw [arm_eval_DictComp]
  have cells : ∀ y ∈ scope.names, y.2 = .free → ∃ c, X.env.cells.lookup y.1 = some c := by
    intro y hy e
    cases ok.free y hy e with
    | inl k => exact I.ok.has _ (Or.inl k)
    | inr k => exact I.ok.has _ (Or.inr k)
  have uniq : ∀ y ∈ scope.names, y.2 = .local → scope.names.lookup y.1 = some .local := fun y hy e => by rw [ok.uniq y hy, e]
  refine wpAny_comprehension_free (use := none) rfl hs (closure_ok cells) ok.kind uniq (thn (hi.run pins s σ H _ I h) fun _ t0 w0 => thn w0 fun _ t w1 => ?_)
  obtain ⟨it, fp, tn, J, H1, rfl, It, T, st, ff, q⟩ := w1
  refine wpAny_newObj_type (newEnv_comp ?_)
  -- the new dict, then the block's cells
  have fresh : H1 t.heap.objs.size = none := It.hok.fresh (Nat.le_refl _)
  obtain ⟨at_, ⟨m, first⟩, S⟩ := q _ fresh
  have Id : Inv X pins σ (upd H1 t.heap.objs.size (dO X.prog X.w t.heap.objs.size [])) { t with heap := t.heap.push { cls := .type "dict", data := .dict #[] } } :=
    It.laid (t' := t.toks) (fun _ _ e => Heap.get?_push_of_some _ e) (Nat.le_refl _) (dO_empty t.heap It.big)
  have below : ∀ b ∈ fp, b < t.heap.objs.size := fun b hb => by
    obtain ⟨_, e, _⟩ := T.obj 0 t.heap st b hb
    exact Heap.lt_size e
  have fd : ∀ b ∈ fp, FpOk X pins (upd H1 t.heap.objs.size (dO X.prog X.w t.heap.objs.size [])) b ∧ b < (t.heap.push { cls := .type "dict", data := .dict #[] }).objs.size := by
    intro b hb
    have lt := below b hb
    have fb := ff b hb
    constructor
    · exact ⟨by rw [upd_ne (Nat.ne_of_lt lt)]; exact fb.1, fb.2⟩
    · rw [Heap.size_push]; exact Nat.lt_succ_of_lt lt
  have stD : tn 0 (t.heap.push { cls := .type "dict", data := .dict #[] }) := T.keep 0 t.heap _ st fun b _ o e => Heap.get?_push_of_some _ e
  generalize hD : t.heap.objs.size = D at *
  generalize hh : t.heap.push { cls := .type "dict", data := .dict #[] } = h1 at *
  generalize hU : upd H1 D (dO X.prog X.w D []) = HD at *
  have Ib := block_start Id ok hN fd
  have stB : tn 0 (pushCells (h1.push { cls := .type "dict", data := .dict #[] }) scope.names) := T.keep 0 h1 _ stD fun b _ o e => pushCells_keeps _ _ _ _ (Heap.get?_push_of_some _ e)
  have here : DxAt X { t with heap := h1 } HD scope (compEnvC scope (cellsFrom (h1.objs.size + 1) scope.names (cloFrom X.env.cells scope.names [])) h1.objs.size X.env) fp (wipe σ (own.map (·.2))) tn at_ m { t with heap := pushCells (h1.push { cls := .type "dict", data := .dict #[] }) scope.names } :=
    ⟨0, HD, Ib, stB, fun b hb => (fd b hb).1.1, first⟩
  have run : codeAny (model X.prog X.w) X.A (.compLoop (.DictComp kx vx [⟨tg, iter, [], 0⟩] scope pos) 0 (.ref it) (.ref D) (compEnvC scope (cellsFrom (h1.objs.size + 1) scope.names (cloFrom X.env.cells scope.names [])) h1.objs.size X.env)) (compPost (model X.prog X.w) X.A X.xe none (EP X pins σ Q) (.ref D) h1.objs.size) { t with heap := pushCells (h1.push { cls := .type "dict", data := .dict #[] }) scope.names } := by
    refine dx_turn hu hc T (hg ..) (hk ..) (hv ..) S (fun t' H' I' hq => ?_) here
    -- the def goes on
    have Iq : Inv X pins σ H' t' := Id.call' (ch := fp) I'.os I'.base I'.hok I'.bare fun b hb => let f := (fd b hb).1; ⟨f.2.2.2.1, f.2.1, f.2.2.2.2.1, f.2.2.2.2.2⟩
    have free : H' h1.objs.size = none := I'.free
    have f := Id.fpOk (Nat.le_refl _) free
    obtain ⟨mv, ns, _⟩ := I'.loc
    refine ⟨mv, ns, fun h'' same => ?_⟩
    exact ⟨.ref D, H', Iq.turned (t' := t'.toks) (it := h1.objs.size) (fun b o hb e => (same.2 b hb).trans e) f.1 f.2.1 f.2.2.2.1 f.2.2.2.2.1 f.2.2.2.2.2, rfl, hq⟩
  exact codeAny_compStart_dict run (T.self X.A 0 _ _ _ stB run)
end
/-! ### list() of it -/
theorem refs_of {es : Array DictEntry} {ks : List KX} {P : Program} {w : World} {acc : Array Value} (he : es.toList = ks.map (entryOfKey (tupleKind (mixKind P w)))) (hl : acc.size = es.size) (ha : ∀ (j : Nat) (v : Value), acc[j]? = some v → ∃ en : DictEntry, es[j]? = some en ∧ v = en.key) :
    acc.toList = ks.map fun x => Value.ref x.2.1 := by
  refine List.ext_getElem? fun j => ?_
  have row : es[j]? = (ks[j]?).map (entryOfKey (tupleKind (mixKind P w))) := entry_at he j
  rw [List.getElem?_map, Array.getElem?_toList]
  cases hk : ks[j]? with
  | none =>
    rw [hk] at row
    have out : es.size ≤ j := Array.getElem?_eq_none_iff.mp row
    exact Array.getElem?_eq_none_iff.mpr (by omega)
  | some x =>
    rw [hk] at row
    have lt : j < acc.size := by rw [hl]; exact (Array.getElem?_eq_some_iff.mp row).1
    obtain ⟨en, e1, e2⟩ := ha j acc[j] (Array.getElem?_eq_getElem lt)
    rw [row] at e1
    obtain rfl := Option.some.inj e1
    rw [Array.getElem?_eq_getElem lt, e2]; rfl
theorem call_list_dO {X : Cx} (hc : X.calm = true) : CallR X (.type "list") (fun vs H Q => ∃ d xs, vs = [V.ref d] ∧ H d = some (dO X.prog X.w d xs) ∧ xs.length ≤ sizeLine ∧ ∀ p, H p = none → Q (.ref p) (upd H p (.lst (xs.map fun x => V.ref x.2.1)))) := by
  rintro pins s σ H _ us Q I r ⟨d, ks, rfl, hd, few, q⟩
  obtain ⟨u, rfl, ru⟩ := r.one
  obtain rfl : u = Value.ref d := ru
  obtain ⟨ns, o, es, ep, e1, ex, e2, e3⟩ := dO_of I hd
  have size : es.size = ks.length := size_of_entries e3
  refine PySem.W.kdl_call (kdl_raw ns ex e2) (I.ok.hd hc) e1 (by omega) ?_
  intro h2 tk acc c keep at2 got
  have items := refs_of e3 got.1 got.2
  have rel : Vals (ks.map fun x => V.ref x.2.1) acc.toList := by
    have v := vals_refs (ks.map fun x => x.2.1)
    rw [List.map_map, List.map_map] at v
    rw [items]; exact v
  have lay : ObjOk X.prog X.w (upd H s.heap.objs.size (.lst (ks.map fun x => V.ref x.2.1))) h2 s.heap.objs.size (.lst (ks.map fun x => V.ref x.2.1)) :=
    ⟨by rw [List.length_map]; exact few, acc.toList, c, rel, by rw [Array.toArray_toList]; exact at2⟩
  exact ⟨V.ref s.heap.objs.size, _, I.laid (t' := tk) keep (Nat.le_refl _) lay, rfl, q _ (I.hok.fresh (Nat.le_refl _))⟩
end
end MP
namespace MP
open PySem PySem.Spec PyProof.Rows L2
open Classical
noncomputable section
def keyA : W → Option L2.Key
  | .int i => some (.inl i)
  | .str x => some (.inr x)
  | _ => none
def keyW : W → Option (List L2.Key)
  | .tup ws => allO (ws.map keyA)
  | _ => none
def kW : L2.Key → W
  | .inl i => .int i
  | .inr x => .str x
def tupK (k : List L2.Key) : W := .tup (k.map kW)
theorem keyA_some {w : W} {k : L2.Key} (h : keyA w = some k) : w = kW k := by
  cases w <;> simp [keyA] at h <;> subst h <;> rfl
theorem keyA_all : ∀ {ws : List W} {ks : List L2.Key}, allO (ws.map keyA) = some ks → ws = ks.map kW
  | [], ks, h => by
    simp only [List.map_nil, allO, Option.some.injEq] at h
    subst h; rfl
  | w :: ws, ks, h => by
    obtain ⟨hl, hg⟩ := allO_get (f := keyA) (l := w :: ws) h
    cases ks with
    | nil => simp at hl
    | cons k ks =>
      obtain ⟨b, hb, hk⟩ := hg 0 w rfl
      simp only [List.getElem?_cons_zero, Option.some.injEq] at hb
      subst hb
      have e := keyA_some hk
      have h2 : allO (ws.map keyA) = some ks := by
        simp only [List.map_cons, hk] at h
        cases ha : allO (ws.map keyA) with
        | none => rw [show allO (some k :: ws.map keyA) = (allO (ws.map keyA)).map (k :: ·) from rfl, ha] at h; simp at h
        | some r =>
          rw [show allO (some k :: ws.map keyA) = (allO (ws.map keyA)).map (k :: ·) from rfl, ha] at h
          simp only [Option.map_some, Option.some.injEq, List.cons.injEq] at h
          rw [h.2]
      rw [List.map_cons, ← e, ← keyA_all h2]
theorem keyW_some {w : W} {k : List L2.Key} (h : keyW w = some k) : w = tupK k := by
  cases w <;> simp only [keyW] at h <;> try cases h
  rw [tupK, ← keyA_all h]
theorem keyA_kW (k : L2.Key) : keyA (kW k) = some k := by cases k <;> rfl
theorem keyW_tup (k : List L2.Key) : keyW (tupK k) = some k := by
  unfold tupK keyW
  simp only [List.map_map]
  induction k with
  | nil => rfl
  | cons a k ih =>
    simp only [List.map_cons, Function.comp, keyA_kW] at ih ⊢
    exact (show allO (some a :: List.map (keyA ∘ kW) k) = (allO (List.map (keyA ∘ kW) k)).map (a :: ·) from rfl).trans (by rw [ih]; rfl)
section
variable {K : PySem.W.Frag} {ρ : List Addr} {H : Hp}
theorem vrs_keys : ∀ {k : List L2.Key} {us : List V}, VRs K ρ H (k.map kW) us ↔ us = k.map kV
  | [], us => by simp [VRs]
  | a :: k, us => by
    have ha : ∀ v, VR K ρ H (kW a) v ↔ v = kV a := fun v => by cases a <;> simp [kW, VR, kV]
    simp only [List.map_cons, VRs, ha, vrs_keys (k := k)]
    constructor
    · rintro ⟨u, us', rfl, rfl, rfl⟩; rfl
    · rintro rfl; exact ⟨_, _, rfl, rfl, rfl⟩
theorem vr_key {k : List L2.Key} {v : V} : VR K ρ H (tupK k) v ↔ ∃ a, v = .ref a ∧ TpF K H a (k.map kV) := by
  unfold tupK
  simp only [VR, vrs_keys]
  constructor
  · rintro ⟨a, us, rfl, h, rfl⟩; exact ⟨a, rfl, h⟩
  · rintro ⟨a, rfl, h⟩; exact ⟨a, _, rfl, h, rfl⟩
end
/-- a key is put behind the others, if it is new -/
def addK (acc : List (List L2.Key)) (k : List L2.Key) : List (List L2.Key) := if k ∈ acc then acc else acc ++ [k]
theorem storedH_keys {xs : List KX} {k : List L2.Key} {a : Addr} {v : Value} : (storedH xs k a v).map (·.1) = addK (xs.map (·.1)) k := by
  unfold addK
  by_cases h : k ∈ xs.map (·.1)
  · rw [if_pos h]
    have hs : (atKey xs k).isSome = true := by
      rw [Option.isSome_iff_ne_none]
      intro hn
      obtain ⟨x, hx, e⟩ := List.mem_map.mp h
      simp only [atKey, Option.map_eq_none_iff, List.find?_eq_none] at hn
      exact absurd e (by simpa using hn x hx)
    unfold storedH
    rw [if_pos hs, List.map_map]
    refine List.map_congr_left fun x _ => ?_
    simp only [Function.comp, putAt]
    split <;> rfl
  · rw [if_neg h]
    have hs : atKey xs k = none := by
      simp only [atKey, Option.map_eq_none_iff, List.find?_eq_none]
      intro x hx e
      exact h (List.mem_map.mpr ⟨x, hx, by simpa using e⟩)
    rw [storedH_new hs]
    simp
theorem storedH_all {p : List L2.Key → Addr → Prop} {xs : List KX} {k : List L2.Key} {a : Addr} {v : Value} (h : ∀ x ∈ xs, p x.1 x.2.1) (hk : p k a) : ∀ x ∈ storedH xs k a v, p x.1 x.2.1 := by
  intro x hx
  unfold storedH at hx
  split at hx
  · obtain ⟨y, hy, rfl⟩ := List.mem_map.mp hx
    unfold putAt
    split <;> exact h y hy
  · rcases List.mem_append.mp hx with hx | hx
    · exact h x hx
    · have : x = (k, a, v) := by simpa using hx
      subst this; exact hk
theorem addK_nodup {acc : List (List L2.Key)} {k : List L2.Key} (h : acc.Nodup) : (addK acc k).Nodup := by
  unfold addK
  split
  · exact h
  · rename_i hk
    rw [List.nodup_append]
    exact ⟨h, by simp, fun a ha b hb e => hk (by simp at hb; rw [← hb, ← e]; exact ha)⟩
theorem addK_len (acc : List (List L2.Key)) (k : List L2.Key) : (addK acc k).length ≤ acc.length + 1 := by
  unfold addK
  split <;> simp
/-- the keys of a dict that a comprehension makes -/
def dkW (chk : Store → Prop) (env : EnvW) (t : DT) (e : D W) : List W → List (List L2.Key) → Store → Option (List (List L2.Key) × Store)
  | [], acc, st => if chk st then some (acc, st) else none
  | w :: ws, acc, st => if chk st then
      match t w env st with
      | none => none
      | some (env1, st1) => match e env1 st1 with
        | .ok y st2 => match keyW y with
          | some k => if acc.length < sizeLine then dkW chk env t e ws (addK acc k) st2 else none
          | none => none
        | _ => none
    else none
/-- list({k: True for ..}) -/
def dDk (m : D ItW) (vs : List Nat) (t : DT) (e : D W) : D W := fun env st => (m env st).bind fun it st1 =>
  match dkW it.Chk (wipeW env vs) t e it.items [] st1 with
  | some (acc, st2) => if acc.length ≤ sizeLine then .ok (.loc st2.length) (st2 ++ [.lst (acc.map tupK)]) else .stuck
  | none => .stuck
section
variable {X : Cx} {Wx : WX} {pos pos' p : Pos}
theorem sideX_imm {H : Hp} {D : Addr} {φ : Heap → Prop} {o : HO} (hD : H D = some (.ext φ)) : (∀ a ys, H a = some (.tup ys) → upd H D o a = some (.tup ys)) ∧ (∀ a b u, H a = some (.frz b u) → upd H D o a = some (.frz b u)) ∧ (∀ a i j, H a = some (.rng i j) → upd H D o a = some (.rng i j)) := by
  refine ⟨fun a ys e => ?_, fun a b u e => ?_, fun a i j e => ?_⟩
  · rw [upd_ne (ne_of e hD (by intro z; cases z))]; exact e
  · rw [upd_ne (ne_of e hD (by intro z; cases z))]; exact e
  · rw [upd_ne (ne_of e hD (by intro z; cases z))]; exact e
theorem StR.sideX {K : PySem.W.Frag} {ρ : List Addr} {H : Hp} {st : Store} {D : Addr} {φ : Heap → Prop} {o : HO} (s : StR K ρ H st) (hD : H D = some (.ext φ)) (hn : D ∉ ρ) : StR K ρ (upd H D o) st := by
  obtain ⟨i1, i2, i3⟩ := sideX_imm (o := o) hD
  refine ⟨s.len, s.nd, fun n ob e => ?_⟩
  obtain ⟨a, ha, hob⟩ := s.ob n ob e
  have hne : a ≠ D := fun z => hn (z ▸ List.mem_of_getElem? ha)
  refine ⟨a, ha, ?_⟩
  cases ob with
  | lst ws =>
    obtain ⟨us, hu, hr⟩ := hob
    exact ⟨us, by rw [upd_ne hne]; exact hu, VRs.imm i1 i2 i3 ws us hr⟩
theorem grow_out {ρ ρ' : List Addr} {H H' : Hp} {D : Addr} {o : HO} (g : Grow ρ H ρ' H') (hD : H D = some o) (n : D ∉ ρ) : H' D = some o ∧ D ∉ ρ' := by
  refine ⟨g.keep D _ hD n, fun z => ?_⟩
  obtain ⟨mm, em, fm⟩ := g.pre
  subst em
  rcases List.mem_append.mp z with z | z
  · exact n z
  · have := fm D z; rw [hD] at this; cases this
theorem TpF.imm {K : PySem.W.Frag} {H H' : Hp} {a : Addr} {xs : List V} (h : TpF K H a xs) (i : ∀ a ys, H a = some (.tup ys) → H' a = some (.tup ys)) : TpF K H' a xs := h.imp (i a xs) id
theorem dk_read {env : EnvW} {st : Store} {ρ : List Addr} {H : Hp} {σ : L2.St} {Q : VK} {m : D ItW} {t : DT} {vs : List Nat} {el : D W}
    (s : StR X.K ρ H st) (e : EnvR X.K none ρ H env σ) (p : Post X.K X.mg Wx (relV X.K) ρ H σ (dDk m vs t el env st) Q) :
    tCB (fun vs H Q => ∃ d xs, vs = [V.ref d] ∧ H d = some (dO X.prog X.w d xs) ∧ xs.length ≤ sizeLine ∧ ∀ p, H p = none → Q (.ref p) (upd H p (.lst (xs.map fun x => V.ref x.2.1)))) (tCons (tDx X (RG X none Wx (relI X) m) (RT X none vs t) (RG X none W0 (relV X.K) el) (RG X none W0 (relV X.K) (dC (.bl true))) vs) tNil) σ H Q := by
  show RG X none Wx (relI X) m σ H _
  refine RG.bind s e p fun ρ1 H1 st1 it J g s1 e1 r q => fun D hD => ?_
  have nD : D ∉ ρ1 := s1.none_of hD
  generalize hl : dkW it.Chk (wipeW env vs) t el it.items [] st1 = res at q
  cases res with
  | none => exact q.elim
  | some pr =>
    obtain ⟨fin, stf⟩ := pr
    simp only at q
    by_cases hfz : fin.length ≤ sizeLine
    case neg =>
      rw [if_neg hfz] at q
      exact q.elim
    rw [if_pos hfz] at q
    have ew : EnvR X.K none ρ1 H1 (wipeW env vs) (wipe σ vs) := e1.wipe vs
    refine ⟨fun i m H => m = it.items.length - i ∧ i ≤ it.items.length ∧ ∃ ρ st acc xs, Grow ρ1 H1 ρ H ∧ StR X.K ρ H st ∧ H D = some (dO X.prog X.w D xs) ∧ D ∉ ρ ∧ xs.map (·.1) = acc ∧ acc.Nodup ∧ (∀ x ∈ xs, TpF X.K H x.2.1 (x.1.map kV)) ∧ dkW it.Chk (wipeW env vs) t el (it.items.drop i) acc st = some (fin, stf),
      ⟨_, rfl, Nat.zero_le _, ρ1, st1, [], [], grow_imm hD, s1.grow_imm hD, upd_same, nD, rfl, List.nodup_nil, fun _ h => (nomatch h), hl⟩, ?_⟩
    rintro i m H' ⟨rfl, hi, ρ', st', acc, xs, g', s', hD', nD', ra, nda, hxs, hq⟩
    have ew' : EnvR X.K none ρ' H' (wipeW env vs) (wipe σ vs) := ew.grow s1.apart g'
    by_cases hlt : i < it.items.length
    · rw [List.drop_eq_getElem_cons hlt] at hq
      unfold dkW at hq
      split at hq
      · rename_i ck
        obtain ⟨go, stop⟩ := r ρ' H' st' g' s' ck i
        obtain ⟨hgo, hy⟩ := go _ (List.getElem?_eq_getElem hlt)
        refine .inr ⟨hgo, fun H2 => ∃ ρ st acc xs, Grow ρ1 H1 ρ H2 ∧ StR X.K ρ H2 st ∧ H2 D = some (dO X.prog X.w D xs) ∧ D ∉ ρ ∧ xs.map (·.1) = acc ∧ acc.Nodup ∧ (∀ x ∈ xs, TpF X.K H2 x.2.1 (x.1.map kV)) ∧ dkW it.Chk (wipeW env vs) t el (it.items.drop (i + 1)) acc st = some (fin, stf), fun H2 n => ⟨_, by omega, rfl, hlt, n⟩, fun x H2 y => ?_⟩
        obtain ⟨g2, s2, rv⟩ := hy x H2 y
        obtain ⟨hD2, nD2⟩ := grow_out g2 hD' nD'
        have e2 := ew'.grow s'.apart g2
        cases htt' : t it.items[i] (wipeW env vs) st' with
        | none => rw [htt'] at hq; cases hq
        | some pr =>
          obtain ⟨env3, st3⟩ := pr
          rw [htt'] at hq
          simp only at hq
          refine ⟨ρ', wipeW env vs, st', _, s2, e2, rv, env3, st3, htt', fun ρ3 H3 σ3 g3 s3 e3 w3 => ⟨w3.trans wipe_wipe, ?_⟩⟩
          obtain ⟨hD3, nD3⟩ := grow_out g3 hD2 nD2
          refine ⟨ρ3, env3, st3, s3, e3, ?_⟩
          generalize hel : el env3 st3 = re at hq
          cases re with
          | stuck => cases hq
          | err cc fs st5 => cases hq
          | ok y st5 =>
            intro ρ5 H5 yv g5 s5 ry
            simp only at hq
            cases hk : keyW y with
            | none => rw [hk] at hq; cases hq
            | some k =>
              rw [hk] at hq
              simp only at hq
              split at hq
              · rename_i hsz
                obtain ⟨hD5, nD5⟩ := grow_out g5 hD3 nD3
                have e5 := e3.grow s3.apart g5
                refine ⟨ρ5, env3, st5, s5, e5, ?_⟩
                intro ρ6 H6 zv g6 s6 rz
                obtain ⟨hD6, nD6⟩ := grow_out g6 hD5 nD5
                have g26 : Grow ρ' H' ρ6 H6 := g2.trans (g3.trans (g5.trans g6))
                have hxs6 : ∀ x ∈ xs, TpF X.K H6 x.2.1 (x.1.map kV) := fun x hx => (hxs x hx).grow s'.apart g26
                have ry' : VR X.K ρ5 H5 (tupK k) yv := by rw [← keyW_some hk]; exact ry
                obtain ⟨a, rfl, ta⟩ := vr_key.mp ry'
                have ta6 : TpF X.K H6 a (k.map kV) := ta.grow s5.apart g6
                have ez : zv = .bl true := by simpa only [relV, VR] using rz
                subst ez
                have hxl : xs.length < sizeLine := by rw [← ra, List.length_map] at hsz; exact hsz
                obtain ⟨i1, i2, i3⟩ := sideX_imm (o := dO X.prog X.w D (storedH xs k a (.bool true))) hD6
                refine ⟨xs, k, a, ⟨rfl, rfl⟩, ⟨ta6, hxs6⟩, ⟨by rw [ra]; exact nda, hxl⟩, hD6, ρ6, st5, addK acc k, storedH xs k a (.bool true), ?_, s6.sideX hD6 nD6, upd_same, nD6, by rw [storedH_keys, ra], addK_nodup nda, fun x hx => (storedH_all (p := fun k a => TpF X.K H6 a (k.map kV)) hxs6 ta6 x hx).imm i1, hq⟩
                have g16 : Grow ρ1 H1 ρ6 H6 := g'.trans g26
                exact ⟨g16.pre, fun a o ha hn => by rw [upd_ne (ne_of_none ha hD)]; exact g16.keep a o ha hn, fun a ha hn => by
                  by_cases z : a = D
                  · subst z; rw [upd_same]; simp
                  · rw [upd_ne z]; exact g16.live a ha hn⟩
              · cases hq
      · cases hq
    · have : i = it.items.length := by omega
      subst this
      rw [List.drop_length] at hq
      unfold dkW at hq
      split at hq
      · rename_i ck
        cases hq
        refine .inl ⟨(r ρ' H' _ g' s' ck _).2 (Nat.le_refl _), ?_⟩
        have hxl : xs.length ≤ sizeLine := by rw [← ra, List.length_map] at hfz; exact hfz
        refine ⟨D, xs, rfl, hD', hxl, fun p hp => ?_⟩
        have vx : VRs X.K ρ' H' (fin.map tupK) (xs.map fun x => V.ref x.2.1) := by
          rw [← ra]
          clear hl q ra nda hfz hD' hxl
          induction xs with
          | nil => simp [VRs]
          | cons x xs ih =>
            exact VRs.cons' (vr_key.mpr ⟨_, rfl, hxs x (List.mem_cons_self ..)⟩) (ih fun y hy => hxs y (List.mem_cons_of_mem _ hy))
        obtain ⟨sn, vn⟩ := lst_new s' vx hp
        exact q _ _ _ (g'.trans (grow_new hp)) sn vn
      · cases hq
theorem ie_dkList {kx tg iter : Expr} {scope : Scope} {own : List (Str × Nat)} {m : D ItW} {t : DT} {el : D W} {dpos : Pos} {vp : Nat} {vq : Pos} {j : Nat} (hr : Room j X.A) (hg0 : Gl X "list") (hm0 : X.mg "list" = none) (hc : X.calm = true) (hN : X.N.Nodup) (hi : II X none Wx tg iter m) (ok : BlkOk X.N X.env.scope scope own)
    (hg : ∀ (s : Shared) (H : Hp) (C : Addr) (cl : List (Str × Addr)) (fp : List Addr), IG (X.blk s H scope (compEnvC scope cl C X.env) fp) none (own.map (·.2)) tg t)
    (he : ∀ (s : Shared) (H : Hp) (C : Addr) (cl : List (Str × Addr)) (fp : List Addr), IE (X.blk s H scope (compEnvC scope cl C X.env) fp) none W0 kx el) (hs : ∀ x, foldedSetIterable iter X.env x = pure x := by intro _; rfl)
    (hst : starEach [(Expr.DictComp kx (.Constant (.bool true) vp vq) [⟨tg, iter, [], 0⟩] scope dpos)] X.env = (false, eval (Expr.DictComp kx (.Constant (.bool true) vp vq) [⟨tg, iter, [], 0⟩] scope dpos) X.env) :: starEach [] X.env := by rfl) :
    IE X none Wx (.Call (.Name "list" p) [Expr.DictComp kx (.Constant (.bool true) vp vq) [⟨tg, iter, [], 0⟩] scope dpos] [] pos) (dDk m (own.map (·.2)) t el) :=
  PE.of (pe_callTy (call_list_dO hc) hg0 hm0 (by decide +kernel) (pa_cons (pe_dx (Nat.lt_of_le_of_lt (Nat.le_add_right ..) hr.units) hc hN hi ok hg he (fun _ _ _ _ _ => ie_bl) hs) pa_nil hst) (by decide) (by decide) hst) fun σ H Q ⟨ρ, env, st, s, e, p⟩ => dk_read s e p
end
end
end MP
namespace MP
open PySem PySem.Spec PyProof.Rows L2 MPS
open PySem.W (AllAlike dataLe dataLt alike)
open Classical
noncomputable section
section
variable {X : Cx} {pins : List (Addr × Obj)} {σ : L2.St} {ρ0 : List Addr} {H0 : Hp} {st : Store} {m : Nat} {ws ks : List W} {dk : List PyData} {q l : Addr} {R : Result → Shared → Prop}
/-- which of two keys is the lesser one -/
def btD (dk : List PyData) (i j : Nat) : Bool := dataLt (dk.getD i .none) (dk.getD j .none)
theorem argBest_le (bt : Nat → Nat → Bool) : ∀ j, argBest bt j ≤ j
  | 0 => Nat.le_refl _
  | j + 1 => by
    unfold argBest
    split
    · exact Nat.le_refl _
    · exact Nat.le_succ_of_le (argBest_le bt j)
/-- the call of the key, and what stays -/
abbrev TurnK (X : Cx) (σ : L2.St) (st : Store) (ws ks : List W) (q : Addr) : Prop := ∀ (i : Nat) (x : V) (w k : W), ws[i]? = some w → ks[i]? = some k → ∀ (pins' : List (Addr × Obj)) (s' : Shared) (ρ' : List Addr) (H' : Hp) (u : Value), RelV x u → L2.Inv X pins' σ H' s' → StR X.K ρ' H' st → VR X.K ρ' H' w x →
  wpAny (model X.prog X.w) X.A.in1 (call (.ref q) [u]) (fun v s'' => ∃ y ρ'' H'', L2.Inv X pins' σ H'' s'' ∧ Grow ρ' H' ρ'' H'' ∧ StR X.K ρ'' H'' st ∧ RelV y v ∧ VR X.K ρ'' H'' k y) (fun _ _ => False) s'
theorem loc_list {s : Shared} {ρ : List Addr} {H : Hp} (I : L2.Inv X pins σ H s) (S : StR X.K ρ H st) (hm : st[m]? = some (.lst ws)) (hl : ρ[m]? = some l) :
    ∃ us its, VRs X.K ρ H ws us ∧ Vals us its ∧ s.heap.IsList l its.toArray ∧ its.length = ws.length ∧ H l ≠ none := by
  obtain ⟨a, ha, us, hu, rs⟩ := S.ob m _ hm
  rw [hl] at ha; cases ha
  have hq : SqL X.K H l us := .inl (.inl hu)
  obtain ⟨its, r, ⟨o, n, e1, e2, e3, e4⟩, z⟩ := I.list hq
  exact ⟨us, its, rs, r, ⟨o, e1, e2, n, e4⟩, by rw [VRs.length rs, Vals.length r], by rw [hu]; simp⟩
theorem grow_at {ρ ρ' : List Addr} {H H' : Hp} (g : Grow ρ H ρ' H') (hl : ρ[m]? = some l) : ρ'[m]? = some l := by
  obtain ⟨mm, e, _⟩ := g.pre
  subst e
  rw [List.getElem?_append_left (List.getElem?_eq_some_iff.mp hl).1]; exact hl
theorem minI_loop (hh : X.A.handled = none) (turn : TurnK X σ st ws ks q) (hm : st[m]? = some (.lst ws)) (hlen : ks.length = ws.length) (hd : ks.map (datF st 66) = dk.map some) (hal : ∀ a ∈ dk, ∀ b ∈ dk, alike a b = true ∧ a ≠ .none) (hu : ∀ d ∈ dk, X.A.units + 1 + d.depth < cLine) (kw : List (Str × Value))
    (hR : ∀ s' ρ' H' x v w, L2.Inv X pins σ H' s' → Grow ρ0 H0 ρ' H' → StR X.K ρ' H' st → RelV x v → ws[argBest (btD dk) (ws.length - 1)]? = some w → VR X.K ρ' H' w x → R (.ok (.ret v)) s') :
    ∀ (r j : Nat) (s : Shared) (ρ : List Addr) (H : Hp) (vb kb : Value) (x y : V) (w k : W) (c : Nat) (i S : Addr), ws.length - (j + 1) = r → j + 1 ≤ ws.length → L2.Inv X pins σ H s → Grow ρ0 H0 ρ H → StR X.K ρ H st → ρ[m]? = some l → FpOk X pins H i → FpOk X pins H S → S ≠ i →
      s.heap.IsListIter i l (j + 1) → s.heap.get? S = some (seqObj "list" #[vb, kb] c) → ws[argBest (btD dk) j]? = some w → ks[argBest (btD dk) j]? = some k → RelV x vb → VR X.K ρ H w x → RelV y kb → VR X.K ρ H k y →
      codeAny (model X.prog X.w) X.A (.builtin "min.loop" ⟨[.ref i, .ref q, .ref S], kw⟩) R s := by
  have hname : (toString "min" ++ toString ".loop" : String) = "min.loop" := by decide
  intro r
  induction r with
  | zero =>
    intro j s ρ H vb kb x y w k c i S hr hj I g T hl fi fs hSI hit hS hw hk rx vx ry vy
    have hin : j + 1 = ws.length := by omega
    obtain ⟨us, its, rs, rv, isl, hil, hll⟩ := loc_list I T hm hl
    have hli : l ≠ i := fun z => hll (z ▸ fi.1)
    have Wk := Walks.list (prog := X.prog) (w := X.w) (A := X.A.in1) hh i l hli its.toArray
    have hsz : its.toArray.size = ws.length := by rw [List.size_toArray, hil]
    refine codeAny_builtin PySem.F.entry_min_loop ?_
    rw [Around.under_plainId PySem.F.plain_min_loop _]
    show wpAny _ X.A.in1 (seqItems? (.ref S) >>= _) _ _ s
    refine wpAny_bind (wpAny_seqItems hS rfl ?_)
    show wpAny _ X.A.in1 (tryCatch (pyNext (.ref i)) _ >>= _) _ _ s
    refine wpAny_bind (wpAny_tryCatch (Wk.done s _ _ ⟨by rw [hsz, ← hin]; exact hit, isl⟩ fun h' tk' hk' => ?_))
    have hS' := hk' S _ (by simpa using hSI) hS
    have I1 := I.turned (t' := tk') (h' := h') (it := i) (fun b o hb e => hk' b o (by simpa using hb) e) fi.1 fi.2.1 fi.2.2.2.1 fi.2.2.2.2.1 fi.2.2.2.2.2
    have s1 := Heap.SameBut.update h' S (Obj.mapSeq fun _ => (#[] : Array Value))
    show wpAny _ X.A.in1 (updateSeq S (fun _ => #[]) >>= _) _ _ _
    refine wpAny_bind ?_
    refine wpAny_updateSeq hS' rfl (wpAny_bind (wpAny_letGo (wpAny_pure ?_)))
    have I2 := I1.turned (t' := tk') (h' := h'.update S (Obj.mapSeq fun _ => (#[] : Array Value))) (it := S) (fun b o hb e => (s1.2 b hb).trans e) fs.1 fs.2.1 fs.2.2.2.1 fs.2.2.2.2.1 fs.2.2.2.2.2
    exact hR _ ρ H x vb w I2 g T rx (by rw [← hin]; exact hw) vx
  | succ r ih =>
    intro j s ρ H vb kb x y w k c i S hr hj I g T hl fi fs hSI hit hS hw hk rx vx ry vy
    have hlt : j + 1 < ws.length := by omega
    obtain ⟨us, its, rs, rv, isl, hil, hll⟩ := loc_list I T hm hl
    have hli : l ≠ i := fun z => hll (z ▸ fi.1)
    have Wk := Walks.list (prog := X.prog) (w := X.w) (A := X.A.in1) hh i l hli its.toArray
    have hsz : its.toArray.size = ws.length := by rw [List.size_toArray, hil]
    refine codeAny_builtin PySem.F.entry_min_loop ?_
    rw [Around.under_plainId PySem.F.plain_min_loop _]
    show wpAny _ X.A.in1 (seqItems? (.ref S) >>= _) _ _ s
    refine wpAny_bind (wpAny_seqItems hS rfl ?_)
    show wpAny _ X.A.in1 (tryCatch (pyNext (.ref i)) _ >>= _) _ _ s
    refine wpAny_bind (wpAny_tryCatch (Wk.item (j + 1) s _ _ (by rw [hsz]; exact hlt) ⟨hit, isl⟩ fun v h' tk' hP hst' hk' => ?_))
    have hv : its[j + 1]? = some v := by simpa using hP
    obtain ⟨xv, hxv, rxv⟩ := vals_at rv (j + 1) v hv
    obtain ⟨wv, hwv, vwv⟩ := vrs_get rs hxv
    obtain ⟨kv, hkv⟩ : ∃ k, ks[j + 1]? = some k := ⟨_, List.getElem?_eq_getElem (by omega)⟩
    obtain ⟨oI, hoI, hoc, hod⟩ := id hst'.1
    have hS' := hk' S _ (by simpa using hSI) hS
    have I1 := I.turned (t' := tk') (h' := h') (it := i) (fun b o hb e => hk' b o (by simpa using hb) e) fi.1 fi.2.1 fi.2.2.2.1 fi.2.2.2.2.1 fi.2.2.2.2.2
    have Ip : L2.Inv X (pins ++ [(S, seqObj "list" #[vb, kb] c), (i, oI)]) σ H { s with heap := h', toks := tk' } := I1.pins_of fun p hp => by
      rcases List.mem_append.mp hp with hp | hp
      · exact I1.pin p (List.mem_append_right _ hp)
      · simp only [List.mem_cons, List.not_mem_nil, or_false] at hp
        rcases hp with rfl | rfl
        · exact ⟨hS', fs.1, fs.2.1, fs.2.2.1, fun v z => nomatch z⟩
        · exact ⟨hoI, fi.1, fi.2.1, fi.2.2.1, fun v z => by
            have := hod.symm.trans z
            cases this⟩
    show wpAny _ X.A.in1 (tryCatch (holding [v] (call (.ref q) [v])) _ >>= _) _ _ _
    refine wpAny_bind (wpAny_tryCatch (wpAny_holding (wpAny_mono (turn (j + 1) xv wv kv hwv hkv _ _ ρ H v rxv Ip T vwv) (fun kx s'' he => ?_) fun _ _ hF => hF.elim)))
    obtain ⟨z, ρ2, H2, I2, g2, T2, rz, vz⟩ := he
    obtain ⟨nS2, hs2, _⟩ := I2.pin (S, seqObj "list" #[vb, kb] c) (List.mem_append_right _ (List.mem_append_right _ (by simp)))
    obtain ⟨nI2, hi2, _⟩ := I2.pin (i, oI) (List.mem_append_right _ (List.mem_append_right _ (by simp)))
    have I2 : L2.Inv X pins σ H2 s'' := I2.unpinned
    have fi2 : FpOk X pins H2 i := ⟨hi2, fi.2⟩
    have fs2 : FpOk X pins H2 S := ⟨hs2, fs.2⟩
    have vx2 := VR.grow T.apart g2 w x vx
    have vy2 := VR.grow T.apart g2 k y vy
    have vw2 := VR.grow T.apart g2 wv xv vwv
    obtain ⟨d1, hd1, e1⟩ : ∃ d, dk[j + 1]? = some d ∧ datF st 66 kv = some d := by
      have := congrArg (·[j + 1]?) hd
      simp only [List.getElem?_map, hkv, Option.map_some] at this
      obtain ⟨d, hd, e⟩ := Option.map_eq_some_iff.mp this.symm
      exact ⟨d, hd, e.symm⟩
    obtain ⟨d2, hd2, e2⟩ : ∃ d, dk[argBest (btD dk) j]? = some d ∧ datF st 66 k = some d := by
      have := congrArg (·[argBest (btD dk) j]?) hd
      simp only [List.getElem?_map, hk, Option.map_some] at this
      obtain ⟨d, hd, e⟩ := Option.map_eq_some_iff.mp this.symm
      exact ⟨d, hd, e.symm⟩
    obtain ⟨as1, R1⟩ := L2.Dp.reads I2 d1 z _ (datF_dp T2 66 kv z d1 vz e1) rz
    obtain ⟨as2, R2⟩ := L2.Dp.reads I2 d2 y _ (datF_dp T2 66 k y d2 vy2 e2) ry
    have ha := hal d1 (List.mem_of_getElem? hd1) d2 (List.mem_of_getElem? hd2)
    have hu1 := hu d1 (List.mem_of_getElem? hd1)
    have hbt : dataLt d1 d2 = btD dk (j + 1) (argBest (btD dk) j) := by
      have gd : ∀ {i : Nat} {d : PyData}, dk[i]? = some d → dk.getD i .none = d := fun {i d} h => by rw [List.getD_eq_getElem?_getD, h]; rfl
      show dataLt d1 d2 = dataLt (dk.getD (j + 1) .none) (dk.getD (argBest (btD dk) j) .none)
      rw [gd hd1, gd hd2]
    show wpAny _ X.A.in1 (tryCatch (holding [v, kx] (richCompare .Lt kx kb >>= _)) _ >>= _) _ _ _
    refine wpAny_bind (wpAny_tryCatch (wpAny_holding (wpAny_bind (PySem.W.rcLt_alike d1 d2 X.A.in1 s'' kx kb as1 as2 R1 R2 ha.1 ha.2 (by show X.A.units + 1 + min d1.depth d2.depth < cLine; omega) X.prog X.w _ _ ?_))))
    refine wpAny_bind (wpAny_holding (wpAny_truthy_bool ?_))
    refine wpAny_bind (wpAny_letGo (wpAny_pure ?_))
    rw [hbt]
    cases hb : btD dk (j + 1) (argBest (btD dk) j) with
    | true =>
      have s1 := Heap.SameBut.update s''.heap S (Obj.mapSeq fun _ => #[v, kx])
      obtain ⟨c2, hc2⟩ : ∃ c2, (s''.heap.update S (Obj.mapSeq fun _ => #[v, kx])).get? S = some (seqObj "list" #[v, kx] c2) := ⟨_, get?_update_seq nS2 fun _ => #[v, kx]⟩
      simp only [if_true]
      refine wpAny_bind ?_
      refine wpAny_updateSeq nS2 rfl (wpAny_bind (wpAny_letGo ?_))
      rw [hname]
      have I3 := I2.turned (t' := s''.toks) (h' := s''.heap.update S (Obj.mapSeq fun _ => #[v, kx])) (it := S) (fun b o hb e => (s1.2 b hb).trans e) fs2.1 fs2.2.1 fs2.2.2.2.1 fs2.2.2.2.2.1 fs2.2.2.2.2.2
      have eb : argBest (btD dk) (j + 1) = j + 1 := by simp only [argBest, hb, if_true]
      exact wpAny_pure ⟨plainId_quiet PySem.F.plain_min_loop _, ih (j + 1) _ ρ2 H2 v kx xv z wv kv c2 i S (by omega) hlt I3 (g.trans g2) T2 (grow_at g2 hl) fi2 fs2 hSI ⟨oI, (s1.2 i hSI.symm).trans nI2, hoc, hod⟩ hc2 (by rw [eb]; exact hwv) (by rw [eb]; exact hkv) rxv vw2 rz vz⟩
    | false =>
      simp only [Bool.false_eq_true, if_false]
      refine wpAny_bind (wpAny_letGo ?_)
      rw [hname]
      have eb : argBest (btD dk) (j + 1) = argBest (btD dk) j := by simp only [argBest, hb, Bool.false_eq_true, if_false]
      exact wpAny_pure ⟨plainId_quiet PySem.F.plain_min_loop _, ih (j + 1) _ ρ2 H2 vb kb x y w k c i S (by omega) hlt I2 (g.trans g2) T2 (grow_at g2 hl) fi2 fs2 hSI ⟨oI, nI2, hoc, hod⟩ nS2 (by rw [eb]; exact hw) (by rw [eb]; exact hk) rx vx2 ry vy2⟩
/-- min(l, key=f, default=d) -/
theorem minI_run {s : Shared} {ρ : List Addr} {H : Hp} {Q : VK} {xd : V} {d : Value} (hh : X.A.handled = none) (I : L2.Inv X pins σ H s) (T : StR X.K ρ H st) (turn : TurnK X σ st ws ks q) (hm : st[m]? = some (.lst ws)) (hl : ρ[m]? = some l) (hlen : ks.length = ws.length) (hd : ks.map (datF st 66) = dk.map some) (hal : ∀ a ∈ dk, ∀ b ∈ dk, alike a b = true ∧ a ≠ .none) (hu : ∀ d ∈ dk, X.A.units + 1 + d.depth < cLine)
    (rd : RelV xd d) (h0 : ws = [] → ∀ ρ' H', Grow ρ H ρ' H' → StR X.K ρ' H' st → Q xd H') (h1 : ∀ ρ' H' x w, Grow ρ H ρ' H' → StR X.K ρ' H' st → ws[argBest (btD dk) (ws.length - 1)]? = some w → VR X.K ρ' H' w x → Q x H') :
    wpAny (model X.prog X.w) X.A (call (.builtin "min") [.ref l] [(Str.ofString "key", .ref q), (Str.ofString "default", d)]) (EP X pins σ Q) X.xe s := by
  have hname : (toString "min" ++ toString ".loop" : String) = "min.loop" := by decide
  obtain ⟨us, its, rs, rv, isl, hil, hll⟩ := loc_list I T hm hl
  refine PyProof.Rows.kmk_tree F.kind_min F.plain_min F.entry_min (args_min_key_default _ _ _) ?_
  show wpAny _ X.A.in1 (Builtin.Builtins.bindParams "min" ["key", "default"] 0 ⟨[], [(Str.ofString "key", .ref q), (Str.ofString "default", d)]⟩ >>= _) _ _ s
  refine wpAny_bind (wpAny_of_eq (show Builtin.Builtins.bindParams "min" ["key", "default"] 0 ⟨[], [(Str.ofString "key", .ref q), (Str.ofString "default", d)]⟩ = pure [some (.ref q), some d] from rfl) ?_)
  refine wpAny_bind (wpAny_pure ?_)
  refine wpAny_bind (wpAny_pyIter_list isl ?_)
  refine wpAny_bind (wpAny_newList ?_ (Nat.zero_le _))
  rw [hname]
  refine wpAny_pure ⟨plainId_quiet F.plain_min_loop _, ?_⟩
  have hSz : (s.heap.push { cls := .type "list_iterator", data := .fields #[.ref l, .int 0 0] }).objs.size = s.heap.objs.size + 1 := size_push' ..
  have keep : ∀ b u, s.heap.get? b = some u → ((s.heap.push { cls := .type "list_iterator", data := .fields #[.ref l, .int 0 0] }).push (seqObj "list" #[] 0)).get? b = some u := fun b u e => Heap.get?_push_of_some _ (Heap.get?_push_of_some _ e)
  have gI : ((s.heap.push { cls := .type "list_iterator", data := .fields #[.ref l, .int 0 0] }).push (seqObj "list" #[] 0)).get? s.heap.objs.size = some { cls := .type "list_iterator", data := .fields #[.ref l, .int 0 0] } := Heap.get?_push_of_some _ (Heap.get?_push_size _ rfl)
  have gS : ((s.heap.push { cls := .type "list_iterator", data := .fields #[.ref l, .int 0 0] }).push (seqObj "list" #[] 0)).get? (s.heap.push { cls := .type "list_iterator", data := .fields #[.ref l, .int 0 0] }).objs.size = some (seqObj "list" #[] 0) := Heap.get?_push_size _ rfl
  have fi : FpOk X pins H s.heap.objs.size := I.fpOk (Nat.le_refl _) (I.hok.fresh (Nat.le_refl _))
  have hle : s.heap.objs.size ≤ (s.heap.push { cls := .type "list_iterator", data := .fields #[.ref l, .int 0 0] }).objs.size := by rw [hSz]; omega
  have fs : FpOk X pins H (s.heap.push { cls := .type "list_iterator", data := .fields #[.ref l, .int 0 0] }).objs.size := I.fpOk hle (I.hok.fresh hle)
  have hSI : (s.heap.push { cls := .type "list_iterator", data := .fields #[.ref l, .int 0 0] }).objs.size ≠ s.heap.objs.size := by rw [hSz]; omega
  have I1 : L2.Inv X pins σ H { s with heap := (s.heap.push { cls := .type "list_iterator", data := .fields #[.ref l, .int 0 0] }).push (seqObj "list" #[] 0) } := I.kept (t' := s.toks) keep
  have isl1 : ((s.heap.push { cls := .type "list_iterator", data := .fields #[.ref l, .int 0 0] }).push (seqObj "list" #[] 0)).IsList l its.toArray := (isl.push _).push _
  generalize hi' : s.heap.objs.size = i at gI fi hSI ⊢
  generalize hS' : (s.heap.push { cls := .type "list_iterator", data := .fields #[.ref l, .int 0 0] }).objs.size = S at gS fs hSI ⊢
  show codeAny _ _ _ _ { s with heap := (s.heap.push { cls := .type "list_iterator", data := .fields #[.ref l, .int 0 0] }).push (seqObj "list" #[] 0) }
  generalize hs1 : ({ s with heap := (s.heap.push { cls := .type "list_iterator", data := .fields #[.ref l, .int 0 0] }).push (seqObj "list" #[] 0) } : Shared) = s1 at I1 ⊢
  have eh : s1.heap = (s.heap.push { cls := .type "list_iterator", data := .fields #[.ref l, .int 0 0] }).push (seqObj "list" #[] 0) := by rw [← hs1]
  rw [← eh] at gI gS isl1
  have hli : l ≠ i := fun z => hll (z ▸ fi.1)
  have Wk := Walks.list (prog := X.prog) (w := X.w) (A := X.A.in1) hh i l hli its.toArray
  have hsz : its.toArray.size = ws.length := by rw [List.size_toArray, hil]
  have hit : s1.heap.IsListIter i l 0 := ⟨_, gI, rfl, rfl⟩
  rcases Nat.eq_zero_or_pos ws.length with hn | hn
  · refine codeAny_builtin PySem.F.entry_min_loop ?_
    rw [Around.under_plainId PySem.F.plain_min_loop _]
    show wpAny _ X.A.in1 (seqItems? (.ref S) >>= _) _ _ s1
    refine wpAny_bind (wpAny_seqItems gS rfl ?_)
    show wpAny _ X.A.in1 (tryCatch (pyNext (.ref i)) _ >>= _) _ _ s1
    refine wpAny_bind (wpAny_tryCatch (Wk.done s1 _ _ ⟨by rw [hsz, hn]; exact hit, isl1⟩ fun h' tk' hk' => ?_))
    have I2 := I1.turned (t' := tk') (h' := h') (it := i) (fun b o hb e => hk' b o (by simpa using hb) e) fi.1 fi.2.1 fi.2.2.2.1 fi.2.2.2.2.1 fi.2.2.2.2.2
    show wpAny _ X.A.in1 (rule _ >>= _) _ _ _
    exact wpAny_bind (wpAny_rule (wpAny_pure ⟨xd, H, I2, rd, h0 (List.length_eq_zero_iff.mp hn) ρ H .refl T⟩))
  · refine codeAny_builtin PySem.F.entry_min_loop ?_
    rw [Around.under_plainId PySem.F.plain_min_loop _]
    show wpAny _ X.A.in1 (seqItems? (.ref S) >>= _) _ _ s1
    refine wpAny_bind (wpAny_seqItems gS rfl ?_)
    show wpAny _ X.A.in1 (tryCatch (pyNext (.ref i)) _ >>= _) _ _ s1
    refine wpAny_bind (wpAny_tryCatch (Wk.item 0 s1 _ _ (by rw [hsz]; exact hn) ⟨hit, isl1⟩ fun v h' tk' hP hst' hk' => ?_))
    have hv : its[0]? = some v := by simpa using hP
    obtain ⟨xv, hxv, rxv⟩ := vals_at rv 0 v hv
    obtain ⟨wv, hwv, vwv⟩ := vrs_get rs hxv
    obtain ⟨kv, hkv⟩ : ∃ k, ks[0]? = some k := ⟨_, List.getElem?_eq_getElem (by omega)⟩
    obtain ⟨oI, hoI, hoc, hod⟩ := id hst'.1
    have hS2 := hk' S _ (by simpa using hSI) gS
    have I2 := I1.turned (t' := tk') (h' := h') (it := i) (fun b o hb e => hk' b o (by simpa using hb) e) fi.1 fi.2.1 fi.2.2.2.1 fi.2.2.2.2.1 fi.2.2.2.2.2
    have Ip : L2.Inv X (pins ++ [(S, seqObj "list" #[] 0), (i, oI)]) σ H { s1 with heap := h', toks := tk' } := I2.pins_of fun p hp => by
      rcases List.mem_append.mp hp with hp | hp
      · exact I2.pin p (List.mem_append_right _ hp)
      · simp only [List.mem_cons, List.not_mem_nil, or_false] at hp
        rcases hp with rfl | rfl
        · exact ⟨hS2, fs.1, fs.2.1, fs.2.2.1, fun v z => nomatch z⟩
        · exact ⟨hoI, fi.1, fi.2.1, fi.2.2.1, fun v z => by
            have := hod.symm.trans z
            cases this⟩
    show wpAny _ X.A.in1 (tryCatch (holding [v] (call (.ref q) [v])) _ >>= _) _ _ _
    refine wpAny_bind (wpAny_tryCatch (wpAny_holding (wpAny_mono (turn 0 xv wv kv hwv hkv _ _ ρ H v rxv Ip T vwv) (fun kx s'' he => ?_) fun _ _ hF => hF.elim)))
    obtain ⟨z, ρ2, H2, I3, g2, T2, rz, vz⟩ := he
    obtain ⟨nS2, hs2, _⟩ := I3.pin (S, seqObj "list" #[] 0) (List.mem_append_right _ (List.mem_append_right _ (by simp)))
    obtain ⟨nI2, hi2, _⟩ := I3.pin (i, oI) (List.mem_append_right _ (List.mem_append_right _ (by simp)))
    have I3 : L2.Inv X pins σ H2 s'' := I3.unpinned
    have fi2 : FpOk X pins H2 i := ⟨hi2, fi.2⟩
    have fs2 : FpOk X pins H2 S := ⟨hs2, fs.2⟩
    have vw2 := VR.grow T.apart g2 wv xv vwv
    have s2 := Heap.SameBut.update s''.heap S (Obj.mapSeq fun _ => #[v, kx])
    obtain ⟨c2, hc2⟩ : ∃ c2, (s''.heap.update S (Obj.mapSeq fun _ => #[v, kx])).get? S = some (seqObj "list" #[v, kx] c2) := ⟨_, get?_update_seq nS2 fun _ => #[v, kx]⟩
    show wpAny _ X.A.in1 (updateSeq S (fun _ => #[v, kx]) >>= _) _ _ _
    refine wpAny_bind ?_
    refine wpAny_updateSeq nS2 rfl ?_
    rw [hname]
    have I4 := I3.turned (t' := s''.toks) (h' := s''.heap.update S (Obj.mapSeq fun _ => #[v, kx])) (it := S) (fun b o hb e => (s2.2 b hb).trans e) fs2.1 fs2.2.1 fs2.2.2.2.1 fs2.2.2.2.2.1 fs2.2.2.2.2.2
    exact wpAny_pure ⟨plainId_quiet PySem.F.plain_min_loop _, minI_loop (ρ0 := ρ) (H0 := H) hh turn hm hlen hd hal hu _ (fun s' ρ' H' x v w I' g' T' rx hw vx => ⟨x, H', I', rx, h1 ρ' H' x w g' T' hw vx⟩) _ 0 _ ρ2 H2 v kx xv z wv kv c2 i S rfl hn I4 g2 T2 (grow_at g2 hl) fi2 fs2 hSI ⟨oI, (s2.2 i hSI.symm).trans nI2, hoc, hod⟩ hc2 hwv hkv rxv vw2 rz vz⟩
end
/-- min(l, key=f, default=d): l in the store -/
def minKW (den : List W → Store → Res W) (d : W) (l : List W) (st : Store) : Res W := match l with
  | [.loc m] => match st[m]? with
    | some (.lst ws) => match allO (ws.map (keyO den st)) with
      | some ps => if (∀ a ∈ ps.map Prod.snd, ∀ b ∈ ps.map Prod.snd, alike a b = true ∧ a ≠ .none) ∧ (∀ p ∈ ps, p.2.depth ≤ 62) then
          (match ws with
          | [] => .ok d st
          | _ => match ws[argBest (btD (ps.map Prod.snd)) (ws.length - 1)]? with
            | some w => .ok w st
            | none => .stuck) else .stuck
      | none => .stuck
    | _ => .stuck
  | _ => .stuck
section
variable {X : Cx} {ex : Option Exn} {Wx : WX} {pos p pf kp kp2 dp : Pos} {dq : Nat} {e : Expr} {m : D W} {f : Str} {ps : List Str} {j : Nat} {den : List W → Store → Res W}
theorem minKW_err {d : W} {l : List W} {st st' : Store} {c : Str} {w : W} : minKW den d l st ≠ .err c w st' := by
  unfold minKW
  intro h
  split at h
  · split at h
    · split at h
      · split at h
        · split at h
          · cases h
          · split at h <;> cases h
        · cases h
      · cases h
    · cases h
  · cases h
theorem cr_minK (G : FnF X.prog X.w X.K X.mg X.base f ps j 1 den) (hr : Room (j + 1) X.A) (hc : X.calm = true) : CallRK X (.builtin "min") [Str.ofString "key", Str.ofString "default"] (fun vs zs H Q => zs = [.ref G.f, .non] ∧ ∃ (ρ : List Addr) (st : Store) (l : List W) (v : W) (st' : Store), StR X.K ρ H st ∧ VRs X.K ρ H l vs ∧ minKW den .non l st = .ok v st' ∧ ∀ ρ' H' x, Grow ρ H ρ' H' → StR X.K ρ' H' st' → VR X.K ρ' H' v x → Q x H') := fun pins s σ H xs zs us ws Q I rx rz q => by
  obtain ⟨rfl, ρ, st, l, v, st', S, rl, hs, fin⟩ := q
  cases rz with
  | cons r0 rn =>
    cases rn with
    | cons r00 rn0 =>
    cases rn0
    rename_i u0 u00
    obtain rfl : u0 = Value.ref G.f := r0
    obtain rfl : u00 = Value.none := r00
    unfold minKW at hs
    split at hs
    · rename_i m
      obtain ⟨x, rfl, ra⟩ := vrs1 rl
      simp only [VR] at ra
      obtain ⟨a, ha, rfl⟩ := ra
      cases rx with
      | cons r1 r2 =>
        cases r2
        rename_i u1
        obtain rfl : u1 = Value.ref a := r1
        split at hs
        · rename_i wsl hl
          split at hs
          · rename_i pl hp
            split at hs
            · rename_i hcd
              obtain ⟨h1, h2⟩ := allO_get hp
              have hkd : (pl.map Prod.fst).map (datF st 66) = (pl.map Prod.snd).map some := by
                rw [List.map_map, List.map_map]
                refine List.map_congr_left fun p hpm => ?_
                obtain ⟨i, hi⟩ := List.getElem?_of_mem hpm
                have hlt : i < wsl.length := by rw [← h1]; exact (List.getElem?_eq_some_iff.mp hi).1
                obtain ⟨b, hb, hf⟩ := h2 i wsl[i] (List.getElem?_eq_getElem hlt)
                rw [hi] at hb; cases hb
                exact (keyO_some hf).2
              refine minI_run (ks := pl.map Prod.fst) (dk := pl.map Prod.snd) (xd := .non) (I.ok.hd hc) I S ?_ hl ha (by simp [h1]) hkd hcd.1 (fun d hd => ?_) rfl ?_ ?_
              · intro i x w k hw hk pins' s' ρ' H' u rxu I' S' vw
                obtain ⟨b, hb, hf⟩ := h2 i w hw
                rw [List.getElem?_map, hb] at hk
                simp only [Option.map_some, Option.some.injEq] at hk
                subst hk
                exact run_den G hr.in1 I'.env0.in1 rxu I' S' vw (keyO_some hf).1
              · obtain ⟨p, hpm, rfl⟩ := List.mem_map.mp hd
                have h64 := hcd.2 p hpm
                have := hr.un
                show X.A.units + 1 + p.2.depth < cLine
                omega
              · intro hw0 ρ' H' g' S'
                subst hw0
                simp only at hs
                cases hs
                exact fin ρ' H' _ g' S' (by simp [VR])
              · intro ρ' H' x w g' S' hw vx
                split at hs
                · simp at hw
                · rw [hw] at hs
                  simp only at hs
                  cases hs
                  exact fin ρ' H' x g' S' vx
            · cases hs
          · cases hs
        · cases hs
    · cases hs
theorem ie_minK (G : FnF X.prog X.w X.K X.mg X.base f ps j 1 den) (hr : Room (j + 1) X.A) (hc : X.calm = true) (hg : Gl X "min") (hm : X.mg "min" = none) (he : IE X ex Wx e m) (hgf : Gl X f := by rfl) (hdf : (f == ("__debug__" : Str)) = false := by decide)
    (hst : starEach [e] X.env = (false, eval e X.env) :: starEach [] X.env := by rfl)
    (hbt : backTo pos (starEach [e] X.env) = (false, eval e X.env) :: backTo pos (starEach [] X.env) := by rfl) (hpl : (backTo pos (starEach [e] X.env)).any (·.1) = false := by rfl)
    (hall : (backToKw pos (keywordEach [⟨some "key", .Name f pf, kp⟩, ⟨some "default", .Constant .none dq dp, kp2⟩] X.env)).all (·.1.isSome) = true := by rfl) (hnone : (backToKw pos (keywordEach [⟨some "key", .Name f pf, kp⟩, ⟨some "default", .Constant .none dq dp, kp2⟩] X.env)).any (·.1.isNone) = false := by rfl) (hks : (backToKw pos (keywordEach [⟨some "key", .Name f pf, kp⟩, ⟨some "default", .Constant .none dq dp, kp2⟩] X.env)).filterMap (·.1) = [Str.ofString "key", Str.ofString "default"] := by rfl) :
    IE X ex Wx (.Call (.Name "min" p) [e] [⟨some "key", .Name f pf, kp⟩, ⟨some "default", .Constant .none dq dp, kp2⟩] pos) (dApp (minKW den .non) (dCons m dNil)) :=
  PE.of (pe_callBK (cr_minK G hr hc) hg hm rfl (ia_cons he ia_nil hst) (pk_cons (pe_glob (v := .ref G.f) hgf G.m rfl hdf) (pk_cons pe_non pk_nil)) (by decide) (by decide) hbt hpl hall hnone hks) fun σ H Q ⟨ρ, env, st, s, e, p⟩ => RG.bind s e p fun ρ1 H1 st1 l vs g1 s1 e1 r p1 => by
    refine ⟨rfl, ρ1, st1, l, ?_⟩
    generalize hq : minKW den .non l st1 = res at p1
    cases res with
    | ok v st' => exact ⟨v, st', s1, r, rfl, fun ρ' H' x g s r => p1 ρ' H' x g s r⟩
    | err c w st' => exact absurd hq minKW_err
    | stuck => exact p1.elim
end
/-! ### not in a list of data -/
def notInDW (a b : W) (st : Store) : Res W := match datF st 66 a, datF st 66 b with
  | some d, some (.list ds) => if SeqAt.shaped d = true ∧ SeqAt.shaped (.list ds) = true then .ok (.bl (!ds.any fun z => PyData.eqv z d)) st else .stuck
  | _, _ => .stuck
section
variable {X : Cx} {ex : Option Exn} {Wx : WX} {a b : Expr} {ma mb : D W} {pos : Pos} {k : Nat}
theorem notInD_ok : OpOk X (rNotInD X.K) notInDW := fun Wx ρ H st σ a b x y Q s ra rb p => by
  unfold notInDW at p
  split at p
  · rename_i d ds hd he
    split at p
    · rename_i hz
      exact ⟨d, ds, datF_dp s 66 a x d ra hd, datF_dp s 66 b y _ rb he, hz.1, hz.2, post_bl s p⟩
    · exact p.elim
  · exact p.elim
theorem ie_notInD (hr : Room k X.A) (ha : IE X ex Wx a ma) (hb : IE X ex Wx b mb) (hm : behindInMarks .NotIn b = false := by with_unfolding_all rfl) : IE X ex Wx (.Compare a [.NotIn] [b] pos) (dOp notInDW ma mb) := ie_cmp (op_notInD (by have := hr.un; omega)) notInD_ok ha hb hm
theorem it_notInD (hr : Room k X.A) (ha : IE X ex Wx a ma) (hb : IE X ex Wx b mb) (hm : behindInMarks .NotIn b = false := by with_unfolding_all rfl) : IT X ex Wx (.Compare a [.NotIn] [b] pos) (dBool (dOp notInDW ma mb)) := it_cmp (op_notInD (by have := hr.un; omega)) notInD_ok ha hb hm
end
/-! ### min of a list of whole numbers -/
def minZ (n : Int) (ns : List Int) : Int := ns.foldl min n
theorem minZ_le : ∀ (ns : List Int) (n : Int), minZ n ns ≤ n ∧ ∀ y ∈ ns, minZ n ns ≤ y
  | [], n => ⟨Int.le_refl _, fun _ h => nomatch h⟩
  | a :: ns, n => by
    obtain ⟨h1, h2⟩ := minZ_le ns (min n a)
    have e : minZ n (a :: ns) = minZ (min n a) ns := rfl
    rw [e]
    refine ⟨Int.le_trans h1 (Int.min_le_left ..), fun y hy => ?_⟩
    rcases List.mem_cons.mp hy with rfl | hy
    · exact Int.le_trans h1 (Int.min_le_right ..)
    · exact h2 y hy
theorem minZ_mem : ∀ (ns : List Int) (n : Int), minZ n ns = n ∨ minZ n ns ∈ ns
  | [], n => .inl rfl
  | a :: ns, n => by
    have e : minZ n (a :: ns) = minZ (min n a) ns := rfl
    rw [e]
    rcases minZ_mem ns (min n a) with h | h
    · rw [h]
      rcases (show min n a = n ∨ min n a = a by omega) with z | z
      · exact .inl z
      · rw [z]; exact .inr List.mem_cons_self
    · exact .inr (List.mem_cons_of_mem _ h)
def minLW (l : List W) (st : Store) : Res W := match l with
  | [a] => match nums st a with
    | some (n :: ns) => .ok (.int (minZ n ns)) st
    | _ => .stuck
  | _ => .stuck
section
variable {X : Cx} {ex : Option Exn} {Wx : WX} {e : Expr} {es : List Expr} {p pos : Pos}
theorem minL_ok : CallOk X (rMin X.K) minLW := fun Wx ρ H st σ l vs Q s r q => by
  unfold minLW at q
  split at q
  · rename_i a
    split at q
    · rename_i n ns hn
      obtain ⟨x, rfl, ra⟩ := vrs1 r
      obtain ⟨a', rfl, h⟩ := nums_of s ra hn
      refine ⟨a', n :: ns, rfl, h, by simp, fun m h1 h2 => ?_⟩
      obtain ⟨l1, l2⟩ := minZ_le ns n
      have e : m = minZ n ns := by
        have g1 : minZ n ns ≤ m := by
          rcases List.mem_cons.mp h1 with rfl | h1
          · exact l1
          · exact l2 m h1
        have g2 : m ≤ minZ n ns := h2 _ (by
          rcases minZ_mem ns n with z | z
          · rw [z]; exact List.mem_cons_self
          · exact List.mem_cons_of_mem _ z)
        omega
      rw [e]
      exact post_int s q
    · exact q.elim
  · exact q.elim
theorem ie_minL {m : D (List W)} (hc : X.calm = true) (hg : Gl X "min") (hm : X.mg "min" = none) (ha : IA X ex Wx (e :: es) m) (he : starEach (e :: es) X.env = (false, eval e X.env) :: starEach es X.env := by rfl) (hpl : (backTo pos (starEach es X.env)).any (·.1) = false := by rfl) :
    IE X ex Wx (.Call (.Name "min" p) (e :: es) [] pos) (dApp minLW m) := ie_callB (cr_min hc) minL_ok hg hm (by decide +kernel) ha (by decide) (by decide) he hpl
end
end
end MP
namespace MP
open PySem PySem.Spec PyProof.Rows L2
open Classical
noncomputable section
/-! ### how a denotation is worked out: each step by its own row, what comes later stays folded -/
def kOp1 (f : W → W → Store → Res W) (mb : D W) (env : EnvW) (a : W) (st : Store) : Res W := (mb env st).bind (f a)
def kIf (ma mb : D W) (env : EnvW) (b : Bool) (st : Store) : Res W := if b = true then ma env st else mb env st
def kCons1 (r : D (List W)) (env : EnvW) (a : W) (st : Store) : Res (List W) := (r env st).bind fun l st2 => .ok (a :: l) st2
def kTup (l : List W) (st : Store) : Res W := if l.length ≤ sizeLine then .ok (.tup l) st else .stuck
def kLst (l : List W) (st : Store) : Res W := if l.length ≤ sizeLine then .ok (.loc st.length) (st ++ [.lst l]) else .stuck
def kBool (a : W) (st : Store) : Res Bool := match a with
  | .bl b => .ok b st
  | _ => .stuck
def kAnd (b : D Bool) (env : EnvW) (c : Bool) (st : Store) : Res Bool := if c = true then b env st else .ok false st
def kOr (b : D Bool) (env : EnvW) (c : Bool) (st : Store) : Res Bool := if c = true then .ok true st else b env st
def kNot (c : Bool) (st : Store) : Res Bool := .ok (!c) st
def kAndV (b : D W) (env : EnvW) (x : W) (st : Store) : Res W := match x with
  | .bl c => if c = true then b env st else .ok (.bl false) st
  | _ => .stuck
def kOrV (b : D W) (env : EnvW) (x : W) (st : Store) : Res W := match x with
  | .bl c => if c = true then .ok (.bl true) st else b env st
  | _ => .stuck
def kNotV (x : W) (st : Store) : Res W := match x with
  | .bl c => .ok (.bl (!c)) st
  | _ => .stuck
def kCh1 (f g : W → W → Store → Res W) (mb mc : D W) (env : EnvW) (a : W) (st : Store) : Res W := (mb env st).bind fun b st2 => (f a b st2).bind fun x st3 => match x with
  | .bl true => (mc env st3).bind fun c st4 => g b c st4
  | .bl false => .ok (.bl false) st3
  | _ => .stuck
def kCall (n : Nat) (den : List W → Store → Res W) (l : List W) (st : Store) : Res W := if l.length = n then den l st else .stuck
def kBm (ty : W → Store → Bool) (g : W → List W → Store → Res W) (m : D (List W)) (env : EnvW) (a : W) (st : Store) : Res W := if ty a st = true then (m env st).bind (g a) else .stuck
def kSl1 (lo hi : D (Option Int)) (env : EnvW) (a : W) (st : Store) : Res W := (lo env st).bind fun l st2 => (hi env st2).bind fun h st3 => slW a l h st3
def kPart (a : W) (st : Store) : Res (Option Int) := match a with
  | .int i => .ok (some i) st
  | _ => .stuck
def kLc (env : EnvW) (t : DT) (c : D Bool) (e : D W) (it : ItW) (st : Store) : Res W := match lcW it.Chk env t c e it.items [] st with
  | some (acc, st2) => .ok (.loc st2.length) (st2 ++ [.lst acc])
  | none => .stuck
def kR1 (l : List W) (st : Store) : Res ItW := match l with
  | [.int j] => rangeW 0 j st
  | _ => .stuck
def kR2 (l : List W) (st : Store) : Res ItW := match l with
  | [.int i, .int j] => rangeW i j st
  | _ => .stuck
section
variable {α β : Type} {f g : W → W → Store → Res W} {ma mb mc : D W} {r : D (List W)} {env : EnvW} {st st1 : Store} {a b : W}
@[simp] theorem dC_ap (w : W) : dC w env st = .ok w st := rfl
@[simp] theorem dExc_ap (w : W) : dExc w env st = .ok w st := rfl
@[simp] theorem dVar_ap (i : Nat) : dVar i env st = (match env[i]? with | some (some w) => .ok w st | _ => .stuck) := rfl
@[simp] theorem dOp_ap : dOp f ma mb env st = (ma env st).bind (kOp1 f mb env) := rfl
@[simp] theorem kOp1_ap : kOp1 f mb env a st = (mb env st).bind (f a) := rfl
@[simp] theorem dUn_ap (u : W → Store → Res W) : dUn u ma env st = (ma env st).bind u := rfl
@[simp] theorem dIf_ap (c : D Bool) : dIf c ma mb env st = (c env st).bind (kIf ma mb env) := rfl
@[simp] theorem kIf_t : kIf ma mb env true st = ma env st := rfl
@[simp] theorem kIf_f : kIf ma mb env false st = mb env st := rfl
@[simp] theorem dNil_ap : dNil env st = .ok [] st := rfl
@[simp] theorem dCons_ap : dCons ma r env st = (ma env st).bind (kCons1 r env) := rfl
def kCons2 (a : W) (l : List W) (st : Store) : Res (List W) := .ok (a :: l) st
@[simp] theorem kCons1_ap : kCons1 r env a st = (r env st).bind (kCons2 a) := rfl
@[simp] theorem kCons2_ap (l : List W) : kCons2 a l st = .ok (a :: l) st := rfl
@[simp] theorem dTup_ap : dTup r env st = (r env st).bind kTup := rfl
@[simp] theorem dLst_ap : dLst r env st = (r env st).bind kLst := rfl
theorem kTup_ok {l : List W} (h : l.length ≤ sizeLine) : kTup l st = .ok (.tup l) st := if_pos h
theorem kLst_ok {l : List W} (h : l.length ≤ sizeLine) : kLst l st = .ok (.loc st.length) (st ++ [.lst l]) := if_pos h
@[simp] theorem dApp_ap (m : List W → Store → Res W) : dApp m r env st = (r env st).bind m := rfl
@[simp] theorem dBool_ap : dBool ma env st = (ma env st).bind kBool := rfl
@[simp] theorem kBool_ap (c : Bool) : kBool (.bl c) st = .ok c st := rfl
@[simp] theorem dAnd_ap (x y : D Bool) : dAnd x y env st = (x env st).bind (kAnd y env) := rfl
@[simp] theorem kAnd_t (y : D Bool) : kAnd y env true st = y env st := rfl
@[simp] theorem kAnd_f (y : D Bool) : kAnd y env false st = .ok false st := rfl
@[simp] theorem dOr_ap (x y : D Bool) : dOr x y env st = (x env st).bind (kOr y env) := rfl
@[simp] theorem kOr_t (y : D Bool) : kOr y env true st = .ok true st := rfl
@[simp] theorem kOr_f (y : D Bool) : kOr y env false st = y env st := rfl
@[simp] theorem dNot_ap (x : D Bool) : dNot x env st = (x env st).bind kNot := rfl
@[simp] theorem kNot_ap (c : Bool) : kNot c st = .ok (!c) st := rfl
@[simp] theorem dAndV_ap : dAndV ma mb env st = (ma env st).bind (kAndV mb env) := rfl
@[simp] theorem kAndV_t : kAndV mb env (.bl true) st = mb env st := rfl
@[simp] theorem kAndV_f : kAndV mb env (.bl false) st = .ok (.bl false) st := rfl
@[simp] theorem dOrV_ap : dOrV ma mb env st = (ma env st).bind (kOrV mb env) := rfl
@[simp] theorem kOrV_t : kOrV mb env (.bl true) st = .ok (.bl true) st := rfl
@[simp] theorem kOrV_f : kOrV mb env (.bl false) st = mb env st := rfl
@[simp] theorem dNotV_ap : dNotV ma env st = (ma env st).bind kNotV := rfl
@[simp] theorem kNotV_ap (c : Bool) : kNotV (.bl c) st = .ok (.bl (!c)) st := rfl
@[simp] theorem dChain_ap : dChain f g ma mb mc env st = (ma env st).bind (kCh1 f g mb mc env) := rfl
def kCh2 (f g : W → W → Store → Res W) (mc : D W) (env : EnvW) (a b : W) (st : Store) : Res W := (f a b st).bind fun x st3 => match x with
  | .bl true => (mc env st3).bind fun c st4 => g b c st4
  | .bl false => .ok (.bl false) st3
  | _ => .stuck
def kCh3 (g : W → W → Store → Res W) (mc : D W) (env : EnvW) (b x : W) (st3 : Store) : Res W := match x with
  | .bl true => (mc env st3).bind fun c st4 => g b c st4
  | .bl false => .ok (.bl false) st3
  | _ => .stuck
@[simp] theorem kCh1_ap : kCh1 f g mb mc env a st = (mb env st).bind (kCh2 f g mc env a) := rfl
@[simp] theorem kCh2_ap : kCh2 f g mc env a b st = (f a b st).bind (kCh3 g mc env b) := rfl
@[simp] theorem kCh3_t : kCh3 g mc env b (.bl true) st = (mc env st).bind (g b) := rfl
@[simp] theorem kCh3_f : kCh3 g mc env b (.bl false) st = .ok (.bl false) st := rfl
@[simp] theorem dCall_ap (n : Nat) (den : List W → Store → Res W) : dCall n den r env st = (r env st).bind (kCall n den) := rfl
@[simp] theorem kCall_1 (den : List W → Store → Res W) : kCall 1 den [a] st = den [a] st := rfl
@[simp] theorem kCall_2 (den : List W → Store → Res W) : kCall 2 den [a, b] st = den [a, b] st := rfl
@[simp] theorem dBm_ap (ty : W → Store → Bool) (m : W → List W → Store → Res W) : dBm ty m ma r env st = (ma env st).bind (kBm ty m r env) := rfl
@[simp] theorem kBm_s (m : W → List W → Store → Res W) (x : Str) : kBm tyS m r env (.str x) st = (r env st).bind (m (.str x)) := rfl
theorem kBm_l (m : W → List W → Store → Res W) {n : Nat} {ws : List W} (h : st[n]? = some (.lst ws)) : kBm tyL m r env (.loc n) st = (r env st).bind (m (.loc n)) := by
  unfold kBm tyL; simp only [h, Option.isSome_some, if_true]
@[simp] theorem dSl_ap (lo hi : D (Option Int)) : dSl ma lo hi env st = (ma env st).bind (kSl1 lo hi env) := rfl
def kSl2 (hi : D (Option Int)) (env : EnvW) (a : W) (l : Option Int) (st : Store) : Res W := (hi env st).bind fun h st3 => slW a l h st3
@[simp] theorem kSl1_ap (lo hi : D (Option Int)) : kSl1 lo hi env a st = (lo env st).bind (kSl2 hi env a) := rfl
@[simp] theorem kSl2_ap (hi : D (Option Int)) (l : Option Int) : kSl2 hi env a l st = (hi env st).bind (slW a l) := rfl
@[simp] theorem dNoPart_ap : dNoPart env st = .ok none st := rfl
@[simp] theorem dPart_ap : dPart ma env st = (ma env st).bind kPart := rfl
@[simp] theorem kPart_ap (i : Int) : kPart (.int i) st = .ok (some i) st := rfl
@[simp] theorem dIt_ap : dIt ma env st = (ma env st).bind itOf := rfl
@[simp] theorem dLc_ap (m : D ItW) (vs : List Nat) (t : DT) (c : D Bool) (e : D W) : dLc m vs t c e env st = (m env st).bind (kLc (wipeW env vs) t c e) := rfl
@[simp] theorem dRange1_ap : dRange1 r env st = (r env st).bind kR1 := by
  unfold dRange1 dRange
  dsimp only
  cases h : r env st with
  | ok l st1 =>
    simp only [Res.bind_ok]
    unfold kR1
    split
    · rfl
    · rename_i hx
      simp only [Res.bind_stuck]
      try (split; · exact (hx _ rfl).elim; · rfl)
  | err => rfl
  | stuck => rfl
@[simp] theorem dRange2_ap : dRange2 r env st = (r env st).bind kR2 := by
  unfold dRange2 dRange
  dsimp only
  cases h : r env st with
  | ok l st1 =>
    simp only [Res.bind_ok]
    unfold kR2
    split
    · rfl
    · rename_i hx
      simp only [Res.bind_stuck]
      try (split; · exact (hx _ _ rfl).elim; · rfl)
  | err => rfl
  | stuck => rfl
theorem kR1_ok {j : Int} (h : -(2 ^ 62) ≤ j) (h' : j < 2 ^ 62) : kR1 [.int j] st = .ok ⟨intsW 0 j.toNat, none⟩ st := by
  show rangeW 0 j st = _
  unfold rangeW
  rw [if_pos ⟨by decide, by decide, h, h'⟩, Int.sub_zero]
theorem kR2_ok {i j : Int} (h0 : 0 ≤ i) (h1 : i < 2 ^ 62) (h : 0 ≤ j) (h' : j < 2 ^ 62) : kR2 [.int i, .int j] st = .ok ⟨intsW i (j - i).toNat, none⟩ st := by
  show rangeW i j st = _
  unfold rangeW
  rw [if_pos ⟨by omega, h1, by omega, h'⟩]
@[simp] theorem itOf_tup (ws : List W) : itOf (.tup ws) st = .ok ⟨ws, none⟩ st := rfl
@[simp] theorem itOf_fro (ws : List W) : itOf (.fro ws) st = .ok ⟨ws, none⟩ st := rfl
@[simp] theorem itOf_str (x : Str) : itOf (.str x) st = .ok ⟨signs x, none⟩ st := rfl
theorem itOf_loc {n : Nat} {ws : List W} (h : st[n]? = some (.lst ws)) : itOf (.loc n) st = .ok ⟨ws, some n⟩ st := by
  unfold itOf; simp only [h]
end
/-! statements -/
def kExpr (env : EnvW) (_ : W) (st : Store) : RsS := .go .nx env st
def kRet (env : EnvW) (a : W) (st : Store) : RsS := .go (.rt a) env st
def kSIf (a b : DS) (env : EnvW) (k : Bool) (st : Store) : RsS := if k = true then a env st else b env st
def kAsg (t : DT) (env : EnvW) (a : W) (st : Store) : RsS := match t a env st with
  | some (env', st2) => .go .nx env' st2
  | none => .stuck
def kFor (t : DT) (b : DS) (env : EnvW) (it : ItW) (st : Store) : RsS := forW it.Chk t b it.items env st
def kRaise (x : Str) (env : EnvW) (l : List W) (st : Store) : RsS := match l with
  | [w] => .err x w env st
  | _ => .stuck
def kTry (i : Nat) (sub : Str → Option Bool) (su : Str → W → DS) : RsS → RsS
  | .err c w env1 st1 => match sub c with
    | some true => if i < env1.length then unAt i (su c w (env1.set i none) st1) else .stuck
    | some false => .err c w env1 st1
    | none => .stuck
  | r => r
section
variable {env : EnvW} {st st1 : Store} {m : D W} {a b : DS}
@[simp] theorem sSeq_ap : sSeq a b env st = (a env st).next b := rfl
@[simp] theorem RsS.next_er (c : Str) (w : W) (k) : (RsS.err c w env st).next k = .err c w env st := rfl
@[simp] theorem sNil_ap : sNil env st = .go .nx env st := rfl
@[simp] theorem sExpr_ap : sExpr m env st = (m env st).then env (kExpr env) := rfl
@[simp] theorem kExpr_ap (w : W) : kExpr env w st = .go .nx env st := rfl
@[simp] theorem sRet_ap : sRet m env st = (m env st).then env (kRet env) := rfl
@[simp] theorem kRet_ap (w : W) : kRet env w st = .go (.rt w) env st := rfl
@[simp] theorem sIf_ap (c : D Bool) : sIf c a b env st = (c env st).then env (kSIf a b env) := rfl
@[simp] theorem kSIf_t : kSIf a b env true st = a env st := rfl
@[simp] theorem kSIf_f : kSIf a b env false st = b env st := rfl
@[simp] theorem sAsg_ap (t : DT) : sAsg m t env st = (m env st).then env (kAsg t env) := rfl
@[simp] theorem kAsg_n (i : Nat) (w : W) : kAsg (tName i) env w st = .go .nx (env.set i (some w)) st := rfl
@[simp] theorem tName_ap (i : Nat) (w : W) : tName i w env st = some (env.set i (some w), st) := rfl
@[simp] theorem sFor_ap (m : D ItW) (t : DT) : sFor m t b env st = (m env st).then env (kFor t b env) := rfl
@[simp] theorem sRaise_ap (x : Str) (m : D (List W)) : sRaise x m env st = (m env st).then env (kRaise x env) := rfl
@[simp] theorem kRaise_ap (x : Str) (w : W) : kRaise x env [w] st = .err x w env st := rfl
@[simp] theorem sTryAs_ap (i : Nat) (sub : Str → Option Bool) (su : Str → W → DS) : sTryAs i b sub su env st = kTry i sub su (b env st) := by
  unfold sTryAs kTry
  cases b env st <;> rfl
@[simp] theorem kTry_go (i : Nat) (sub : Str → Option Bool) (su : Str → W → DS) (f : Fl) : kTry i sub su (.go f env st) = .go f env st := rfl
theorem kTry_err {i : Nat} {sub : Str → Option Bool} {su : Str → W → DS} {c : Str} {w : W} (h : sub c = some true) (hi : i < env.length) : kTry i sub su (.err c w env st) = unAt i (su c w (env.set i none) st) := by
  unfold kTry; simp only [h, if_pos hi]
@[simp] theorem unAt_go (i : Nat) (f : Fl) : unAt i (.go f env st) = .go f (env.set i none) st := rfl
/-! a def's end -/
def fnR (st0 : Store) : RsS → Res W
  | .go (.rt v) _ st' => gc st0 v st'
  | .go .nx _ st' => gc st0 .non st'
  | .err c w _ st' => .err c w st'
  | _ => .stuck
theorem fnDen_ap (k : Nat) (ws : List W) : fnDen k b ws st = fnR st (b (ws.map some ++ List.replicate (k - ws.length) none) st) := by
  unfold fnDen fnR
  split <;> rename_i h <;> simp only [h]
@[simp] theorem fnR_rt (v : W) : fnR st1 (.go (.rt v) env st) = gc st1 v st := rfl
@[simp] theorem fnR_nx : fnR st1 (.go .nx env st) = gc st1 .non st := rfl
@[simp] theorem fnR_err (c : Str) (w : W) : fnR st1 (.err c w env st) = .err c w st := rfl
end
/-! stores -/
/-- later, but for the list at p: what was there is there -/
structure Ext (p : Nat) (st st' : Store) : Prop where
  le : st.length ≤ st'.length
  keep : ∀ i, i < st.length → i ≠ p → st'[i]? = st[i]?
/-- the same, and nothing new -/
structure Kp (p : Nat) (st st' : Store) : Prop where
  len : st'.length = st.length
  keep : ∀ i, i ≠ p → st'[i]? = st[i]?
theorem Kp.ext {p : Nat} {st st' : Store} (h : Kp p st st') : Ext p st st' := ⟨by rw [h.len]; exact Nat.le_refl _, fun i _ hp => h.keep i hp⟩
theorem Ext.refl {p : Nat} {st : Store} : Ext p st st := ⟨Nat.le_refl _, fun _ _ _ => rfl⟩
theorem Kp.refl {p : Nat} {st : Store} : Kp p st st := ⟨rfl, fun _ _ => rfl⟩
theorem Ext.trans {p : Nat} {a b c : Store} (h : Ext p a b) (h' : Ext p b c) : Ext p a c :=
  ⟨Nat.le_trans h.le h'.le, fun i hi hp => (h'.keep i (Nat.lt_of_lt_of_le hi h.le) hp).trans (h.keep i hi hp)⟩
theorem Kp.trans {p : Nat} {a b c : Store} (h : Kp p a b) (h' : Kp p b c) : Kp p a c :=
  ⟨h'.len.trans h.len, fun i hp => (h'.keep i hp).trans (h.keep i hp)⟩
theorem Ext.app {p : Nat} {st : Store} (g : Store) : Ext p st (st ++ g) := ⟨by simp, fun i hi _ => List.getElem?_append_left hi⟩
theorem Ext.get {p i : Nat} {o : Ob} {st st' : Store} (h : Ext p st st') (e : st[i]? = some o) (hp : i ≠ p) : st'[i]? = some o := by
  rw [h.keep i (List.getElem?_eq_some_iff.mp e).1 hp, e]
theorem get_app {i : Nat} {o : Ob} {st : Store} (g : Store) (e : st[i]? = some o) : (st ++ g)[i]? = some o := by
  rw [List.getElem?_append_left (List.getElem?_eq_some_iff.mp e).1, e]
@[simp] theorem get_here (st : Store) (o : Ob) (g : Store) : (st ++ o :: g)[st.length]? = some o := by simp
@[simp] theorem get_here1 (st : Store) (o o1 : Ob) (g : Store) : (st ++ o :: o1 :: g)[st.length + 1]? = some o1 := by simp
@[simp] theorem get_here2 (st : Store) (o o1 o2 : Ob) (g : Store) : (st ++ o :: o1 :: o2 :: g)[st.length + 2]? = some o2 := by simp
/-- a list whose items need no store -/
def flatO : Ob → Prop | .lst ws => ∀ n, clBs n ws = true
theorem flatO.cl {o : Ob} (h : flatO o) (n : Nat) : clO n o = true := by
  cases o with
  | lst ws => exact h n
theorem gcx_ok {p : Nat} {st st' : Store} {v : W} (h : Ext p st st') (hp : ∀ o, p < st.length → st'[p]? = some o → flatO o) (hv : clB st.length v = true) : gc st v st' = .ok v (st'.take st.length) := by
  have g : GcOk st st' := fun i hi => by
    by_cases e : i = p
    · subst e
      have hl : i < st'.length := Nat.lt_of_lt_of_le hi h.le
      exact .inr ⟨st'[i], List.getElem?_eq_getElem hl, (hp _ hi (List.getElem?_eq_getElem hl)).cl _⟩
    · exact .inl (h.keep i hi e)
  unfold gc; rw [if_pos g, if_pos hv]
theorem Ext.take {p : Nat} {st st' : Store} (h : Ext p st st') : Kp p st (st'.take st.length) :=
  ⟨by simp [h.le], fun i hp => by
    rw [List.getElem?_take]
    split
    · rename_i hi; exact h.keep i hi hp
    · rename_i hi; rw [List.getElem?_eq_none (Nat.le_of_not_lt hi)]⟩
theorem gc_app {st g : Store} {v : W} (hv : clB st.length v = true) : gc st v (st ++ g) = .ok v st := by
  have e : GcOk st (st ++ g) := fun i hi => .inl (List.getElem?_append_left hi)
  unfold gc; rw [if_pos e, if_pos hv, List.take_left]
theorem gc_same {st : Store} {v : W} (hv : clB st.length v = true) : gc st v st = .ok v st := by
  have := gc_app (g := []) hv; rwa [List.append_nil] at this
theorem gc_new {p m : Nat} {st st' : Store} {ws : List W} (h : Ext p st st') (hp : ∀ o, p < st.length → st'[p]? = some o → flatO o) (hm : st.length ≤ m) (e : st'[m]? = some (.lst ws)) (hw : clBs st.length ws = true) : gc st (.loc m) st' = .ok (.loc st.length) (st'.take st.length ++ [.lst ws]) := by
  have g : GcOk st st' := fun i hi => by
    by_cases e : i = p
    · subst e
      have hl : i < st'.length := Nat.lt_of_lt_of_le hi h.le
      exact .inr ⟨st'[i], List.getElem?_eq_getElem hl, (hp _ hi (List.getElem?_eq_getElem hl)).cl _⟩
    · exact .inl (h.keep i hi e)
  have hv : ¬ clB st.length (.loc m) = true := by simp [clB]; omega
  unfold gc; rw [if_pos g, if_neg hv]
  simp only [e, if_pos hw]
theorem gc_newA {m : Nat} {st g : Store} {ws : List W} (hm : st.length ≤ m) (e : (st ++ g)[m]? = some (.lst ws)) (hw : clBs st.length ws = true) : gc st (.loc m) (st ++ g) = .ok (.loc st.length) (st ++ [.lst ws]) := by
  have := gc_new (p := st.length) (Ext.app g) (fun o h _ => absurd h (Nat.lt_irrefl _)) hm e hw
  rwa [List.take_left] at this
/-! loops -/
theorem forW_ok {chk : Store → Prop} {t : DT} {b : DS} (I : Nat → EnvW → Store → Prop) (hc : ∀ i env st, I i env st → chk st) : ∀ (ws : List W) (k : Nat) (env : EnvW) (st : Store),
    (∀ i w env st, ws[i]? = some w → I (k + i) env st → ∃ env1 st1 env2 st2, t w env st = some (env1, st1) ∧ b env1 st1 = .go .nx env2 st2 ∧ I (k + i + 1) env2 st2) → I k env st →
    ∃ env' st', forW chk t b ws env st = .go .nx env' st' ∧ I (k + ws.length) env' st'
  | [], k, env, st, _, h => ⟨env, st, by unfold forW; rw [if_pos (hc _ _ _ h)], h⟩
  | w :: ws, k, env, st, hs, h => by
    obtain ⟨env1, st1, env2, st2, e1, e2, h2⟩ := hs 0 w env st rfl h
    obtain ⟨env', st', e3, h3⟩ := forW_ok I hc ws (k + 1) env2 st2 (fun i w env st hw hI => by
      have := hs (i + 1) w env st (by simpa using hw) (by rwa [show k + (i + 1) = k + 1 + i by omega])
      rwa [show k + (i + 1) + 1 = k + 1 + i + 1 by omega] at this) h2
    refine ⟨env', st', ?_, ?_⟩
    · unfold forW
      rw [if_pos (hc _ _ _ h), e1]
      dsimp only
      rw [e2]; exact e3
    · rw [List.length_cons, show k + (ws.length + 1) = k + 1 + ws.length by omega]; exact h3
theorem lcW_ok {chk : Store → Prop} {env : EnvW} {t : DT} {e : D W} (J : Nat → List W → Store → Prop) (hc : ∀ i acc st, J i acc st → chk st) : ∀ (ws acc : List W) (st : Store),
    (∀ i w acc st, ws[i]? = some w → acc.length + ws.length ≤ acc.length + ws.length → J i acc st → ∃ env1 st1 y st3, t w env st = some (env1, st1) ∧ e env1 st1 = .ok y st3 ∧ J (i + 1) (acc ++ [y]) st3) → acc.length + ws.length ≤ sizeLine → J 0 acc st →
    ∃ l st', lcW chk env t dYes e ws acc st = some (acc ++ l, st') ∧ l.length = ws.length ∧ J ws.length (acc ++ l) st'
  | [], acc, st, _, _, h => ⟨[], st, by unfold lcW; rw [if_pos (hc _ _ _ h), List.append_nil], rfl, by simpa using h⟩
  | w :: ws, acc, st, hs, hl, h => by
    obtain ⟨env1, st1, y, st3, e1, e2, h2⟩ := hs 0 w acc st rfl (Nat.le_refl _) h
    simp only [List.length_cons] at hl
    obtain ⟨l, st', e3, hn, h3⟩ := lcW_ok (fun i => J (i + 1)) (fun i => hc (i + 1)) ws (acc ++ [y]) st3 (fun i w acc st hw _ hI => hs (i + 1) w acc st (by simpa using hw) (Nat.le_refl _) hI) (by simp; omega) h2
    refine ⟨y :: l, st', ?_, by simp [hn], ?_⟩
    · unfold lcW
      rw [if_pos (hc _ _ _ h), e1]
      dsimp only [dYes]
      rw [e2]
      dsimp only
      rw [if_pos (by omega), e3]; simp
    · simpa using h3
/-- each item by itself: the store stays -/
theorem lcW_map {chk : Store → Prop} {env : EnvW} {i : Nat} {e : D W} {st : Store} (f : W → W) (hc : chk st) {ws : List W} (hs : ∀ w ∈ ws, e (env.set i (some w)) st = .ok (f w) st) (hl : ws.length ≤ sizeLine) :
    lcW chk env (tName i) dYes e ws [] st = some (ws.map f, st) := by
  have key : ∀ (ws acc : List W), (∀ w ∈ ws, e (env.set i (some w)) st = .ok (f w) st) → acc.length + ws.length ≤ sizeLine → lcW chk env (tName i) dYes e ws acc st = some (acc ++ ws.map f, st) := by
    intro ws
    induction ws with
    | nil => intro acc _ _; unfold lcW; rw [if_pos hc]; simp
    | cons w ws ih =>
      intro acc hs hl
      simp only [List.length_cons] at hl
      unfold lcW
      rw [if_pos hc]
      dsimp only [tName, dYes]
      rw [hs w List.mem_cons_self]
      dsimp only
      rw [if_pos (by omega), ih (acc ++ [f w]) (fun w m => hs w (List.mem_cons_of_mem _ m)) (by simp; omega)]
      simp
  have := key ws [] hs (by simpa using hl)
  simpa using this
theorem kLc_map {env : EnvW} {i : Nat} {e : D W} {st : Store} {it : ItW} (f : W → W) (hc : it.Chk st) (hs : ∀ w ∈ it.items, e (env.set i (some w)) st = .ok (f w) st) (hl : it.items.length ≤ sizeLine) :
    kLc env (tName i) dYes e it st = .ok (.loc st.length) (st ++ [.lst (it.items.map f)]) := by
  unfold kLc; rw [lcW_map f hc hs hl]
theorem kLc_ok {env : EnvW} {i : Nat} {e : D W} {st : Store} {ws : List W} (J : Nat → List W → Store → Prop)
    (hs : ∀ k w acc st, ws[k]? = some w → J k acc st → ∃ y st3, e (env.set i (some w)) st = .ok y st3 ∧ J (k + 1) (acc ++ [y]) st3) (hl : ws.length ≤ sizeLine) (h : J 0 [] st) :
    ∃ l st', kLc env (tName i) dYes e ⟨ws, none⟩ st = .ok (.loc st'.length) (st' ++ [.lst l]) ∧ l.length = ws.length ∧ J ws.length l st' := by
  obtain ⟨l, st', e1, hn, h1⟩ := lcW_ok (chk := (ItW.mk ws none).Chk) (env := env) (t := tName i) (e := e) J (fun _ _ _ _ => by simp) ws [] st (fun k w acc st hw _ hJ => by
    obtain ⟨y, st3, e2, h2⟩ := hs k w acc st hw hJ
    exact ⟨_, _, y, st3, rfl, e2, h2⟩) (by simpa using hl) h
  refine ⟨l, st', ?_, hn, by simpa using h1⟩
  unfold kLc
  simp only [List.nil_append] at e1
  rw [e1]
theorem allO_of {α β : Type} (f : α → Option β) (g : α → β) : ∀ (l : List α), (∀ a ∈ l, f a = some (g a)) → allO (l.map f) = some (l.map g)
  | [], _ => rfl
  | a :: l, h => by
    show allO (f a :: l.map f) = _
    rw [h a List.mem_cons_self]
    show (allO (l.map f)).map _ = _
    rw [allO_of f g l (fun a m => h a (List.mem_cons_of_mem _ m))]; rfl
theorem allW_ok {st : Store} {n : Nat} {bs : List Bool} (h : st[n]? = some (.lst (bs.map W.bl))) : allW [.loc n] st = .ok (.bl (bs.all id)) st := by
  unfold allW bls lstW
  simp only [h, Option.bind_some, List.map_map]
  have e : allO (bs.map (blOf ∘ W.bl)) = some (bs.map id) := allO_of _ id _ fun _ _ => rfl
  rw [e]
  simp
end
end MP
namespace MP
open PySem PySem.Spec PyProof.Rows L2
open Classical
noncomputable section
/-! ### values without a store -/
def okS (x : Str) : Bool := decide (x.length ≤ 8192) && x.cps.toList.all (fun c => decide (c < 128))
theorem okS_iff {x : Str} : okS x = true ↔ x.length ≤ 8192 ∧ ∀ c ∈ x.cps.toList, c < 128 := by
  unfold okS; rw [Bool.and_eq_true, decide_eq_true_iff, List.all_eq_true]; simp only [decide_eq_true_eq]
theorem okS.ok {x : Str} (h : okS x = true) : PyData.strOk x = true := by
  obtain ⟨_, h⟩ := okS_iff.mp h
  unfold PyData.strOk
  rw [Array.all_eq_true]
  intro i hi
  have := h x.cps[i] (by simp)
  simp; omega
theorem okS.len {x : Str} (h : okS x = true) : x.length ≤ 8192 := (okS_iff.mp h).1
theorem okS.line {x : Str} (h : okS x = true) : x.length ≤ sizeLine := Nat.le_trans (okS_iff.mp h).1 (by decide)
def puB : Nat → W → Bool
  | 0, _ => false
  | n + 1, w => match w with
    | .non => true
    | .bl _ => true
    | .int _ => true
    | .str x => okS x
    | .tup ws => decide (ws.length ≤ 8192) && ws.all (puB n)
    | _ => false
def dat : Nat → W → PyData
  | 0, _ => .none
  | n + 1, w => match w with
    | .non => .none
    | .bl b => .bool b
    | .int i => .int i
    | .str x => .str x
    | .tup ws => .tuple (ws.map (dat n))
    | _ => .none
theorem datF_pu : ∀ (n : Nat) (w : W), puB n w = true → ∀ (m : Nat) (st : Store), n ≤ m → datF st m w = some (dat n w)
  | 0, _, h, _, _, _ => by simp [puB] at h
  | n + 1, w, h, 0, st, hm => by omega
  | n + 1, w, h, m + 1, st, hm => by
    cases w with
    | non => rfl
    | bl => rfl
    | int => rfl
    | str => rfl
    | tup ws =>
      simp only [puB, Bool.and_eq_true, List.all_eq_true] at h
      simp only [datF, dat]
      rw [allO_of _ (dat n) ws fun a ha => datF_pu n a (h.2 a ha) m st (by omega)]; rfl
    | fro ws => simp [puB] at h
    | loc k => simp [puB] at h
    | gl v => simp [puB] at h
    | rng i j => simp [puB] at h
theorem canAll {f : W → PyData} : ∀ {ws : List W}, (∀ w ∈ ws, (f w).canLay0 = true) → PyData.canLayAll0 (ws.map f) = true
  | [], _ => rfl
  | w :: ws, h => by
    rw [List.map_cons, PyData.canLayAll0.eq_2, h w List.mem_cons_self, canAll fun w m => h w (List.mem_cons_of_mem _ m)]; rfl
theorem depAll {f : W → PyData} {n : Nat} : ∀ {ws : List W}, (∀ w ∈ ws, (f w).depth ≤ n) → PyData.depthAll (ws.map f) ≤ n
  | [], _ => Nat.zero_le _
  | w :: ws, h => by
    rw [List.map_cons, PyData.depthAll.eq_2]
    exact Nat.max_le.mpr ⟨h w List.mem_cons_self, depAll fun w m => h w (List.mem_cons_of_mem _ m)⟩
theorem eqvAll_refl {f : W → PyData} : ∀ {ws : List W}, (∀ w ∈ ws, (f w).eqv (f w) = true) → PyData.eqvAll (ws.map f) (ws.map f) = true
  | [], _ => rfl
  | w :: ws, h => by
    rw [List.map_cons, PyData.eqvAll.eq_2, h w List.mem_cons_self, eqvAll_refl fun w m => h w (List.mem_cons_of_mem _ m)]; rfl
theorem can_pu : ∀ (n : Nat) (w : W), puB n w = true → (dat n w).canLay0 = true
  | 0, _, h => by simp [puB] at h
  | n + 1, w, h => by
    cases w with
    | str x => exact okS.ok h
    | tup ws =>
      simp only [puB, Bool.and_eq_true, List.all_eq_true] at h
      exact canAll fun a ha => can_pu n a (h.2 a ha)
    | _ => rfl
theorem dep_pu : ∀ (n : Nat) (w : W), puB n w = true → (dat n w).depth ≤ n
  | 0, _, h => by simp [puB] at h
  | n + 1, w, h => by
    cases w with
    | tup ws =>
      simp only [puB, Bool.and_eq_true, List.all_eq_true] at h
      simp only [dat]
      rw [PyData.depth.eq_2]
      exact Nat.succ_le_succ (depAll fun a ha => dep_pu n a (h.2 a ha))
    | _ => exact Nat.zero_le _
theorem eqv_pu : ∀ (n : Nat) (w : W), puB n w = true → (dat n w).eqv (dat n w) = true
  | 0, _, h => by simp [puB] at h
  | n + 1, w, h => by
    cases w with
    | tup ws =>
      simp only [puB, Bool.and_eq_true, List.all_eq_true] at h
      simp only [dat]
      rw [PyData.eqv.eq_8]
      exact eqvAll_refl fun a ha => eqv_pu n a (h.2 a ha)
    | bl b => simp only [dat]; rw [PyData.eqv.eq_2]; simp
    | int b => simp only [dat]; rw [PyData.eqv.eq_5]; simp
    | str b => simp only [dat]; rw [PyData.eqv.eq_6]; simp
    | non => rfl
    | _ => simp [puB] at h
mutual
theorem cl_pu (k : Nat) : ∀ (n : Nat) (w : W), puB n w = true → clB k w = true
  | 0, _, h => by simp [puB] at h
  | n + 1, w, h => by
    cases w with
    | tup ws =>
      simp only [puB, Bool.and_eq_true, List.all_eq_true] at h
      simp only [clB]
      exact cls_pu k n ws h.2
    | _ => first | rfl | simp [puB] at h
theorem cls_pu (k : Nat) : ∀ (n : Nat) (ws : List W), (∀ w ∈ ws, puB n w = true) → clBs k ws = true
  | n, [], _ => rfl
  | n, w :: ws, h => by
    simp only [clBs, Bool.and_eq_true]
    exact ⟨cl_pu k n w (h w List.mem_cons_self), cls_pu k n ws fun w m => h w (List.mem_cons_of_mem _ m)⟩
end
/-- depth enough for what the laws draw -/
abbrev pu (w : W) : Prop := puB 5 w = true
abbrev d5 (w : W) : PyData := dat 5 w
/-- u: the value w as it stands in the store -/
inductive Pic (st : Store) : W → W → Prop
  | pu (w : W) (h : pu w) : Pic st w w
  | ls (k : Nat) (ws : List W) (h : st[k]? = some (.lst ws)) (hl : ws.length ≤ 8192) (hw : ∀ w ∈ ws, pu w) : Pic st (.loc k) (.fro ws)
def dU : W → PyData
  | .fro ws => .list (ws.map d5)
  | w => d5 w
theorem dU_pu {w : W} (h : pu w) : dU w = d5 w := by cases w <;> first | rfl | exact nomatch (show false = true from h)
theorem Pic.dat {st : Store} {w u : W} (h : Pic st w u) (m : Nat) (hm : 6 ≤ m) : datF st m w = some (dU u) := by
  cases h with
  | pu _ h => rw [dU_pu h]; exact datF_pu 5 w h m st (by omega)
  | ls k ws h hl hw =>
    obtain ⟨m, rfl⟩ : ∃ m', m = m' + 1 := ⟨m - 1, by omega⟩
    simp only [datF, h, dU]
    rw [allO_of _ d5 ws fun a ha => datF_pu 5 a (hw a ha) m st (by omega)]; rfl
theorem Pic.shp {st : Store} {w u : W} (h : Pic st w u) : (dU u).canLay0 = true ∧ (dU u).depth ≤ 6 := by
  cases h with
  | pu _ h => rw [dU_pu h]; exact ⟨can_pu 5 w h, Nat.le_trans (dep_pu 5 w h) (by decide)⟩
  | ls k ws h hl hw =>
    simp only [dU]
    exact ⟨canAll fun a ha => can_pu 5 a (hw a ha), by rw [PyData.depth.eq_1]; exact Nat.succ_le_succ (depAll fun a ha => dep_pu 5 a (hw a ha))⟩
theorem Pic.refl {st : Store} {w u : W} (h : Pic st w u) : (dU u).eqv (dU u) = true := by
  cases h with
  | pu _ h => rw [dU_pu h]; exact eqv_pu 5 w h
  | ls k ws h hl hw =>
    simp only [dU]; rw [PyData.eqv.eq_7]
    exact eqvAll_refl fun a ha => eqv_pu 5 a (hw a ha)
theorem shaped_of {d : PyData} (h : d.canLay0 = true ∧ d.depth ≤ 64) : SeqAt.shaped d = true := by
  rw [SeqAt.shaped.eq_1, h.1]; simp [h.2]
theorem eqW_of {st : Store} {a b : W} {d e : PyData} (h : datF st 66 a = some d) (h' : datF st 66 b = some e) (s : SeqAt.shaped d = true) (s' : SeqAt.shaped e = true) : eqW a b st = .ok (.bl (d.eqv e)) st := by
  unfold eqW; simp only [h, h', if_pos (And.intro s s')]
theorem neW_of {st : Store} {a b : W} {d e : PyData} (h : datF st 66 a = some d) (h' : datF st 66 b = some e) (s : SeqAt.shaped d = true) (s' : SeqAt.shaped e = true) : neW a b st = .ok (.bl (!d.eqv e)) st := by
  unfold neW; simp only [h, h', if_pos (And.intro s s')]
theorem pic_eq {st : Store} {a b u v : W} (h : Pic st a u) (h' : Pic st b v) : eqW a b st = .ok (.bl ((dU u).eqv (dU v))) st :=
  eqW_of (h.dat 66 (by decide)) (h'.dat 66 (by decide)) (shaped_of ⟨h.shp.1, by have := h.shp.2; omega⟩) (shaped_of ⟨h'.shp.1, by have := h'.shp.2; omega⟩)
theorem pic_ne {st : Store} {a b u v : W} (h : Pic st a u) (h' : Pic st b v) : neW a b st = .ok (.bl (!(dU u).eqv (dU v))) st :=
  neW_of (h.dat 66 (by decide)) (h'.dat 66 (by decide)) (shaped_of ⟨h.shp.1, by have := h.shp.2; omega⟩) (shaped_of ⟨h'.shp.1, by have := h'.shp.2; omega⟩)
theorem pu_str {x : Str} (h : okS x = true) : pu (.str x) := h
theorem eqW_str {st : Store} {x y : Str} (h : okS x = true) (h' : okS y = true) : eqW (.str x) (.str y) st = .ok (.bl (x == y)) st := by
  rw [pic_eq (.pu _ (pu_str h)) (.pu _ (pu_str h'))]
  simp only [dU, d5, dat, PyData.eqv.eq_6]
theorem neW_str {st : Store} {x y : Str} (h : okS x = true) (h' : okS y = true) : neW (.str x) (.str y) st = .ok (.bl (!(x == y))) st := by
  rw [pic_ne (.pu _ (pu_str h)) (.pu _ (pu_str h'))]
  simp only [dU, d5, dat, PyData.eqv.eq_6]
@[simp] theorem eqW_int {st : Store} {x y : Int} : eqW (.int x) (.int y) st = .ok (.bl (x == y)) st := by
  rw [pic_eq (.pu _ rfl) (.pu _ rfl)]
  simp only [dU, d5, dat, PyData.eqv.eq_5]
@[simp] theorem eqW_bl {st : Store} {x y : Bool} : eqW (.bl x) (.bl y) st = .ok (.bl (x == y)) st := by
  rw [pic_eq (.pu _ rfl) (.pu _ rfl)]
  simp only [dU, d5, dat, PyData.eqv.eq_2]
@[simp] theorem neW_bl {st : Store} {x y : Bool} : neW (.bl x) (.bl y) st = .ok (.bl (!(x == y))) st := by
  rw [pic_ne (.pu _ rfl) (.pu _ rfl)]
  simp only [dU, d5, dat, PyData.eqv.eq_2]
/-! what is asked of a value -/
def tyU : W → String
  | .non => "NoneType"
  | .bl _ => "bool"
  | .int _ => "int"
  | .str _ => "str"
  | .tup _ => "tuple"
  | .rng _ _ => "NoneType"
  | _ => "list"
theorem Pic.ty {st : Store} {w u : W} (h : Pic st w u) : tyN st w = some (tyU u) := by
  cases h with
  | pu _ h => cases w <;> first | rfl | exact nomatch (show false = true from h)
  | ls k ws h hl hw => simp only [tyN, h, tyU]
theorem isi_of {st : Store} {w : W} {t n : String} {b : Bool} (h : tyN st w = some t) (hk : kitB t n = some b) : isiW [w, .gl (.ty n)] st = .ok (.bl b) st := by
  unfold isiW; simp only [h, hk]
theorem isi2_of {st : Store} {w : W} {t A B : String} {x y : Bool} (h : tyN st w = some t) (hA : kitB t A = some x) (hB : kitB t B = some y) : isi2W A B w st = .ok (.bl (x || y)) st := by
  unfold isi2W; simp only [h, hA, hB]
theorem kB_str (u : W) : kitB (tyU u) "str" = some (match u with | .str _ => true | _ => false) := by cases u <;> rfl
theorem kB_tup (u : W) : kitB (tyU u) "tuple" = some (match u with | .tup _ => true | _ => false) := by cases u <;> rfl
theorem kB_list (u : W) : kitB (tyU u) "list" = some (match u with | .fro _ => true | .loc _ => true | .gl _ => true | _ => false) := by cases u <;> rfl
theorem kB_bool (u : W) : kitB (tyU u) "bool" = some (match u with | .bl _ => true | _ => false) := by cases u <;> rfl
theorem kB_int (u : W) : kitB (tyU u) "int" = some (match u with | .bl _ => true | .int _ => true | _ => false) := by cases u <;> rfl
def isS : W → Bool | .str _ => true | _ => false
def isT : W → Bool | .tup _ => true | _ => false
def isL : W → Bool | .fro _ => true | .loc _ => true | .gl _ => true | _ => false
theorem pic_isS {st : Store} {w u : W} (h : Pic st w u) : isiW [w, .gl (.ty "str")] st = .ok (.bl (isS u)) st := isi_of h.ty (by rw [kB_str]; cases u <;> rfl)
theorem pic_isT {st : Store} {w u : W} (h : Pic st w u) : isiW [w, .gl (.ty "tuple")] st = .ok (.bl (isT u)) st := isi_of h.ty (by rw [kB_tup]; cases u <;> rfl)
theorem pic_isL {st : Store} {w u : W} (h : Pic st w u) : isiW [w, .gl (.ty "list")] st = .ok (.bl (isL u)) st := isi_of h.ty (by rw [kB_list]; cases u <;> rfl)
theorem pic_is2 {st : Store} {w u : W} (h : Pic st w u) : isi2W "tuple" "list" w st = .ok (.bl (isT u || isL u)) st := isi2_of h.ty (by rw [kB_tup]; cases u <;> rfl) (by rw [kB_list]; cases u <;> rfl)
/-! places -/
theorem atI_nat {α : Type} {l : List α} {i : Nat} (h : i < l.length) : atI l (i : Int) = l[i]? := by
  unfold atI ixN
  rw [if_pos (by omega), if_pos (by omega)]
  simp
theorem atI_int {α : Type} {l : List α} {i : Int} (h0 : 0 ≤ i) (h : i < l.length) : atI l i = l[i.toNat]? := by
  have := atI_nat (l := l) (i := i.toNat) (by omega)
  rwa [Int.toNat_of_nonneg h0] at this
theorem atI_last {α : Type} {l : List α} (h : 0 < l.length) : atI l (-1) = l[l.length - 1]? := by
  unfold atI ixN
  rw [if_neg (by omega), if_pos (by omega)]
  have : ((-1 : Int) + (l.length : Int)).toNat = l.length - 1 := by omega
  simp [this]
theorem ix_mem {st : Store} {a : W} {ws : List W} {i : Int} (h : seqW st a = some ws) (h0 : 0 ≤ i) (hi : i < ws.length) : ∃ w, w ∈ ws ∧ ws[i.toNat]? = some w ∧ ixW a (.int i) st = .ok w st := by
  have hl : i.toNat < ws.length := by omega
  refine ⟨ws[i.toNat], List.getElem_mem hl, List.getElem?_eq_getElem hl, ?_⟩
  unfold ixW
  cases a with
  | str z => simp [seqW] at h
  | _ => simp only [h, atI_int h0 hi, List.getElem?_eq_getElem hl]
theorem ix_str {x : Str} {i : Int} (hx : x.length ≤ sizeLine) (h0 : 0 ≤ i) (hi : i < x.length) : ∃ c, x.cps.toList[i.toNat]? = some c ∧ c ∈ x.cps.toList ∧ ∀ st, ixW (.str x) (.int i) st = .ok (.str ⟨#[c]⟩) st := by
  have hl : i.toNat < x.cps.toList.length := by simp [Str.length] at hi; simp; omega
  refine ⟨x.cps.toList[i.toNat], List.getElem?_eq_getElem hl, List.getElem_mem hl, fun st => ?_⟩
  have hi' : i < x.cps.toList.length := by omega
  unfold ixW
  simp only [if_pos hx, atI_int h0 hi', List.getElem?_eq_getElem hl]
theorem ix_strL {x : Str} (hx : x.length ≤ sizeLine) (h : 0 < x.length) : ∃ c, x.cps.toList[x.length - 1]? = some c ∧ c ∈ x.cps.toList ∧ ∀ st, ixW (.str x) (.int (-1)) st = .ok (.str ⟨#[c]⟩) st := by
  have e : x.cps.toList.length = x.length := by simp [Str.length]
  have hl : x.cps.toList.length - 1 < x.cps.toList.length := by omega
  refine ⟨x.cps.toList[x.cps.toList.length - 1], by rw [← e]; exact List.getElem?_eq_getElem hl, List.getElem_mem hl, fun st => ?_⟩
  unfold ixW
  simp only [if_pos hx, atI_last (l := x.cps.toList) (by omega), List.getElem?_eq_getElem hl]
theorem in_sign {st : Store} {c : Nat} {z : Str} : inW false (.str ⟨#[c]⟩) (.str z) st = .ok (.bl (decide (c ∈ z.cps.toList))) st := rfl
theorem len_str {st : Store} {x : Str} (h : x.length ≤ sizeLine) : lenW [.str x] st = .ok (.int x.length) st := by unfold lenW; simp only [if_pos h]
theorem len_seq {st : Store} {a : W} {ws : List W} (h : seqW st a = some ws) : lenW [a] st = .ok (.int ws.length) st := by
  unfold lenW
  cases a with
  | str z => simp [seqW] at h
  | _ => simp only [h]
theorem cut_to {ws : List W} {k : Nat} : cutW ws none (some (k : Int)) = ws.take k := by
  unfold cutW HT.sIx
  simp only [List.drop_zero, Nat.sub_zero]
  rw [if_neg (by omega)]
  simp only [Int.toNat_natCast]
  rw [← List.take_take, List.take_length]
theorem cut_from {ws : List W} {k : Nat} : cutW ws (some (k : Int)) none = ws.drop k := by
  unfold cutW HT.sIx
  simp only
  rw [if_neg (by omega)]
  simp only [Int.toNat_natCast]
  by_cases h : k ≤ ws.length
  · rw [Nat.min_eq_left h, List.take_of_length_le (by simp)]
  · rw [Nat.min_eq_right (by omega), List.drop_of_length_le (Nat.le_refl _), List.drop_of_length_le (by omega)]; simp
theorem lcW_mapB {β : Type} {chk : Store → Prop} {env : EnvW} {i : Nat} {e : D W} {st : Store} (k g : β → W) (hc : chk st) : ∀ (l : List β) (acc : List W), (∀ b ∈ l, e (env.set i (some (k b))) st = .ok (g b) st) → acc.length + l.length ≤ sizeLine →
    lcW chk env (tName i) dYes e (l.map k) acc st = some (acc ++ l.map g, st)
  | [], acc, _, _ => by unfold lcW; simp only [List.map_nil]; rw [if_pos hc]; simp
  | b :: l, acc, hs, hl => by
    simp only [List.length_cons] at hl
    simp only [List.map_cons]
    unfold lcW
    rw [if_pos hc]
    dsimp only [tName, dYes]
    rw [hs b List.mem_cons_self]
    dsimp only
    rw [if_pos (by omega), lcW_mapB k g hc l (acc ++ [g b]) (fun w m => hs w (List.mem_cons_of_mem _ m)) (by simp; omega)]
    simp
theorem kLc_mapB {β : Type} {env : EnvW} {i : Nat} {e : D W} {st : Store} {src : Option Nat} (k g : β → W) (l : List β) (hc : (ItW.mk (l.map k) src).Chk st) (hs : ∀ b ∈ l, e (env.set i (some (k b))) st = .ok (g b) st) (hl : l.length ≤ sizeLine) :
    kLc env (tName i) dYes e ⟨l.map k, src⟩ st = .ok (.loc st.length) (st ++ [.lst (l.map g)]) := by
  unfold kLc
  simp only
  rw [lcW_mapB k g hc l [] hs (by simpa using hl)]
  simp
theorem all_here {β : Type} {st : Store} {l : List β} {g : β → Bool} : allW [.loc st.length] (st ++ [.lst (l.map fun b => W.bl (g b))]) = .ok (.bl (l.all g)) (st ++ [.lst (l.map fun b => W.bl (g b))]) := by
  have : (st ++ [.lst (l.map fun b => W.bl (g b))])[st.length]? = some (.lst ((l.map g).map W.bl)) := by simp
  rw [allW_ok this]; simp [List.all_map]
theorem puB_mono : ∀ {n m : Nat} {w : W}, puB n w = true → n ≤ m → puB m w = true
  | 0, _, _, h, _ => by simp [puB] at h
  | n + 1, 0, _, _, hm => by omega
  | n + 1, m + 1, w, h, hm => by
    cases w with
    | tup ws =>
      simp only [puB, Bool.and_eq_true, List.all_eq_true] at h ⊢
      exact ⟨h.1, fun a ha => puB_mono (h.2 a ha) (by omega)⟩
    | str x => exact h
    | _ => first | rfl | simp [puB] at h
theorem pu_items {ws : List W} (h : pu (.tup ws)) : ws.length ≤ 8192 ∧ ∀ w ∈ ws, puB 4 w = true := by
  have h' : (decide (ws.length ≤ 8192) && ws.all (puB 4)) = true := h
  rw [Bool.and_eq_true, decide_eq_true_iff, List.all_eq_true] at h'
  exact h'
end
end MP
namespace MP
open PySem PySem.Spec PyProof.Rows L2
open Classical
noncomputable section
def star : Str := "*"
def fst0 (x : Str) : Nat := (x.cps.toList[0]?).getD 0
def lst0 (x : Str) : Nat := (x.cps.toList[x.length - 1]?).getD 0
section
variable {st : Store} {i j : Int}
@[simp] theorem addW_i : addW (.int i) (.int j) st = .ok (.int (i + j)) st := rfl
@[simp] theorem subW_i : subW (.int i) (.int j) st = .ok (.int (i - j)) st := rfl
@[simp] theorem leW_i : leW (.int i) (.int j) st = .ok (.bl (decide (i ≤ j))) st := rfl
@[simp] theorem ltW_i : ltW (.int i) (.int j) st = .ok (.bl (decide (i < j))) st := rfl
@[simp] theorem gtW_i : gtW (.int i) (.int j) st = .ok (.bl (decide (j < i))) st := rfl
@[simp] theorem negW_i : negW (.int i) st = .ok (.int (-i)) st := rfl
@[simp] theorem minW_i : minW [.int i, .int j] st = .ok (.int (if j < i then j else i)) st := rfl
@[simp] theorem maxW_i : maxW [.int i, .int j] st = .ok (.int (if j > i then j else i)) st := rfl
@[simp] theorem absW_i : absW [.int i] st = .ok (.int (if i < 0 then -i else i)) st := rfl
@[simp] theorem intOf_i : intOfW [.int i] st = .ok (.int i) st := rfl
@[simp] theorem intOf_b {b : Bool} : intOfW [.bl b] st = .ok (.int (if b then 1 else 0)) st := rfl
@[simp] theorem tuple_t {ws : List W} : tupleW [.tup ws] st = .ok (.tup ws) st := rfl
@[simp] theorem clB_b {n : Nat} {b : Bool} : clB n (.bl b) = true := rfl
@[simp] theorem clB_s {n : Nat} {b : Str} : clB n (.str b) = true := rfl
@[simp] theorem clB_i {n : Nat} : clB n (.int i) = true := rfl
@[simp] theorem clB_n {n : Nat} : clB n .non = true := rfl
@[simp] theorem gc_b {b : Bool} : gc st (.bl b) st = .ok (.bl b) st := gc_same rfl
@[simp] theorem gc_s {b : Str} : gc st (.str b) st = .ok (.str b) st := gc_same rfl
@[simp] theorem gc_i : gc st (.int i) st = .ok (.int i) st := gc_same rfl
@[simp] theorem gc_n : gc st .non st = .ok .non st := gc_same rfl
@[simp] theorem gc_ba {b : Bool} {g : Store} : gc st (.bl b) (st ++ g) = .ok (.bl b) st := gc_app rfl
@[simp] theorem gc_sa {b : Str} {g : Store} : gc st (.str b) (st ++ g) = .ok (.str b) st := gc_app rfl
@[simp] theorem gc_na {g : Store} : gc st .non (st ++ g) = .ok .non st := gc_app rfl
end
theorem ok_nil : okS ("" : Str) = true := by decide +kernel
theorem ok_star : okS ("*" : Str) = true := by decide +kernel
theorem ok_dash : okS ("-" : Str) = true := by decide +kernel
theorem ok_dot : okS ("." : Str) = true := by decide +kernel
theorem ok_one {c : Nat} (h : c < 128) : okS ⟨#[c]⟩ = true := by
  rw [okS_iff]; exact ⟨by show 1 ≤ _; decide, fun d hd => by simp at hd; omega⟩
theorem stripBy_mem {x y : Str} : ∀ c ∈ (Txt.stripChars x y).cps.toList, c ∈ x.cps.toList := fun c h => by
  rw [PySem.Txt.stripChars.eq_1, stripBy_eq] at h
  unfold PySem.Builtin.Str.strSub at h
  simp only [Array.toList_extract, List.extract] at h
  exact List.mem_of_mem_drop (List.mem_of_mem_take h)
theorem okS.strip {x y : Str} (h : okS x = true) : okS (Txt.stripChars x y) = true :=
  okS_iff.mpr ⟨Nat.le_trans (len_stripChars x y) (okS.len h), fun c hc => (okS_iff.mp h).2 c (stripBy_mem c hc)⟩
theorem fst0_of {x : Str} {c : Nat} (h : x.cps.toList[(0 : Int).toNat]? = some c) : fst0 x = c := by
  unfold fst0; rw [show (0 : Nat) = (0 : Int).toNat from rfl, h]; rfl
theorem lst0_of {x : Str} {c : Nat} (h : x.cps.toList[x.length - 1]? = some c) : lst0 x = c := by
  unfold lst0; rw [h]; rfl
def okU : W → Prop
  | .str x => okS x = true
  | _ => True
theorem Pic.str {st : Store} {w : W} {x : Str} (h : Pic st w (.str x)) : w = .str x ∧ okS x = true := by
  cases h with
  | pu _ h => exact ⟨rfl, h⟩
def GD : List Nat := ("abcdefghijklmnopqrstuvwxyz0123456789-" : Str).cps.toList
theorem beq_sign {c : Nat} : ((⟨#[c]⟩ : Str) == ("-" : Str)) = (c == 45) := by
  rw [Bool.eq_iff_iff, beq_iff_eq, beq_iff_eq]
  constructor
  · intro h
    have := congrArg (fun s : Str => s.cps.toList) h
    have h' : [c] = [45] := this
    simpa using h'
  · intro h; subst h; rfl
theorem eqv_str {n : Nat} {w : W} {x : Str} : (dat (n + 1) w).eqv (.str x) = (match w with | .str y => y == x | _ => false) := by
  cases w with
  | str y => simp only [dat, PyData.eqv.eq_6]
  | non => rfl
  | bl b => rfl
  | int b => rfl
  | tup ws => rfl
  | _ => rfl
def hdX (s : Str) : List W → Bool | .str x :: _ => x == s | _ => false
theorem line8 {n : Nat} (h : n ≤ 8192) : n ≤ sizeLine := Nat.le_trans h (by decide)
theorem head_ok {ws : List W} {st : Store} {s : Str} (h : pu (.tup ws)) (hs : okS s = true) : eqW (.tup (ws.take 1)) (.tup [.str s]) st = .ok (.bl (hdX s ws)) st := by
  obtain ⟨hl, hi⟩ := pu_items h
  have h1 : pu (.tup (ws.take 1)) := by
    show (decide ((ws.take 1).length ≤ 8192) && (ws.take 1).all (puB 4)) = true
    rw [Bool.and_eq_true, decide_eq_true_iff, List.all_eq_true]
    exact ⟨by simp; omega, fun a ha => hi a (List.mem_of_mem_take ha)⟩
  have h2 : pu (.tup [.str s]) := by
    show (decide (1 ≤ 8192) && (okS s && true)) = true
    rw [hs]; rfl
  rw [pic_eq (.pu _ h1) (.pu _ h2)]
  congr 2
  cases ws with
  | nil => rfl
  | cons w r =>
    show PyData.eqv (.tuple [dat 4 w]) (.tuple [.str s]) = _
    rw [PyData.eqv.eq_8, PyData.eqvAll.eq_2, PyData.eqvAll.eq_1, Bool.and_true, eqv_str]
    cases w <;> rfl
theorem nhead_ok {ws : List W} {st : Store} {s : Str} (h : pu (.tup ws)) (hs : okS s = true) : neW (.tup (ws.take 1)) (.tup [.str s]) st = .ok (.bl (!hdX s ws)) st := by
  have e := head_ok (st := st) h hs
  unfold eqW at e
  unfold neW
  split at e
  · split at e
    · rename_i d e' h1 h2 hs
      simp only [h1, h2, if_pos hs]
      injection e with e1 _
      injection e1 with e1
      rw [e1]
    · cases e
  · cases e
theorem pu_sub {ws : List W} (h : pu (.tup ws)) (r : List W) (hr : ∀ w ∈ r, w ∈ ws) (hl : r.length ≤ ws.length) : pu (.tup r) := by
  obtain ⟨hl', hi⟩ := pu_items h
  show (decide (r.length ≤ 8192) && r.all (puB 4)) = true
  rw [Bool.and_eq_true, decide_eq_true_iff, List.all_eq_true]
  exact ⟨by omega, fun a ha => hi a (hr a ha)⟩
@[simp] theorem sl_to {ws : List W} {st : Store} : slW (.tup ws) none (some 1) st = .ok (.tup (ws.take 1)) st := by
  show Res.ok (W.tup (cutW ws none (some ((1 : Nat) : Int)))) st = _
  rw [cut_to]
@[simp] theorem sl_from {ws : List W} {st : Store} : slW (.tup ws) (some 1) none st = .ok (.tup (ws.drop 1)) st := by
  show Res.ok (W.tup (cutW ws (some ((1 : Nat) : Int)) none)) st = _
  rw [cut_from]
theorem tup_one {s : Str} {st : Store} : kTup [.str s] st = .ok (.tup [.str s]) st := kTup_ok (Nat.le_trans (by simp : [W.str s].length ≤ 1) (by decide))
theorem range_all {β : Type} (l : List β) (f : Nat → Bool) (g : β → Bool) : (∀ i b, l[i]? = some b → f i = g b) → (List.range l.length).all f = l.all g := by
  intro h
  rw [Bool.eq_iff_iff, List.all_eq_true, List.all_eq_true]
  constructor
  · intro hf b hb
    obtain ⟨i, hi, rfl⟩ := List.getElem_of_mem hb
    rw [← h i _ (List.getElem?_eq_getElem hi)]
    exact hf i (List.mem_range.mpr hi)
  · intro hg i hi
    have hi := List.mem_range.mp hi
    rw [h i _ (List.getElem?_eq_getElem hi)]
    exact hg _ (List.getElem_mem hi)
theorem lt62 {n : Nat} (h : n ≤ 8192) : (n : Int) < 2 ^ 62 := Int.lt_of_le_of_lt (Int.ofNat_le.mpr h) (by decide)
theorem ints1 (n : Nat) : intsW 1 ((n : Int) - 1).toNat = (List.range (n - 1)).map fun i : Nat => W.int (1 + (i : Nat)) := by
  unfold intsW; rw [show ((n : Int) - 1).toNat = n - 1 by omega]
def dotS : Str := "."
def showT (xs : List Str) : Str := Txt.join ("" : Str) (xs.map fun x => x ++ dotS)
def shownS (xs : List Str) : Str := if xs.isEmpty = true then dotS else showT xs
abbrev cl (x : Str) : List Nat := x.cps.toList
theorem str_ext {x y : Str} (h : cl x = cl y) : x = y := by
  obtain ⟨x⟩ := x; obtain ⟨y⟩ := y
  have : x = y := Array.toList_inj.mp h
  rw [this]
theorem cl_app (x y : Str) : cl (x ++ y) = cl x ++ cl y := by
  show (x.cps ++ y.cps).toList = _
  simp [cl]
theorem len_cl (x : Str) : x.length = (cl x).length := by simp [Str.length, cl]
theorem fold_cl (s : Array Nat) : ∀ (r : List Str) (a : Array Nat), (r.foldl (fun acc p => acc ++ s ++ p.cps) a).toList = a.toList ++ (r.map fun p => s.toList ++ cl p).flatten
  | [], a => by simp
  | p :: r, a => by
    rw [List.foldl_cons, fold_cl s r]; simp [cl]
theorem join_cl (s : Str) (p : Str) (r : List Str) : cl (Txt.join s (p :: r)) = cl p ++ (r.map fun p => cl s ++ cl p).flatten := by
  show (List.foldl _ p.cps r).toList = _
  exact fold_cl s.cps r p.cps
theorem join_nil (s : Str) : cl (Txt.join s []) = [] := rfl
theorem join0 (ys : List Str) : cl (Txt.join ("" : Str) ys) = (ys.map cl).flatten := by
  cases ys with
  | nil => rfl
  | cons p r =>
    rw [join_cl]
    have : cl ("" : Str) = [] := rfl
    simp [this]
theorem dot_cl : cl dotS = [46] := rfl
theorem show_cl (xs : List Str) : cl (showT xs) = (xs.map fun x => cl x ++ [46]).flatten := by
  unfold showT
  rw [join0, List.map_map]
  refine congrArg List.flatten (List.map_congr_left fun x _ => ?_)
  show cl (x ++ dotS) = _
  rw [cl_app, dot_cl]
theorem show_join {xs : List Str} (h : xs ≠ []) : cl (showT xs) = cl (Txt.join dotS xs) ++ [46] := by
  rw [show_cl]
  cases xs with
  | nil => exact absurd rfl h
  | cons p r =>
    rw [join_cl, dot_cl]
    have key : ∀ (r : List Str) (a : List Nat), (a ++ [46]) ++ (r.map fun x => cl x ++ [46]).flatten = a ++ (r.map fun p => [46] ++ cl p).flatten ++ [46] := by
      intro r
      induction r with
      | nil => intro a; simp
      | cons x r ih =>
        intro a
        have := ih (a ++ [46] ++ cl x)
        simp only [List.map_cons, List.flatten_cons, List.append_assoc] at this ⊢
        exact this
    rw [List.map_cons, List.flatten_cons]
    exact key r (cl p)
def cutT (t : Str) : Str := cutS t none (some (-1))
theorem cutT_cl (t : Str) : cl (cutT t) = (cl t).take (t.length - 1) := by
  unfold cutT cutS HT.sIx
  simp only [List.drop_zero, Nat.sub_zero]
  rw [if_pos (by decide)]
  have : ((-1 : Int) + (t.length : Int)).toNat = t.length - 1 := by omega
  rw [this]
theorem cutT_law {t : Str} (h : 1 ≤ t.length) : cutS t none (some ((t.length : Int) - 1)) = cutT t := by
  apply str_ext
  rw [cutT_cl]
  unfold cutS HT.sIx
  simp only [List.drop_zero, Nat.sub_zero]
  rw [if_neg (by omega)]
  have : ((t.length : Int) - 1).toNat = t.length - 1 := by omega
  rw [this, Nat.min_eq_left (by omega)]
def lastDot (t : Str) : Bool := decide (1 ≤ t.length) && (lst0 t == 46)
theorem ends_dot (t : Str) : Txt.endswith t dotS = lastDot t := by
  unfold Txt.endswith lastDot
  have h1 : dotS.length = 1 := rfl
  rw [h1, Nat.zero_add]
  by_cases h : 1 ≤ t.length
  · rw [decide_eq_true h, Bool.true_and, Bool.true_and]
    unfold Builtin.Str.subAt lst0
    rw [h1]
    have hl : t.length - 1 < t.cps.toList.length := by rw [show t.cps.toList.length = t.length from (len_cl t).symm]; omega
    rw [List.getElem?_eq_getElem hl, Option.getD_some, Bool.eq_iff_iff, beq_iff_eq, beq_iff_eq]
    have e : (t.cps.extract (t.length - 1) (t.length - 1 + 1)).toList = [t.cps.toList[t.length - 1]] := by
      rw [Array.toList_extract]
      unfold List.extract
      rw [show t.length - 1 + 1 - (t.length - 1) = 1 by omega, List.drop_eq_getElem_cons hl]; simp
    constructor
    · intro hx
      have := congrArg Array.toList hx
      rw [e] at this
      have h2 : [t.cps.toList[t.length - 1]] = [46] := this
      simpa using h2
    · intro hx
      apply Array.toList_inj.mp
      rw [e, hx]; rfl
  · rw [decide_eq_false h]; rfl
theorem last_cl {t : Str} (h : lastDot t = true) : cl t = cl (cutT t) ++ [46] := by
  unfold lastDot at h
  rw [Bool.and_eq_true, decide_eq_true_iff, beq_iff_eq] at h
  have hl : t.length - 1 < (cl t).length := by rw [← len_cl]; omega
  have h2 : (cl t)[t.length - 1] = 46 := by
    have := h.2
    unfold lst0 at this
    rw [List.getElem?_eq_getElem hl] at this
    simpa using this
  rw [cutT_cl]
  conv => lhs; rw [← List.take_append_drop (t.length - 1) (cl t)]
  rw [List.drop_eq_getElem_cons hl, h2, List.drop_of_length_le (by rw [← len_cl]; omega)]
def parts (t : Str) : List Str := Txt.split (cutT t) dotS
theorem parts_ne (t : Str) : parts t ≠ [] := fun h => by
  have := split_pos (cutT t) dotS
  rw [show Txt.split (cutT t) dotS = [] from h] at this
  simp at this
theorem parts_join (t : Str) : Txt.join dotS (parts t) = cutT t := (StrLaws.glued_eq_join dotS (parts t)).trans (StrLaws.join_split (cutT t) dotS)
theorem show_parts {t : Str} (h : lastDot t = true) : showT (parts t) = t := by
  apply str_ext
  rw [show_join (parts_ne t), parts_join, last_cl h]
theorem parts_show {xs : List Str} (h : xs ≠ []) (hd : ∀ x ∈ xs, ¬ 46 ∈ cl x) : parts (showT xs) = xs := by
  have e : cutT (showT xs) = Txt.join dotS xs := by
    apply str_ext
    rw [cutT_cl, show_join h, len_cl, show_join h]
    simp
  unfold parts
  rw [e]
  exact TL.split_join (y := dotS) (s := 46) (S := []) rfl (by decide +kernel) h hd
theorem show_last {xs : List Str} (h : xs ≠ []) : lastDot (showT xs) = true := by
  have e := show_join h
  unfold lastDot lst0
  have hl : (showT xs).length = (cl (Txt.join dotS xs)).length + 1 := by rw [len_cl, e]; simp
  rw [hl, decide_eq_true (by omega)]
  have e2 : (showT xs).cps.toList = cl (Txt.join dotS xs) ++ [46] := e
  rw [e2, Nat.add_sub_cancel]
  simp
theorem mem_join {s : Str} : ∀ {ys : List Str} {y : Str} {c : Nat}, y ∈ ys → c ∈ cl y → c ∈ cl (Txt.join s ys) := by
  intro ys y c hy hc
  cases ys with
  | nil => nomatch hy
  | cons p r =>
    rw [join_cl, List.mem_append]
    rcases List.mem_cons.mp hy with rfl | hy
    · exact .inl hc
    · exact .inr (List.mem_flatten.mpr ⟨_, List.mem_map_of_mem hy, List.mem_append.mpr (.inr hc)⟩)
theorem parts_ok {t : Str} (h : okS t = true) (hl : t.length ≤ 8000) : pu (.tup ((parts t).map W.str)) := by
  have hc : (cutT t).length ≤ t.length := by
    rw [len_cl, cutT_cl, len_cl]; simp
  show (decide (((parts t).map W.str).length ≤ 8192) && ((parts t).map W.str).all (puB 4)) = true
  rw [Bool.and_eq_true, decide_eq_true_iff, List.all_eq_true]
  refine ⟨?_, fun a ha => ?_⟩
  · have := split_le (cutT t) dotS
    rw [List.length_map]
    show (Txt.split (cutT t) dotS).length ≤ 8192
    omega
  · obtain ⟨p, hp, rfl⟩ := List.mem_map.mp ha
    show okS p = true
    rw [okS_iff]
    refine ⟨Nat.le_trans (part_short hp) (by omega), fun c hcp => (okS_iff.mp h).2 c ?_⟩
    have h1 : c ∈ cl (Txt.join dotS (parts t)) := mem_join hp hcp
    rw [parts_join, cutT_cl] at h1
    exact List.mem_of_mem_take h1
theorem show_len (xs : List Str) (h : ∀ x ∈ xs, x.length ≤ 20) : (showT xs).length ≤ 21 * xs.length := by
  rw [len_cl, show_cl]
  induction xs with
  | nil => simp
  | cons x r ih =>
    have h1 := h x List.mem_cons_self
    have h2 := ih fun y hy => h y (List.mem_cons_of_mem _ hy)
    rw [len_cl] at h1
    simp only [List.map_cons, List.flatten_cons, List.length_append, List.length_cons, List.length_nil] at h2 ⊢
    omega
theorem show_okS {xs : List Str} (h : ∀ x ∈ xs, okS x = true) (hl : (showT xs).length ≤ 8192) : okS (showT xs) = true := by
  rw [okS_iff]
  refine ⟨hl, fun c hc => ?_⟩
  have hc : c ∈ (xs.map fun x => cl x ++ [46]).flatten := by rw [← show_cl]; exact hc
  obtain ⟨l, hl, hcl⟩ := List.mem_flatten.mp hc
  obtain ⟨x, hx, rfl⟩ := List.mem_map.mp hl
  rcases List.mem_append.mp hcl with h1 | h1
  · exact (okS_iff.mp (h x hx)).2 c h1
  · have : c = 46 := by simpa using h1
    omega
theorem name_pu {st : Store} {w : W} {ws : List W} (h : Pic st w (.tup ws)) : w = .tup ws ∧ pu (.tup ws) := by
  cases h with
  | pu _ h => exact ⟨rfl, h⟩
theorem eq_empty {ws : List W} {st : Store} (h : pu (.tup ws)) : eqW (.tup ws) (.tup []) st = .ok (.bl ws.isEmpty) st := by
  rw [pic_eq (.pu _ h) (.pu _ rfl)]
  congr 2
  cases ws <;> rfl
theorem addW_s {x y : Str} {st : Store} (h : x.length + y.length ≤ sizeLine) : addW (.str x) (.str y) st = .ok (.str (x ++ y)) st := by
  show (if x.length + y.length ≤ sizeLine then _ else _) = _
  rw [if_pos h]
theorem join_here {st : Store} {ys : List Str} {z : Str} (h : (ys.map (·.length)).sum + ys.length * z.length ≤ 16777216) : joinW (.str z) [.loc st.length] (st ++ [.lst (ys.map W.str)]) = .ok (.str (Txt.join z ys)) (st ++ [.lst (ys.map W.str)]) := by
  have e : strsW (st ++ [.lst (ys.map W.str)]) (.loc st.length) = some ys := by
    unfold strsW seqW
    simp only [get_here, Option.bind_some, List.map_map]
    have := allO_of (stOf ∘ W.str) id ys (fun _ _ => rfl)
    rw [this]; simp
  show (match strsW (st ++ [.lst (ys.map W.str)]) (.loc st.length) with | some ys => _ | none => _) = _
  rw [e]
  exact if_pos h
theorem sum_le {xs : List Str} {f : Str → Nat} {k : Nat} (h : ∀ x ∈ xs, f x ≤ k) : (xs.map f).sum ≤ k * xs.length := by
  induction xs with
  | nil => simp
  | cons x r ih =>
    have h1 := h x List.mem_cons_self
    have h2 := ih fun y hy => h y (List.mem_cons_of_mem _ hy)
    simp only [List.map_cons, List.sum_cons, List.length_cons]
    rw [Nat.mul_add, Nat.mul_one]; omega
theorem len_add (x y : Str) : (x ++ y).length = x.length + y.length := by rw [len_cl, cl_app, List.length_append, ← len_cl, ← len_cl]
theorem dots_ok {env : EnvW} {src : Option Nat} {i : Nat} {xs : List Str} {st : Store} (hi : i < env.length) (hc : (ItW.mk (xs.map W.str) src).Chk st) (hx : ∀ x ∈ xs, x.length ≤ 100) (hl : xs.length ≤ 8192) :
    kLc env (tName i) dYes (dOp addW (dVar i) (dC (.str "."))) ⟨xs.map W.str, src⟩ st = .ok (.loc st.length) (st ++ [.lst ((xs.map fun x => x ++ dotS).map W.str)]) ∧
    joinW (.str "") [.loc st.length] (st ++ [.lst ((xs.map fun x => x ++ dotS).map W.str)]) = .ok (.str (showT xs)) (st ++ [.lst ((xs.map fun x => x ++ dotS).map W.str)]) := by
  constructor
  · have := kLc_mapB (env := env) (i := i) (e := dOp addW (dVar i) (dC (.str ("." : Str)))) (st := st) (src := src) W.str (fun x => W.str (x ++ dotS)) xs hc (fun b hb => by
      have h1 := hx b hb
      have ha : addW (.str b) (.str ".") st = .ok (.str (b ++ dotS)) st := addW_s (Nat.le_trans (Nat.add_le_add_right h1 _) (by decide +kernel))
      simp -implicitDefEqProofs [hi, ha]) (line8 hl)
    rw [this, List.map_map]; rfl
  · refine join_here ?_
    have h1 : ((xs.map fun x => x ++ dotS).map (·.length)).sum ≤ 101 * xs.length := by
      rw [List.map_map]
      exact sum_le fun x hx' => by
        show (x ++ dotS).length ≤ 101
        rw [len_add]
        have := hx x hx'
        have h2 : dotS.length = 1 := rfl
        omega
    have h2 : ("" : Str).length = 0 := rfl
    rw [h2, Nat.mul_zero]
    omega
theorem tuple_here {st : Store} {ws : List W} : tupleW [.loc st.length] (st ++ [.lst ws]) = .ok (.tup ws) (st ++ [.lst ws]) := by
  unfold tupleW lstW; simp
theorem split_here {t : Str} {st : Store} (h : (cutT t).length + 2 ≤ sizeLine) : splitW (.str (cutT t)) [.str "."] st = .ok (.loc st.length) (st ++ [.lst ((parts t).map W.str)]) := by
  show (if ((("." : Str).length == 0) = false ∧ (cutT t).length + 2 ≤ sizeLine) then _ else _) = _
  rw [if_pos ⟨rfl, h⟩]; rfl
theorem cut_len (t : Str) : (cutT t).length ≤ t.length := by
  rw [len_cl, cutT_cl, len_cl]; simp
theorem cut_okS {t : Str} (h : okS t = true) : okS (cutT t) = true := by
  rw [okS_iff]
  exact ⟨Nat.le_trans (cut_len t) (okS.len h), fun c hc => (okS_iff.mp h).2 c (by
    have : c ∈ cl (cutT t) := hc
    rw [cutT_cl] at this
    exact List.mem_of_mem_take this)⟩
theorem line2 {n : Nat} (h : n ≤ 8192) : n + 2 ≤ sizeLine := Nat.le_trans (Nat.add_le_add_right h 2) (by decide)
theorem sl_cut {t : Str} {st : Store} (h : okS t = true) : slW (.str t) none (some (-1)) st = .ok (.str (cutT t)) st := by
  show (if t.length ≤ sizeLine then _ else _) = _
  rw [if_pos (okS.line h)]; rfl
theorem sl_cutL {t : Str} {st : Store} (h : okS t = true) (h1 : 1 ≤ t.length) : slW (.str t) none (some ((t.length : Int) - 1)) st = .ok (.str (cutT t)) st := by
  show (if t.length ≤ sizeLine then _ else _) = _
  rw [if_pos (okS.line h), cutT_law h1]
theorem ends_ok {t : Str} {st : Store} : endswithW (.str t) [.str "."] st = .ok (.bl (lastDot t)) st := by
  show Res.ok (W.bl (Txt.endswith t dotS)) st = _
  rw [ends_dot]
theorem Pic.app {st : Store} {w u : W} (g : Store) (h : Pic st w u) : Pic (st ++ g) w u := by
  cases h with
  | pu _ h => exact .pu _ h
  | ls k ws h hl hw => exact .ls k ws (get_app g h) hl hw
theorem pair_data {a u : W} {s : Str} {st : Store} (h : Pic st a u) (hs : okS s = true) : datF st 66 (.tup [.str s, a]) = some (.tuple [.str s, dU u]) ∧ SeqAt.shaped (.tuple [.str s, dU u]) = true := by
  constructor
  · show ((allO [datF st 65 (.str s), datF st 65 a]).map PyData.tuple) = _
    rw [h.dat 65 (by decide)]; rfl
  · refine shaped_of ⟨?_, ?_⟩
    · show PyData.canLayAll0 [.str s, dU u] = true
      rw [PyData.canLayAll0.eq_2, PyData.canLayAll0.eq_2, h.shp.1]
      show (PyData.strOk s && _) = true
      rw [okS.ok hs]; rfl
    · rw [PyData.depth.eq_2, PyData.depthAll.eq_2, PyData.depthAll.eq_2]
      have := h.shp.2
      have h0 : PyData.depthAll [] = 0 := rfl
      have h1 : (PyData.str s).depth = 0 := rfl
      rw [h0, h1]; omega
theorem pair_eqv {d : PyData} {s : Str} (h : d.eqv d = true) : (PyData.tuple [.str s, d]).eqv (.tuple [.str s, d]) = true := by
  rw [PyData.eqv.eq_8, PyData.eqvAll.eq_2, PyData.eqvAll.eq_2, PyData.eqv.eq_6, h]
  show (s == s && (true && true)) = true
  simp
theorem pair_ne {a b u : W} {s : Str} {st : Store} (h : Pic st a u) (h' : Pic st b u) (hs : okS s = true) : neW (.tup [.str s, a]) (.tup [.str s, b]) st = .ok (.bl false) st := by
  rw [neW_of (pair_data h hs).1 (pair_data h' hs).1 (pair_data h hs).2 (pair_data h' hs).2, pair_eqv h.refl]; rfl
theorem pair_eq {a b u : W} {s : Str} {st : Store} (h : Pic st a u) (h' : Pic st b u) (hs : okS s = true) : eqW (.tup [.str s, a]) (.tup [.str s, b]) st = .ok (.bl true) st := by
  rw [eqW_of (pair_data h hs).1 (pair_data h' hs).1 (pair_data h hs).2 (pair_data h' hs).2, pair_eqv h.refl]
theorem ok_text : okS ("text" : Str) = true := by decide +kernel
theorem ok_refused : okS ("refused" : Str) = true := by decide +kernel
theorem ok_namew : okS ("name" : Str) = true := by decide +kernel
theorem two {a b : W} {st : Store} : kTup [a, b] st = .ok (.tup [a, b]) st := kTup_ok (Nat.le_trans (by simp : [a, b].length ≤ 2) (by decide))
theorem pair_cl {n : Nat} {s : Str} {w : W} (h : clB n w = true) : clB n (.tup [.str s, w]) = true := by
  simp only [clB, clBs, h]; rfl
theorem set_here (st : Store) (a b c : Ob) : (st ++ [a, b]).set (st.length + 1) c = st ++ [a, c] := by simp
def PotA (p n : Nat) (st : Store) : Prop := ∃ a b c : Int, st[p]? = some (.lst [.int a, .int b, .int c]) ∧ 0 ≤ b ∧ b < 10 ^ 34 ∧ 0 ≤ c ∧ c ≤ n
theorem PotA.lt {p n : Nat} {st : Store} (h : PotA p n st) : p < st.length := by
  obtain ⟨a, b, c, h, _⟩ := h
  exact (List.getElem?_eq_some_iff.mp h).1
theorem PotA.mono {p n m : Nat} {st : Store} (h : PotA p n st) (hm : n ≤ m) : PotA p m st := by
  obtain ⟨a, b, c, h, h1, h2, h3, h4⟩ := h
  exact ⟨a, b, c, h, h1, h2, h3, by omega⟩
theorem PotA.of {p n : Nat} {st st' : Store} (h : PotA p n st) (e : st'[p]? = st[p]?) : PotA p n st' := by
  obtain ⟨a, b, c, h, h1, h2, h3, h4⟩ := h
  exact ⟨a, b, c, by rw [e]; exact h, h1, h2, h3, h4⟩
theorem PotA.app {p n : Nat} {st : Store} (g : Store) (h : PotA p n st) : PotA p n (st ++ g) := h.of (List.getElem?_append_left h.lt)
theorem PotA.take {p n k : Nat} {st : Store} (h : PotA p n st) (hk : p < k) : PotA p n (st.take k) := h.of (by rw [List.getElem?_take, if_pos hk])
theorem PotA.set {p n k : Nat} {st : Store} {o : Ob} (h : PotA p n st) (hk : p ≠ k) : PotA p n (st.set k o) := h.of (List.getElem?_set_ne (Ne.symm hk))
theorem PotA.flat {p n : Nat} {st : Store} (h : PotA p n st) : ∀ (k : Nat) (o : Ob), p < k → st[p]? = some o → flatO o := by
  obtain ⟨a, b, c, h, _⟩ := h
  intro k o _ e
  rw [h] at e; cases e
  exact fun _ => rfl
theorem Ext.set {p k : Nat} {st st' : Store} {o : Ob} (h : Ext p st st') (hk : st.length ≤ k) : Ext p st (st'.set k o) :=
  ⟨by simp [h.le], fun i hi hp => by rw [List.getElem?_set_ne (by omega)]; exact h.keep i hi hp⟩
theorem gc_pot {p n : Nat} {st st' : Store} {v : W} (h : Ext p st st') (hp : PotA p n st') (hl : p < st.length) (hv : clB st.length v = true) : gc st v st' = .ok v (st'.take st.length) ∧ Kp p st (st'.take st.length) ∧ PotA p n (st'.take st.length) :=
  ⟨gcx_ok h (hp.flat _) hv, h.take, hp.take hl⟩
theorem gc_potL {p n m : Nat} {st st' : Store} {ws : List W} (h : Ext p st st') (hp : PotA p n st') (hl : p < st.length) (hm : st.length ≤ m) (e : st'[m]? = some (.lst ws)) (hw : clBs st.length ws = true) : gc st (.loc m) st' = .ok (.loc st.length) (st'.take st.length ++ [.lst ws]) ∧ Kp p st (st'.take st.length) ∧ PotA p n (st'.take st.length) :=
  ⟨gc_new h (hp.flat _) hm e hw, h.take, hp.take hl⟩
theorem kAsg_sub {env : EnvW} {st st3 : Store} {mo mi : D W} {o i v : W} (h1 : mo env st = .ok o st) (h2 : mi env st = .ok i st) (h3 : setW o i v st = some st3) : kAsg (MP.tSub mo mi) env v st = .go .nx env st3 := by
  have : MP.tSub mo mi v env st = some (env, st3) := by
    unfold MP.tSub; simp only [h1, h2, h3, Option.map_some]
  unfold kAsg; rw [this]
theorem setW_of {st : Store} {k : Nat} {i : Int} {j : Nat} {ws : List W} {v : W} (h : st[k]? = some (.lst ws)) (hi : ixN ws.length i = some j) : setW (.loc k) (.int i) v st = some (st.set k (.lst (ws.set j v))) := by
  unfold setW; simp only [h, hi]
theorem mod_okQ {i j : Int} {st : Store} (h : 0 < j) : modW (.int i) (.int j) st = .ok (.int (i % j)) st := if_pos h
theorem div_okG {i j : Int} {st : Store} (h : 0 < j) (h' : j.natAbs.log2 < 9000) : fdivW (.int i) (.int j) st = .ok (.int (i / j)) st := if_pos ⟨h, h'⟩
theorem div_ok {i j : Int} {st : Store} (h : 0 < j) (h' : j < 9000) : fdivW (.int i) (.int j) st = .ok (.int (i / j)) st := div_okG h (Nat.lt_of_le_of_lt (Nat.log2_le_self _) (by omega))
theorem div_big {i : Int} {st : Store} : fdivW (.int i) (.int 65537) st = .ok (.int (i / 65537)) st := if_pos ⟨by decide, by decide +kernel⟩
theorem mul_okQ {i j : Int} {st : Store} (h : IntMulOk i j) : mulW (.int i) (.int j) st = .ok (.int (i * j)) st := if_pos h
theorem pow_okQ {i j : Int} {st : Store} (h : CPowW i j) : powW (.int i) (.int j) st = .ok (.int (i ^ j.toNat)) st := if_pos h
theorem small_mul {i j : Int} (h : -2 ^ 64 < i) (h' : i < 2 ^ 64) : IntMulOk i j := IntMulOk.of_left (intBits_le_64 h h')
theorem pow10 (k : Int) (h0 : 0 ≤ k) (h : k ≤ 100) : CPowW 10 k := ⟨h0, by
  have : (Builtin.Int.intBits 10 : Int) = 4 := by decide +kernel
  rw [this]; omega⟩
def StL (b : Nat) (ws : List W) : Prop := ∀ w ∈ ws, ∃ y : Str, w = .str y ∧ okS y = true ∧ y.length ≤ b
theorem StL.app {b : Nat} {ws vs : List W} (h : StL b ws) (h' : StL b vs) : StL b (ws ++ vs) := fun w m => by
  rcases List.mem_append.mp m with m | m
  · exact h w m
  · exact h' w m
theorem StL.one {b : Nat} {y : Str} (h : okS y = true) (h' : y.length ≤ b) : StL b [.str y] := fun w m => by
  have : w = .str y := by simpa using m
  exact ⟨y, this, h, h'⟩
theorem StL.nil {b : Nat} : StL b [] := fun _ m => nomatch m
theorem StL.mono {b c : Nat} {ws : List W} (h : StL b ws) (hc : b ≤ c) : StL c ws := fun w m => by
  obtain ⟨y, e, h1, h2⟩ := h w m
  exact ⟨y, e, h1, Nat.le_trans h2 hc⟩
theorem StL.set {b i : Nat} {ws : List W} {y : Str} (h : StL b ws) (hy : okS y = true) (hl : y.length ≤ b) : StL b (ws.set i (.str y)) := fun w m => by
  rcases List.mem_or_eq_of_mem_set m with m | m
  · exact h w m
  · exact ⟨y, m, hy, hl⟩
theorem StL.strs {b : Nat} : ∀ {ws : List W}, StL b ws → ∃ ys : List Str, ws = ys.map W.str ∧ ∀ y ∈ ys, okS y = true ∧ y.length ≤ b
  | [], _ => ⟨[], rfl, fun _ m => nomatch m⟩
  | w :: ws, h => by
    obtain ⟨y, rfl, h1, h2⟩ := h w List.mem_cons_self
    obtain ⟨ys, rfl, h3⟩ := StL.strs fun w m => h w (List.mem_cons_of_mem _ m)
    exact ⟨y :: ys, rfl, fun z m => by
      rcases List.mem_cons.mp m with rfl | m
      · exact ⟨h1, h2⟩
      · exact h3 z m⟩
theorem StL.cl {b n : Nat} : ∀ {ws : List W}, StL b ws → clBs n ws = true
  | [], _ => rfl
  | w :: ws, h => by
    obtain ⟨y, rfl, _⟩ := h w List.mem_cons_self
    simp only [clBs, clB, Bool.true_and]
    exact StL.cl fun w m => h w (List.mem_cons_of_mem _ m)
theorem join_at {st : Store} {k : Nat} {ys : List Str} {z : Str} (e : st[k]? = some (.lst (ys.map W.str))) (h : (ys.map (·.length)).sum + ys.length * z.length ≤ 16777216) : joinW (.str z) [.loc k] st = .ok (.str (Txt.join z ys)) st := by
  have e : strsW st (.loc k) = some ys := by
    unfold strsW seqW
    simp only [e, Option.bind_some, List.map_map]
    have := allO_of (stOf ∘ W.str) id ys (fun _ _ => rfl)
    rw [this]; simp
  show (match strsW st (.loc k) with | some ys => _ | none => _) = _
  rw [e]
  exact if_pos h
theorem join_good {ys : List Str} {b : Nat} (h : ∀ y ∈ ys, okS y = true ∧ y.length ≤ b) (hl : b * ys.length ≤ 8192) : okS (Txt.join ("" : Str) ys) = true ∧ (Txt.join ("" : Str) ys).length ≤ b * ys.length := by
  have hlen : (Txt.join ("" : Str) ys).length ≤ b * ys.length := by
    rw [len_cl, join0]
    clear hl
    induction ys with
    | nil => simp
    | cons y r ih =>
      have h1 := (h y List.mem_cons_self).2
      have h2 := ih fun z m => h z (List.mem_cons_of_mem _ m)
      rw [len_cl] at h1
      simp only [List.map_cons, List.flatten_cons, List.length_append, List.length_cons]
      rw [Nat.mul_add, Nat.mul_one]; omega
  refine ⟨okS_iff.mpr ⟨by omega, fun c hc => ?_⟩, hlen⟩
  have hc : c ∈ (ys.map cl).flatten := by rw [← join0]; exact hc
  obtain ⟨l, hl', hcl⟩ := List.mem_flatten.mp hc
  obtain ⟨y, hy, rfl⟩ := List.mem_map.mp hl'
  exact (okS_iff.mp (h y hy).1).2 c hcl
theorem join_StL {st : Store} {k b : Nat} {ws : List W} (e : st[k]? = some (.lst ws)) (h : StL b ws) (hl : b * ws.length ≤ 8192) : ∃ x : Str, joinW (.str "") [.loc k] st = .ok (.str x) st ∧ okS x = true ∧ x.length ≤ b * ws.length := by
  obtain ⟨ys, rfl, hy⟩ := h.strs
  rw [List.length_map] at hl ⊢
  obtain ⟨h1, h2⟩ := join_good hy hl
  refine ⟨_, join_at e ?_, h1, h2⟩
  have : ("" : Str).length = 0 := rfl
  rw [this, Nat.mul_zero]
  have := sum_le (f := (·.length)) (k := b) (xs := ys) fun y m => (hy y m).2
  omega
theorem ok_app {x y : Str} (h : okS x = true) (h' : okS y = true) (hl : x.length + y.length ≤ 8192) : okS (x ++ y) = true := by
  rw [okS_iff]
  refine ⟨by rw [len_add]; exact hl, fun c hc => ?_⟩
  have hc : c ∈ cl x ++ cl y := by rw [← cl_app]; exact hc
  rcases List.mem_append.mp hc with hc | hc
  · exact (okS_iff.mp h).2 c hc
  · exact (okS_iff.mp h').2 c hc
theorem cut_good {z : Str} {lo hi : Option Int} (h : okS z = true) : okS (cutS z lo hi) = true ∧ (cutS z lo hi).length ≤ z.length := by
  have hl : (cutS z lo hi).length ≤ z.length := by
    rw [len_cl, len_cl]
    show (List.take _ (List.drop _ (cl z))).length ≤ _
    rw [List.length_take, List.length_drop]; omega
  refine ⟨okS_iff.mpr ⟨Nat.le_trans hl (okS.len h), fun c hc => (okS_iff.mp h).2 c ?_⟩, hl⟩
  have hc : c ∈ List.take (HT.sIx z.length z.length hi - HT.sIx z.length 0 lo) (List.drop (HT.sIx z.length 0 lo) (cl z)) := hc
  exact List.mem_of_mem_drop (List.mem_of_mem_take hc)
theorem sign_of {x : Str} {i : Int} (hx : okS x = true) (h0 : 0 ≤ i) (hi : i < x.length) : ∃ y : Str, okS y = true ∧ y.length ≤ 1 ∧ ∀ st, ixW (.str x) (.int i) st = .ok (.str y) st := by
  obtain ⟨c, _, hm, e⟩ := ix_str (okS.line hx) h0 hi
  exact ⟨⟨#[c]⟩, ok_one ((okS_iff.mp hx).2 c hm), Nat.le_refl 1, e⟩
def AL : Str := "0123456789abcdefghijklmnopqrstuvwxyz"
def AL1 : Str := ("-" : Str) ++ AL
theorem ok_al : okS AL = true := by decide +kernel
theorem ok_al1 : okS AL1 = true := by decide +kernel
theorem al_len : AL.length = 36 := by decide +kernel
theorem al1_len : AL1.length = 37 := by decide +kernel
theorem al1_add {st : Store} : addW (.str "-") (.str AL) st = .ok (.str AL1) st := addW_s (by decide +kernel)
theorem lst5 {l : List W} {st : Store} (h : l.length ≤ 50) : kLst l st = .ok (.loc st.length) (st ++ [.lst l]) := kLst_ok (Nat.le_trans h (by decide))
theorem ints_len (k : Int) : (intsW 0 k.toNat).length = k.toNat := by simp [intsW]
def B10 : Str := "ab0-*._A ~"
def B7 : Str := "-*.Z _a"
theorem ok_b10 : okS B10 = true := by decide +kernel
theorem b10_len : B10.length = 10 := by decide +kernel
theorem ok_b7 : okS B7 = true := by decide +kernel
theorem b7_len : B7.length = 7 := by decide +kernel
theorem star_len : ("*" : Str).length = 1 := by decide +kernel
theorem sl_str {z : Str} {lo hi : Option Int} {st : Store} (h : okS z = true) : slW (.str z) lo hi st = .ok (.str (cutS z lo hi)) st := by
  show (if z.length ≤ sizeLine then _ else _) = _
  rw [if_pos (okS.line h)]
theorem rep_StL {b : Nat} {l : List W} (h : StL b l) : ∀ k, StL b (List.replicate k l).flatten
  | 0 => fun _ m => by simp at m
  | k + 1 => by
    rw [List.replicate_succ, List.flatten_cons]
    exact h.app (rep_StL h k)
theorem mulW_l {m : Nat} {k : Int} {xs : List W} {st : Store} (h : st[m]? = some (.lst xs)) (h0 : 0 ≤ k) (h1 : k ≤ 10) (hl : xs.length ≤ 100) : mulW (.loc m) (.int k) st = .ok (.loc st.length) (st ++ [.lst (List.replicate k.toNat xs).flatten]) := by
  show (match st[m]? with | some (.lst xs) => _ | _ => _) = _
  rw [h]
  refine if_pos ⟨Int.le_trans (by decide) h0, Int.lt_of_le_of_lt h1 (by decide), ?_⟩
  have h2 : k.toNat ≤ 10 := by omega
  exact line8 (Nat.le_trans (Nat.mul_le_mul hl h2) (by decide))
theorem addW_l {m k : Nat} {xs ys : List W} {st : Store} (h : st[m]? = some (.lst xs)) (h' : st[k]? = some (.lst ys)) (hl : xs.length + ys.length ≤ 8192) : addW (.loc m) (.loc k) st = .ok (.loc st.length) (st ++ [.lst (xs ++ ys)]) := by
  show (match lst2 st m k with | some (xs, ys) => _ | none => _) = _
  unfold lst2; rw [h, h']
  exact if_pos (line8 hl)
theorem rep_len (k : Nat) (l : List W) : (List.replicate k l).flatten.length = k * l.length := by simp
theorem ten {l : List W} {st : Store} (h : l.length ≤ 8192) : kTup l st = .ok (.tup l) st := kTup_ok (line8 h)
theorem a21 {st : Store} : mulW (.str "a") (.int 21) st = .ok (.str (repS "a" 21)) st := by
  refine if_pos (?_ : CRepS "a" 21)
  exact ⟨by decide, by decide, by decide +kernel, by decide +kernel, by decide +kernel⟩
theorem ok_a21 : okS (repS "a" 21) = true := by decide +kernel
theorem pu_one {a : W} (h : pu a) : ∀ w ∈ [a], pu w := fun w hw => by
  rw [List.mem_singleton.mp hw]; exact h
def manyZ (L : Int) : Int := if L < 1 ∨ L > 20 then 0 else if L = 1 then 36 else 36 * 36 * 37 ^ (L - 2).toNat
theorem mul_small {i j : Int} {st : Store} (h : -2 ^ 64 < j) (h' : j < 2 ^ 64) : mulW (.int i) (.int j) st = .ok (.int (i * j)) st := mul_okQ (IntMulOk.of_right (intBits_le_64 h h'))
theorem mul_loop {t : DT} {b : DS} {f : Int} {n : Nat} {st : Store} {E : Option W → Int → EnvW} {k : Int} (ht : ∀ w v a s, ∃ v', t w (E v a) s = some (E v' a, s))
    (hb : ∀ v a s, b (E v a) s = .go .nx (E v (a * k)) s) (v : Option W) : ∃ v', forW (ItW.mk (intsW 0 n) none).Chk t b (intsW 0 n) (E v f) st = .go .nx (E v' (f * k ^ n)) st := by
  obtain ⟨env', st', e, v', rfl, rfl⟩ := forW_ok (chk := (ItW.mk (intsW 0 n) none).Chk) (t := t) (b := b) (fun i env S => ∃ v, env = E v (f * k ^ i) ∧ S = st) (fun _ _ _ _ => by simp) (intsW 0 n) 0 (E v f) st
    (fun i w env S hw hI => by
      obtain ⟨v, rfl, rfl⟩ := hI
      obtain ⟨v', e⟩ := ht w v (f * k ^ (0 + i)) S
      refine ⟨_, _, _, _, e, hb _ _ _, v', ?_, rfl⟩
      rw [Int.pow_succ, Int.mul_assoc]) ⟨v, by simp, rfl⟩
  refine ⟨v', ?_⟩
  rw [e]
  simp [intsW]
def mN (L : Nat) : Nat := if L < 1 ∨ L > 20 then 0 else if L = 1 then 36 else 36 * 36 * 37 ^ (L - 2)
def aN : Nat → Nat
  | 0 => 0
  | L + 1 => aN L + mN L
theorem mN_big {L : Nat} (h : 2 ≤ L) (h' : L ≤ 20) : mN L = 36 * 37 ^ (L - 2) * 36 := by
  unfold mN; rw [if_neg (by omega), if_neg (by omega)]
  generalize 37 ^ (L - 2) = x
  omega
theorem lex_app : ∀ {a b : List Nat} (c d : List Nat), a < b → a.length = b.length → a ++ c < b ++ d
  | [], [], _, _, h, _ => absurd h (List.lt_irrefl _)
  | [], _ :: _, _, _, _, e => by simp at e
  | _ :: _, [], _, _, _, e => by simp at e
  | x :: a, y :: b, c, d, h, e => by
    rw [List.cons_lt_cons_iff] at h
    rw [List.cons_append, List.cons_append, List.cons_lt_cons_iff]
    rcases h with h | ⟨h1, h2⟩
    · exact .inl h
    · exact .inr ⟨h1, lex_app c d h2 (by simpa using e)⟩
theorem aN_mono {i : Nat} : ∀ {j : Nat}, i ≤ j → aN i ≤ aN j
  | 0, h => by have : i = 0 := by omega
               subst this; exact Nat.le_refl _
  | j + 1, h => by
    by_cases e : i = j + 1
    · subst e; exact Nat.le_refl _
    · have := aN_mono (i := i) (j := j) (by omega)
      simp only [aN]; omega
theorem aN_step {i L : Nat} (h : i < L) : aN i + mN i ≤ aN L := aN_mono (i := i + 1) (j := L) h
theorem manyZ_nat (L : Nat) : manyZ (L : Int) = (mN L : Int) := by
  unfold manyZ mN
  by_cases h : L < 1 ∨ L > 20
  · rw [if_pos (by omega), if_pos h]; rfl
  · rw [if_neg (by omega), if_neg h]
    by_cases h1 : L = 1
    · rw [if_pos (by omega), if_pos h1]; rfl
    · rw [if_neg (by omega), if_neg h1, show ((L : Int) - 2).toNat = L - 2 by omega]
      simp
theorem mN_lt (L : Nat) : mN L < 2 ^ 105 := by
  unfold mN
  split
  · decide
  · split
    · decide
    · rename_i h _
      have : 37 ^ (L - 2) ≤ 37 ^ 18 := Nat.pow_le_pow_right (by decide) (by omega)
      have e : 36 * 36 * 37 ^ 18 < 2 ^ 105 := by decide +kernel
      exact Nat.lt_of_le_of_lt (Nat.mul_le_mul_left _ this) e
def numsW (l : List Int) : List W := l.map W.int
theorem sum_at {S : Store} {q : Nat} {l : List Int} (h : S[q]? = some (.lst (l.map W.int))) : sumW [.loc q] S = .ok (.int l.sum) S := by
  unfold sumW nums lstW
  simp only [h, Option.bind_some, List.map_map]
  have e : allO (l.map (inOf ∘ W.int)) = some (l.map id) := allO_of _ id _ fun _ _ => rfl
  rw [e]
  simp
theorem ix_nums {S : Store} {q : Nat} {l : List Int} (h : S[q]? = some (.lst (l.map W.int))) {j : Nat} (hj : j < l.length) : ixW (.loc q) (.int (j : Int)) S = .ok (.int (l.getD j 0)) S := by
  unfold ixW seqW
  simp only [h]
  rw [atI_nat (by simpa using hj), List.getElem?_map, List.getElem?_eq_getElem hj]
  simp [hj]
theorem len_nums {S : Store} {q : Nat} {l : List Int} (h : S[q]? = some (.lst (l.map W.int))) : lenW [.loc q] S = .ok (.int (l.length : Int)) S := by
  rw [len_seq (ws := l.map W.int) (by simp [seqW, h])]; simp
theorem app_nums {S : Store} {q : Nat} {ws : List W} {w : W} (h : S[q]? = some (.lst ws)) (hl : ws.length < sizeLine) : appendW (.loc q) [w] S = .ok .non (S.set q (.lst (ws ++ [w]))) := by
  unfold appendW; simp only [h, if_pos hl]
def MANYZ : List Int := (List.range 21).map fun i : Nat => manyZ (i : Int)
theorem MANYZ_len : MANYZ.length = 21 := by simp [MANYZ]
theorem MANYZ_get {j : Nat} (h : j < 21) : MANYZ.getD j 0 = (mN j : Int) := by
  unfold MANYZ
  rw [List.getD_eq_getElem?_getD, List.getElem?_map, List.getElem?_range h]
  simp only [Option.map_some, Option.getD_some]
  rw [manyZ_nat]
def term (ns : List Int) (i : Nat) : Int := (mN (1 + i) : Int) * ns.getD (ns.length - 1 - (1 + i)) 0
def nextN (ns : List Int) : Int := ((List.range (min 20 (ns.length - 1))).map (term ns)).sum
def NN : Nat → List Int
  | 0 => [0, 1]
  | k + 1 => NN k ++ [nextN (NN k)]
theorem NN_len : ∀ k, (NN k).length = k + 2
  | 0 => rfl
  | k + 1 => by rw [NN, List.length_append, NN_len k]; rfl
theorem sum_bound {M : Int} : ∀ {l : List Int}, (∀ x ∈ l, 0 ≤ x ∧ x ≤ M) → 0 ≤ l.sum ∧ l.sum ≤ (l.length : Int) * M
  | [], _ => by simp
  | a :: l, h => by
    obtain ⟨h1, h2⟩ := h a List.mem_cons_self
    obtain ⟨h3, h4⟩ := sum_bound fun x m => h x (List.mem_cons_of_mem _ m)
    rw [List.sum_cons, List.length_cons]
    have : ((l.length + 1 : Nat) : Int) * M = (l.length : Int) * M + M := by rw [Int.natCast_succ, Int.add_mul, Int.one_mul]
    rw [this]
    omega
theorem getD_mem {l : List Int} {j : Nat} : l.getD j 0 ∈ l ∨ l.getD j 0 = 0 := by
  by_cases h : j < l.length
  · left; rw [List.getD_eq_getElem?_getD, List.getElem?_eq_getElem h]; exact List.getElem_mem h
  · right; rw [List.getD_eq_getElem?_getD, List.getElem?_eq_none (by omega)]; rfl
theorem NN_bound : ∀ k, ∀ x ∈ NN k, 0 ≤ x ∧ x < 2 ^ (110 * (k + 1))
  | 0, x, h => by
    simp only [NN, List.mem_cons, List.not_mem_nil, or_false] at h
    rcases h with rfl | rfl <;> decide
  | k + 1, x, h => by
    have ih := NN_bound k
    have hpos : (0 : Int) < 2 ^ (110 * (k + 1)) := Int.pow_pos (by decide)
    have hstep : (2 : Int) ^ (110 * (k + 1 + 1)) = 2 ^ (110 * (k + 1)) * 2 ^ 110 := by rw [← Int.pow_add]; congr 1
    rw [hstep]
    have e110 : (2 : Int) ^ 110 = 2 ^ 105 * 32 := by decide
    have p105 : (0 : Int) < 2 ^ 105 := by decide
    simp only [NN, List.mem_append, List.mem_cons, List.not_mem_nil, or_false] at h
    generalize (2 : Int) ^ (110 * (k + 1)) = B at *
    rw [e110]
    rcases h with h | rfl
    · obtain ⟨h1, h2⟩ := ih x h
      refine ⟨h1, Int.lt_of_lt_of_le h2 ?_⟩
      have : B * 1 ≤ B * (2 ^ 105 * 32) := Int.mul_le_mul_of_nonneg_left (by decide) (by omega)
      omega
    · have key : ∀ x ∈ (List.range (min 20 ((NN k).length - 1))).map (term (NN k)), 0 ≤ x ∧ x ≤ 2 ^ 105 * B := fun x hx => by
        obtain ⟨i, _, rfl⟩ := List.mem_map.mp hx
        have hm : (mN (1 + i) : Int) < 2 ^ 105 := by
          have := mN_lt (1 + i)
          have e : ((2 ^ 105 : Nat) : Int) = 2 ^ 105 := by decide
          omega
        have hg : 0 ≤ (NN k).getD ((NN k).length - 1 - (1 + i)) 0 ∧ (NN k).getD ((NN k).length - 1 - (1 + i)) 0 < B := by
          rcases getD_mem (l := NN k) (j := (NN k).length - 1 - (1 + i)) with h | h
          · exact ih _ h
          · rw [h]; exact ⟨Int.le_refl _, hpos⟩
        unfold term
        generalize (NN k).getD ((NN k).length - 1 - (1 + i)) 0 = y at *
        refine ⟨Int.mul_nonneg (by omega) hg.1, ?_⟩
        exact Int.mul_le_mul (by omega) (by omega) hg.1 (by omega)
      obtain ⟨s1, s2⟩ := sum_bound key
      refine ⟨s1, Int.lt_of_le_of_lt s2 ?_⟩
      have hl : (((List.range (min 20 ((NN k).length - 1))).map (term (NN k))).length : Int) ≤ 20 := by simp; omega
      have hq : (0 : Int) ≤ 2 ^ 105 * B := Int.mul_nonneg (by omega) (by omega)
      have h1 := Int.mul_le_mul_of_nonneg_right hl hq
      have h2 : B * (2 ^ 105 * 32) = 32 * (2 ^ 105 * B) := by
        rw [Int.mul_comm (2 ^ 105) 32, ← Int.mul_assoc, Int.mul_comm B 32, Int.mul_assoc, Int.mul_comm B]
      have hq' : (0 : Int) < 2 ^ 105 * B := Int.mul_pos p105 hpos
      rw [h2]
      generalize (2 : Int) ^ 105 * B = C at *
      omega
theorem mul_term {k L j : Nat} {st : Store} (hk : k ≤ 400) : mulW (.int (mN L : Int)) (.int ((NN k).getD j 0)) st = .ok (.int ((mN L : Int) * (NN k).getD j 0)) st := by
  refine mul_okQ (IntMulOk.of_le (m := 105) (n := 110 * 401) (intBits_le ?_) (intBits_le ?_) (by decide))
  · have := mN_lt L; rw [Int.natAbs_natCast]; exact this
  · have hb : 0 ≤ (NN k).getD j 0 ∧ (NN k).getD j 0 < 2 ^ (110 * (k + 1)) := by
      rcases getD_mem (l := NN k) (j := j) with h | h
      · exact NN_bound k _ h
      · rw [h]; exact ⟨Int.le_refl _, Int.pow_pos (by decide)⟩
    generalize (NN k).getD j 0 = y at *
    have e : (2 : Int) ^ (110 * (k + 1)) = ((2 ^ (110 * (k + 1)) : Nat) : Int) := by simp
    rw [e] at hb
    have : (2 : Nat) ^ (110 * (k + 1)) ≤ 2 ^ (110 * 401) := Nat.pow_le_pow_right (by decide) (by omega)
    generalize (2 : Nat) ^ (110 * (k + 1)) = u at *
    generalize (2 : Nat) ^ (110 * 401) = v at *
    omega
theorem Ext.takeEq {p : Nat} {st st' : Store} (h : Ext p st st') (hp : st.length ≤ p) : st'.take st.length = st := by
  apply List.ext_getElem?
  intro i
  rw [List.getElem?_take]
  split
  · rename_i hi; exact h.keep i hi (by omega)
  · rename_i hi; rw [List.getElem?_eq_none (by omega)]
theorem nums_cl {n : Nat} {l : List Int} : clBs n (l.map W.int) = true := by
  induction l with
  | nil => rfl
  | cons a l ih => simpa [clBs, clB] using ih
theorem ints_map (lo : Int) (n : Nat) : intsW lo n = (List.range n).map fun i : Nat => W.int (lo + (i : Int)) := rfl
structure NSt (st : Store) (k : Nat) (S : Store) : Prop where
  ext : Ext (st.length + 1) st S
  le : st.length + 1 < S.length
  m : S[st.length]? = some (.lst (MANYZ.map W.int))
  n : S[st.length + 1]? = some (.lst ((NN k).map W.int))
theorem NSt.zero (st : Store) : NSt st 0 (st ++ [.lst (MANYZ.map W.int), .lst [.int 0, .int 1]]) :=
  ⟨.app _, by simp, by simp, by simp [NN]⟩
theorem NSt.step {st S : Store} {k : Nat} (h : NSt st k S) (P : Ob) : NSt st (k + 1) ((S ++ [P]).set (st.length + 1) (.lst ((NN k).map W.int ++ [.int (nextN (NN k))]))) := by
  have hl := h.le
  refine ⟨(h.ext.trans (.app [P])).set (by omega), by simp; omega, ?_, ?_⟩
  · rw [List.getElem?_set_ne (by omega), List.getElem?_append_left (by omega)]; exact h.m
  · rw [List.getElem?_set_self (by simp; omega)]; simp [NN]
theorem prods {st S : Store} {k : Nat} {env : EnvW} {i : Nat} {e : D W} (h : NSt st k S) (hk : k ≤ 399)
    (he : ∀ j : Nat, j < min 20 (k + 1) → e (env.set i (some (.int (1 + (j : Int))))) S = (ixW (.loc st.length) (.int (1 + (j : Int))) S).bind (fun a s => (ixW (.loc (st.length + 1)) (.int ((k : Int) + 1 - (1 + (j : Int)))) s).bind (mulW a))) :
    kLc env (tName i) dYes e ⟨intsW 1 (min 20 (k + 1)), none⟩ S = .ok (.loc S.length) (S ++ [.lst (((List.range (min 20 (k + 1))).map (term (NN k))).map W.int)]) := by
  have := kLc_mapB (env := env) (i := i) (e := e) (st := S) (src := none) (fun j : Nat => W.int (1 + (j : Int))) (fun j : Nat => W.int (term (NN k) j)) (List.range (min 20 (k + 1))) (by simp) (fun j hj => by
    have hj : j < min 20 (k + 1) := by simpa using hj
    rw [he j hj]
    have i1 : ixW (.loc st.length) (.int (1 + (j : Int))) S = .ok (.int (mN (1 + j))) S := by
      have := ix_nums h.m (j := 1 + j) (by rw [MANYZ_len]; omega)
      rw [MANYZ_get (by omega)] at this
      rw [← this]; congr 2 <;> omega
    have i2 : ixW (.loc (st.length + 1)) (.int ((k : Int) + 1 - (1 + (j : Int)))) S = .ok (.int ((NN k).getD (k + 1 - (1 + j)) 0)) S := by
      have := ix_nums h.n (j := k + 1 - (1 + j)) (by rw [NN_len]; omega)
      rw [← this]; congr 2 <;> omega
    rw [i1, Res.bind_ok, i2, Res.bind_ok, mul_term (by omega)]
    unfold term
    rw [NN_len]; rfl) (by simp; exact Nat.le_trans (Nat.min_le_left _ _) (by decide))
  rw [List.map_map]
  exact this
theorem while_inv {c : D Bool} {b : DS} (I : Nat → EnvW → Store → Prop) (n : Nat) (hs : ∀ i env st, i < n → I i env st → ∃ env2 st2, c env st = .ok true st ∧ b env st = .go .nx env2 st2 ∧ I (i + 1) env2 st2)
    (he : ∀ env st, I n env st → c env st = .ok false st) {env : EnvW} {st : Store} (h0 : I 0 env st) : ∃ env' st', sWhile c b env st = .go .nx env' st' ∧ I n env' st' := by
  have key : ∀ m i env st, i + m = n → I i env st → ∃ env' st', whileF c b (m + 1) env st = .go .nx env' st' ∧ I n env' st' := by
    intro m
    induction m with
    | zero =>
      intro i env st hi h
      have : i = n := by omega
      subst this
      refine ⟨env, st, ?_, h⟩
      unfold whileF
      rw [he env st h]; rfl
    | succ m ih =>
      intro i env st hi h
      obtain ⟨env2, st2, e1, e2, h2⟩ := hs i env st (by omega) h
      obtain ⟨env', st', e3, h3⟩ := ih (i + 1) env2 st2 (by omega) h2
      refine ⟨env', st', ?_, h3⟩
      unfold whileF
      rw [e1]
      simp only [Res.then_ok, if_true]
      rw [e2]; exact e3
  obtain ⟨env', st', e, h⟩ := key n 0 env st (by omega) h0
  exact ⟨env', st', sWhile_eq _ e (by simp), h⟩
@[simp] theorem rngW_i {i j : Int} {st : Store} : rngW [.int i, .int j] st = .ok (.rng i j) st := rfl
theorem itOf_rng {i j : Int} {st : Store} (h0 : 0 ≤ i) (h1 : i < 2 ^ 62) (h : 0 ≤ j) (h' : j < 2 ^ 62) : itOf (.rng i j) st = .ok ⟨intsW i (j - i).toNat, none⟩ st := by
  show (if _ then _ else _) = _
  rw [if_pos ⟨by omega, h1, by omega, h'⟩]
theorem sl_take {S : Store} {k n : Nat} {ws : List W} (h : S[k]? = some (.lst ws)) : slW (.loc k) none (some (n : Int)) S = .ok (.loc S.length) (S ++ [.lst (ws.take n)]) := by
  unfold slW lstW
  simp only [h]
  rw [cut_to]
theorem min20 (k : Nat) : (if (k : Int) + 1 < 20 then (k : Int) + 1 else 20) = ((min 20 (k + 1) : Nat) : Int) := by
  split <;> omega
theorem p1_toNat (n : Nat) : ((n : Int) + 1 - 1).toNat = n := by omega
theorem nums_end {st S : Store} {n : Nat} {k : Nat} (h : NSt st k S) : gc st (.loc S.length) (S ++ [.lst (((NN k).map W.int).take n)]) = .ok (.loc st.length) (st ++ [.lst (((NN k).take n).map W.int)]) := by
  have hl := h.le
  have := gc_new (p := st.length + 1) (st := st) (st' := S ++ [.lst (((NN k).map W.int).take n)]) (m := S.length) (ws := ((NN k).take n).map W.int) (h.ext.trans (.app _)) (fun o hp _ => absurd hp (by omega)) (by omega) (by rw [List.map_take]; simp) nums_cl
  rw [this, Ext.takeEq (h.ext.trans (.app _)) (by omega)]
def nnS (s : Nat) : Int := (NN (s - 1)).getD s 0
theorem NN_stable {i : Nat} : ∀ {k m : Nat}, i < k + 2 → k ≤ m → (NN m).getD i 0 = (NN k).getD i 0
  | k, 0, h, hm => by have : k = 0 := by omega
                      subst this; rfl
  | k, m + 1, h, hm => by
    by_cases e : k = m + 1
    · subst e; rfl
    · rw [← NN_stable (k := k) (m := m) h (by omega), NN, List.getD_eq_getElem?_getD, List.getElem?_append_left (by rw [NN_len]; omega), List.getD_eq_getElem?_getD]
theorem due_get {most s : Nat} (h : s ≤ most) : ((NN (most - 1)).take (most + 1)).getD s 0 = nnS s := by
  rw [List.getD_eq_getElem?_getD, List.getElem?_take, if_pos (by omega), ← List.getD_eq_getElem?_getD]
  exact NN_stable (by omega) (by omega)
theorem due_len (most : Nat) : ((NN (most - 1)).take (most + 1)).length = most + 1 := by
  rw [List.length_take, NN_len]; omega
def sgn (c : Nat) : W := .str ⟨#[c]⟩
def txt (l : List Nat) : Str := ⟨l.toArray⟩
theorem cl_txt (l : List Nat) : cl (txt l) = l := rfl
theorem txt_len (l : List Nat) : (txt l).length = l.length := rfl
theorem txt_one (c : Nat) : txt [c] = ⟨#[c]⟩ := rfl
theorem dm_ok {n m : Nat} {st : Store} (h : 0 < m) (h' : m < 100) : divmodW [.int (n : Int), .int (m : Int)] st = .ok (.tup [.int ((n / m : Nat) : Int), .int ((n % m : Nat) : Int)]) st := by
  have : CDiv (n : Int) (m : Int) := ⟨by omega, by omega⟩
  unfold divmodW
  simp only [if_pos this]
  rfl
theorem dm36 {n : Nat} {st : Store} : divmodW [.int (n : Int), .int 36] st = .ok (.tup [.int ((n / 36 : Nat) : Int), .int ((n % 36 : Nat) : Int)]) st := dm_ok (m := 36) (by decide) (by decide)
theorem dm37 {n : Nat} {st : Store} : divmodW [.int (n : Int), .int 37] st = .ok (.tup [.int ((n / 37 : Nat) : Int), .int ((n % 37 : Nat) : Int)]) st := dm_ok (m := 37) (by decide) (by decide)
theorem kAsg_2 {i j : Nat} {a b : W} {env : EnvW} {st : Store} : kAsg (tTupT [tName i, tName j]) env (.tup [a, b]) st = .go .nx ((env.set i (some a)).set j (some b)) st := rfl
theorem sgn_join {S : Store} {q : Nat} {l : List Nat} (h : S[q]? = some (.lst (l.map sgn))) (hl : l.length ≤ 8192) : joinW (.str "") [.loc q] S = .ok (.str (txt l)) S := by
  have e : l.map sgn = (l.map fun c => (⟨#[c]⟩ : Str)).map W.str := by rw [List.map_map]; rfl
  rw [e] at h
  have hs : ((l.map fun c => (⟨#[c]⟩ : Str)).map (·.length)).sum + (l.map fun c => (⟨#[c]⟩ : Str)).length * ("" : Str).length ≤ 16777216 := by
    have h0 : ("" : Str).length = 0 := rfl
    rw [h0, Nat.mul_zero, Nat.add_zero]
    have := sum_le (xs := l.map fun c => (⟨#[c]⟩ : Str)) (f := (·.length)) (k := 1) (fun x hx => by
      obtain ⟨c, _, rfl⟩ := List.mem_map.mp hx
      exact Nat.le_refl 1)
    rw [List.length_map] at this
    omega
  rw [join_at h hs]
  congr 2
  apply str_ext
  rw [join0, cl_txt, List.map_map]
  clear h e hs hl
  induction l with
  | nil => rfl
  | cons a l ih => simpa [cl] using ih
theorem sgn_cl {n : Nat} {c : Nat} : clB n (sgn c) = true := rfl
theorem forW_pre {chk : Store → Prop} {t : DT} {b : DS} (I : Nat → EnvW → Store → Prop) (hc : ∀ i env st, I i env st → chk st) : ∀ (ws : List W) (k : Nat) (env : EnvW) (st : Store),
    (∀ i w env st, ws[i]? = some w → I (k + i) env st → ∃ env1 st1 env2 st2, t w env st = some (env1, st1) ∧ b env1 st1 = .go .nx env2 st2 ∧ I (k + i + 1) env2 st2) → I k env st →
    ∃ env' st', (∀ vs, forW chk t b (ws ++ vs) env st = forW chk t b vs env' st') ∧ I (k + ws.length) env' st'
  | [], k, env, st, _, h => ⟨env, st, fun _ => rfl, h⟩
  | w :: ws, k, env, st, hs, h => by
    obtain ⟨env1, st1, env2, st2, e1, e2, h2⟩ := hs 0 w env st rfl h
    obtain ⟨env', st', e3, h3⟩ := forW_pre I hc ws (k + 1) env2 st2 (fun i w env st hw hI => by
      have := hs (i + 1) w env st (by simpa using hw) (by rwa [show k + (i + 1) = k + 1 + i by omega])
      rwa [show k + (i + 1) + 1 = k + 1 + i + 1 by omega] at this) h2
    refine ⟨env', st', fun vs => ?_, ?_⟩
    · rw [List.cons_append]
      conv => lhs; unfold forW
      rw [if_pos (hc _ _ _ h), e1]
      dsimp only
      rw [e2]; exact e3 vs
    · rw [List.length_cons, show k + (ws.length + 1) = k + 1 + ws.length by omega]; exact h3
theorem ints_get {lo : Int} {n i : Nat} {w : W} (h : (intsW lo n)[i]? = some w) : i < n ∧ w = .int (lo + (i : Int)) := by
  have hi : i < n := by have := (List.getElem?_eq_some_iff.mp h).1; simpa [intsW] using this
  unfold intsW at h
  rw [List.getElem?_map, List.getElem?_range hi] at h
  exact ⟨hi, by simpa using h.symm⟩
theorem ahead_sum : ∀ n : Nat, ((List.range n).map fun i : Nat => ((mN (1 + i) : Nat) : Int)).sum = (aN (n + 1) : Int)
  | 0 => rfl
  | n + 1 => by
    rw [List.range_succ, List.map_append, List.sum_append, ahead_sum n]
    simp only [List.map_cons, List.map_nil, List.sum_cons, List.sum_nil]
    rw [show aN (n + 1 + 1) = aN (n + 1) + mN (n + 1) from rfl, Nat.add_comm 1 n]
    omega
theorem ahead_lc {st : Store} {env : EnvW} {i L : Nat} {e : D W} (h1 : 1 ≤ L) (h2 : L ≤ 21) (he : ∀ j : Nat, e (env.set i (some (.int (1 + (j : Int))))) st = .ok (.int (manyZ (1 + (j : Int)))) st) :
    ∃ g, kLc env (tName i) dYes e ⟨intsW 1 (L - 1), none⟩ st = .ok (.loc st.length) (st ++ [g]) ∧ sumW [.loc st.length] (st ++ [g]) = .ok (.int (aN L : Int)) (st ++ [g]) := by
  have := kLc_mapB (env := env) (i := i) (e := e) (st := st) (src := none) (fun j : Nat => W.int (1 + (j : Int))) (fun j : Nat => W.int ((mN (1 + j) : Nat) : Int)) (List.range (L - 1)) (by simp) (fun j hj => by
    rw [he j, show (1 : Int) + (j : Int) = ((1 + j : Nat) : Int) by omega, manyZ_nat]) (by simp; exact Nat.le_trans (show L ≤ 100 by omega) (by decide))
  refine ⟨_, this, ?_⟩
  rw [sum_at (l := (List.range (L - 1)).map fun i : Nat => ((mN (1 + i) : Nat) : Int)) (by rw [List.map_map]; simp), ahead_sum, show L - 1 + 1 = L by omega]
theorem txt_lenW {l : List Nat} {st : Store} (h : okS (txt l) = true) : lenW [.str (txt l)] st = .ok (.int (l.length : Int)) st := by
  rw [len_str (okS.line h), txt_len]
theorem txt_first {l : List Nat} {st : Store} (h : okS (txt l) = true) (h1 : 1 ≤ l.length) : ixW (.str (txt l)) (.int 0) st = .ok (sgn (l.getD 0 0)) st := by
  obtain ⟨c, e, _, q⟩ := ix_str (x := txt l) (i := 0) (okS.line h) (by decide) (by rw [txt_len]; omega)
  rw [q st]
  have : l.getD 0 0 = c := by rw [List.getD_eq_getElem?_getD]; have e' : l[0]? = some c := e; rw [e']; rfl
  rw [this]; rfl
theorem txt_last {l : List Nat} {st : Store} (h : okS (txt l) = true) (h1 : 1 ≤ l.length) : ixW (.str (txt l)) (.int (-1)) st = .ok (sgn (l.getD (l.length - 1) 0)) st := by
  obtain ⟨c, e, _, q⟩ := ix_strL (x := txt l) (okS.line h) (by rw [txt_len]; omega)
  rw [q st]
  have : l.getD (l.length - 1) 0 = c := by rw [List.getD_eq_getElem?_getD]; have e' : l[l.length - 1]? = some c := e; rw [e']; rfl
  rw [this]; rfl
theorem cut_mid {l : List Nat} (h1 : 2 ≤ l.length) : cutS (txt l) (some 1) (some (-1)) = txt ((l.drop 1).take (l.length - 2)) := by
  apply str_ext
  show List.take _ (List.drop _ l) = _
  have e1 : HT.sIx (txt l).length 0 (some 1) = 1 := by
    unfold HT.sIx
    simp only
    rw [if_neg (by decide), txt_len]
    have : (1 : Int).toNat = 1 := rfl
    rw [this]; omega
  have e2 : HT.sIx (txt l).length (txt l).length (some (-1)) = l.length - 1 := by
    unfold HT.sIx
    simp only
    rw [if_pos (by decide), txt_len]; omega
  rw [e1, e2]
  rfl
theorem signs_txt (l : List Nat) : MP.signs (txt l) = l.map sgn := rfl
theorem sgn_set {l : List Nat} {i c : Nat} : (l.map sgn).set i (sgn c) = (l.set i c).map sgn := by rw [List.map_set]
@[simp] theorem sTryEach_ap (b : DS) (l : List ClD) (env : EnvW) (st : Store) : sTryEach b l env st = kEach l (b env st) := rfl
theorem gc_any {st g : Store} {m : Nat} {ws : List W} (hm : st.length ≤ m) (e : (st ++ g)[m]? = some (.lst ws)) : ∃ q g', gc st (.loc m) (st ++ g) = .ok (.loc q) (st ++ g') ∧ (st ++ g')[q]? = some (.lst ws) ∧ (clBs st.length ws = true ∨ g' = g) := by
  by_cases h : clBs st.length ws = true
  · exact ⟨st.length, [.lst ws], gc_newA hm e h, by simp, .inl h⟩
  · have g0 : GcOk st (st ++ g) := fun i hi => .inl (List.getElem?_append_left hi)
    have hv : ¬ clB st.length (.loc m) = true := by simp [clB]; omega
    refine ⟨m, g, ?_, e, .inr rfl⟩
    unfold gc; rw [if_pos g0, if_neg hv]
    simp only [e, if_neg h]
theorem pic_cl {st g g' : Store} {w u : W} (h : Pic (st ++ g) w u) (hc : clB st.length w = true) : Pic (st ++ g') w u := by
  cases h with
  | pu _ h => exact .pu _ h
  | ls k ws h hl hw =>
    have hk : k < st.length := by simpa [clB] using hc
    refine .ls k ws ?_ hl hw
    rw [List.getElem?_append_left hk] at h ⊢
    exact h
def eL : Str := "label"
def eNum : Str := "number"
theorem ok_eL : okS eL = true := by decide +kernel
theorem ok_eNum : okS eNum = true := by decide +kernel
theorem sub1 : subL [("TreeError", false), ("InvalidLabel", false), ("InvalidNumber", true)] "InvalidNumber" = some true := by decide +kernel
theorem sub2 : subL [("TreeError", false), ("InvalidLabel", false), ("InvalidNumber", true)] "InvalidLabel" = some false := by decide +kernel
theorem sub3 : subL [("TreeError", false), ("InvalidLabel", true), ("InvalidNumber", false)] "InvalidLabel" = some true := by decide +kernel
def rL : List ClD := [(3, subL [("TreeError", false), ("InvalidLabel", false), ("InvalidNumber", true)], fun cN wv => (sAsg (dLst (dCons (dC (.str "number")) (dCons (dExc wv) dNil))) (tName 2))), (3, subL [("TreeError", false), ("InvalidLabel", true), ("InvalidNumber", false)], fun cN wv => (sAsg (dLst (dCons (dC (.str "label")) (dCons (dExc wv) dNil))) (tName 2)))]
theorem each_num {a b c d : Option W} {w : W} {T : Store} : kEach rL (.err "InvalidNumber" w [a, b, c, d] T) = .go .nx [a, b, some (.loc T.length), none] (T ++ [.lst [.str eNum, w]]) := by
  have kl : kLst [.str "number", w] T = .ok (.loc T.length) (T ++ [.lst [.str eNum, w]]) := lst5 (by simp)
  unfold kEach rL eachC
  simp only [sub1, List.length_cons, List.length_nil, Nat.reduceAdd, Nat.reduceLT, if_true]
  simp -implicitDefEqProofs [kl]
theorem each_lab {a b c d : Option W} {w : W} {T : Store} : kEach rL (.err "InvalidLabel" w [a, b, c, d] T) = .go .nx [a, b, some (.loc T.length), none] (T ++ [.lst [.str eL, w]]) := by
  have kl : kLst [.str "label", w] T = .ok (.loc T.length) (T ++ [.lst [.str eL, w]]) := lst5 (by simp)
  unfold kEach rL eachC
  simp only [sub2]
  unfold eachC
  simp only [sub3, List.length_cons, List.length_nil, Nat.reduceAdd, Nat.reduceLT, if_true]
  simp -implicitDefEqProofs [kl]
@[simp] theorem neW_i {i j : Int} {st : Store} : neW (.int i) (.int j) st = .ok (.bl (!(i == j))) st := by
  rw [pic_ne (.pu _ rfl) (.pu _ rfl)]
  simp only [dU, d5, dat, PyData.eqv.eq_5]
theorem log_big {m : Int} {k : Nat} (h0 : 0 < m) (h : m < 2 ^ k) (hk : k ≤ 8000) : m.natAbs.log2 < 9000 := by
  have h1 : m.natAbs ≠ 0 := by omega
  have h2 : m.natAbs < 2 ^ k := by
    have e : (2 : Int) ^ k = ((2 ^ k : Nat) : Int) := by simp
    rw [e] at h
    omega
  have := (Nat.log2_lt h1).mpr h2
  omega
theorem seq_loc {S : Store} {k : Nat} {ws : List W} (h : S[k]? = some (.lst ws)) : seqW S (.loc k) = some ws := by simp [seqW, h]
theorem mN_pos {L : Nat} (h : 1 ≤ L) (h' : L ≤ 20) : 0 < mN L := by
  unfold mN
  rw [if_neg (by omega)]
  split
  · decide
  · exact Nat.mul_pos (by decide) (Nat.pow_pos (by decide))
theorem mN_log {L : Nat} (h : 1 ≤ L) (h' : L ≤ 20) : (mN L : Int).natAbs.log2 < 9000 := by
  refine log_big (k := 105) (by have := mN_pos h h'; omega) ?_ (by decide)
  have := mN_lt L
  have e : (2 : Int) ^ 105 = ((2 ^ 105 : Nat) : Int) := by decide
  rw [e]; omega
theorem le_same {a b : List Nat} {n : Int} {st : Store} (h : a < b) : leTW (.tup [.int n, .str (txt b)]) (.tup [.int n, .str (txt a)]) st = .ok (.bl false) st := by
  have h1 : (txt b == txt a) = false := by
    rw [Bool.eq_false_iff]
    intro z
    have : txt b = txt a := beq_iff_eq.mp z
    have : b = a := by have := congrArg cl this; rwa [cl_txt, cl_txt] at this
    rw [this] at h
    exact List.lt_irrefl _ h
  have h2 : decide ((txt a).cps.toList < (txt b).cps.toList) = true := decide_eq_true h
  unfold leTW
  simp only [pairsW, pairW, h1, h2, List.length_cons, List.length_nil, Nat.reduceAdd, Nat.min_self]
  simp [Ob.lexAt]
theorem le_more {x y : Str} {n : Int} {st : Store} : leTW (.tup [.int (n + 1), .str y]) (.tup [.int n, .str x]) st = .ok (.bl false) st := by
  have h1 : (n + 1 == n) = false := beq_false_of_ne (by omega)
  have h2 : decide (n + 1 ≤ n) = false := decide_eq_false (by omega)
  unfold leTW
  simp only [pairsW, pairW, h1, h2, List.length_cons, List.length_nil, Nat.reduceAdd, Nat.min_self]
  simp [Ob.lexAt]
theorem isi_int {z : Int} {st : Store} : isiW [.int z, .gl (.ty "int")] st = .ok (.bl true) st := isi_of (t := "int") rfl (kB_int (.int z))
theorem isi_int_b {z : Int} {st : Store} : isiW [.int z, .gl (.ty "bool")] st = .ok (.bl false) st := isi_of (t := "int") rfl (kB_bool (.int z))
theorem num_pic {S : Store} {q : Nat} {v : Int} (h : S[q]? = some (.lst [.str eNum, .int v])) : Pic S (.loc q) (.fro [.str eNum, .int v]) := .ls q _ h (by simp) (fun w hw => by
  simp only [List.mem_cons, List.not_mem_nil, or_false] at hw
  rcases hw with rfl | rfl
  · exact ok_eNum
  · rfl)
theorem num_eq {S : Store} {q q' : Nat} {v : Int} (h : S[q]? = some (.lst [.str eNum, .int v])) (h' : S[q']? = some (.lst [.str eNum, .int v])) : eqW (.loc q) (.loc q') S = .ok (.bl true) S := by
  rw [pic_eq (num_pic h) (num_pic h'), (num_pic h).refl]
theorem num_ne {S : Store} {q q' : Nat} {v : Int} (h : S[q]? = some (.lst [.str eNum, .int v])) (h' : S[q']? = some (.lst [.str eNum, .int v])) : neW (.loc q) (.loc q') S = .ok (.bl false) S := by
  rw [pic_ne (num_pic h) (num_pic h'), (num_pic h).refl]; rfl
theorem lab_data {S : Store} {q : Nat} {a u : W} (h : S[q]? = some (.lst [.str eL, a])) (hp : Pic S a u) : datF S 66 (.loc q) = some (.list [.str eL, dU u]) ∧ SeqAt.shaped (.list [.str eL, dU u]) = true := by
  constructor
  · have h1 : datF S 65 a = some (dU u) := hp.dat 65 (by decide)
    have h2 : datF S 65 (.str eL) = some (.str eL) := rfl
    show (match S[q]? with | some (.lst ws) => (allO (ws.map (datF S 65))).map PyData.list | none => none) = _
    rw [h]
    simp only [List.map_cons, List.map_nil, h1, h2, allO, Option.map_some]
  · obtain ⟨c, d⟩ := hp.shp
    refine shaped_of ⟨?_, ?_⟩
    · show PyData.canLayAll0 [.str eL, dU u] = true
      rw [PyData.canLayAll0.eq_2, PyData.canLayAll0.eq_2, c]
      exact (by decide +kernel : ((PyData.str eL).canLay0 && (true && PyData.canLayAll0 [])) = true)
    · rw [PyData.depth.eq_1, PyData.depthAll.eq_2, PyData.depthAll.eq_2]
      have : (PyData.str eL).depth = 0 := rfl
      have h0 : PyData.depthAll [] = 0 := rfl
      rw [this, h0]; omega
theorem lab_eq {S : Store} {q q' : Nat} {a b u : W} (h : S[q]? = some (.lst [.str eL, a])) (h' : S[q']? = some (.lst [.str eL, b])) (hp : Pic S a u) (hp' : Pic S b u) : eqW (.loc q) (.loc q') S = .ok (.bl true) S := by
  obtain ⟨d1, s1⟩ := lab_data h hp
  obtain ⟨d2, s2⟩ := lab_data h' hp'
  rw [eqW_of d1 d2 s1 s2]
  congr 2
  rw [PyData.eqv.eq_7, PyData.eqvAll.eq_2, PyData.eqvAll.eq_2, hp.refl, PyData.eqv.eq_6]
  simp [PyData.eqvAll.eq_1]
theorem eq_a {w u : W} {st : Store} (h : Pic st w u) : (u = .str "a" ∧ w = .str "a" ∧ eqW w (.str "a") st = .ok (.bl true) st) ∨ (u ≠ .str "a" ∧ eqW w (.str "a") st = .ok (.bl false) st) := by
  have ha : okS ("a" : Str) = true := by decide +kernel
  have e := pic_eq h (.pu (st := st) (.str "a") (pu_str ha))
  by_cases hu : u = .str "a"
  · subst hu
    obtain ⟨rfl, _⟩ := Pic.str h
    refine .inl ⟨rfl, rfl, ?_⟩
    rw [eqW_str ha ha]; simp
  · refine .inr ⟨hu, ?_⟩
    rw [e]
    congr 2
    cases h with
    | pu _ hp =>
      rw [dU_pu hp]
      show (dat 5 w).eqv (.str "a") = false
      rw [eqv_str]
      cases w with
      | str y =>
        simp only
        exact beq_false_of_ne (fun z => hu (by rw [z]))
      | _ => rfl
    | ls k ws _ _ _ => rfl
def BAD (w5 : W) : List W := [.str "*", .str (repS "a" 21), .str "", .str "-a", w5, .tup [.str "a"]]
def tW (l : List Nat) : W := .str (txt l)
theorem txt_inj {a b : List Nat} (h : txt a = txt b) : a = b := by
  have := congrArg cl h; rwa [cl_txt, cl_txt] at this
theorem ok_t {l : List Nat} (h : ∀ c ∈ l, c < 128) (hl : l.length ≤ 8192) : okS (txt l) = true := okS_iff.mpr ⟨hl, h⟩
theorem in_ints {neg : Bool} {x : Int} {xs : List Int} {k : Nat} {st : Store} (h : st[k]? = some (.lst (xs.map W.int))) : inW neg (.int x) (.loc k) st = .ok (.bl (if neg then !decide (x ∈ xs) else decide (x ∈ xs))) st := by
  unfold inW inB
  have e : allO ((xs.map W.int).map flV) = some (xs.map V.int) := by
    rw [List.map_map]; exact allO_of _ V.int xs fun _ _ => rfl
  simp only [seq_loc h, flV, e]
  have : inV (V.int x) (xs.map V.int) = decide (x ∈ xs) := by
    unfold inV
    rw [List.any_map, Bool.eq_iff_iff, List.any_eq_true, decide_eq_true_iff]
    constructor
    · rintro ⟨y, hy, e⟩
      have : y = x := by simpa [L2.eqV] using e
      rw [← this]; exact hy
    · exact fun h => ⟨x, h, by simp [L2.eqV]⟩
  rw [this]
theorem in_txts {neg : Bool} {x : List Nat} {xs : List (List Nat)} {k : Nat} {st : Store} (h : st[k]? = some (.lst (xs.map tW))) : inW neg (tW x) (.loc k) st = .ok (.bl (if neg then !decide (x ∈ xs) else decide (x ∈ xs))) st := by
  unfold inW inB
  have e : allO ((xs.map tW).map flV) = some (xs.map fun l => V.str (txt l)) := by
    rw [List.map_map]; exact allO_of _ (fun l => V.str (txt l)) xs fun _ _ => rfl
  simp only [seq_loc h, tW, flV, e]
  have : inV (V.str (txt x)) (xs.map fun l => V.str (txt l)) = decide (x ∈ xs) := by
    unfold inV
    rw [List.any_map, Bool.eq_iff_iff, List.any_eq_true, decide_eq_true_iff]
    constructor
    · rintro ⟨y, hy, e⟩
      have : txt y = txt x := by simpa [L2.eqV] using e
      rw [← txt_inj this]; exact hy
    · exact fun h => ⟨x, h, by simp [L2.eqV]⟩
  rw [this]
theorem lcW_filter {β : Type} {chk : Store → Prop} {env : EnvW} {i : Nat} {c : D Bool} {e : D W} {st : Store} (k g : β → W) (q : β → Bool) (hc : chk st) : ∀ (l : List β) (acc : List W), (∀ b ∈ l, c (env.set i (some (k b))) st = .ok (q b) st ∧ (q b = true → e (env.set i (some (k b))) st = .ok (g b) st)) → acc.length + l.length ≤ sizeLine →
    lcW chk env (tName i) c e (l.map k) acc st = some (acc ++ (l.filter q).map g, st)
  | [], acc, _, _ => by unfold lcW; simp only [List.map_nil]; rw [if_pos hc]; simp
  | b :: l, acc, hs, hl => by
    simp only [List.length_cons] at hl
    simp only [List.map_cons]
    obtain ⟨h1, h2⟩ := hs b List.mem_cons_self
    have ih := fun acc => lcW_filter k g q hc l acc fun w m => hs w (List.mem_cons_of_mem _ m)
    unfold lcW
    rw [if_pos hc]
    dsimp only [tName]
    rw [h1]
    cases hq : q b with
    | true =>
      dsimp only
      rw [h2 hq]
      dsimp only
      rw [if_pos (by omega), ih (acc ++ [g b]) (by simp; omega)]
      simp [hq]
    | false =>
      dsimp only
      rw [ih acc (by omega)]
      simp [hq]
theorem kLc_filter {β : Type} {env : EnvW} {i : Nat} {c : D Bool} {e : D W} {st : Store} {src : Option Nat} (k g : β → W) (q : β → Bool) (l : List β) (hc : (ItW.mk (l.map k) src).Chk st) (hs : ∀ b ∈ l, c (env.set i (some (k b))) st = .ok (q b) st ∧ (q b = true → e (env.set i (some (k b))) st = .ok (g b) st)) (hl : l.length ≤ sizeLine) :
    kLc env (tName i) c e ⟨l.map k, src⟩ st = .ok (.loc st.length) (st ++ [.lst ((l.filter q).map g)]) := by
  unfold kLc
  simp only
  rw [lcW_filter k g q hc l [] hs (by simpa using hl)]
  simp
theorem least {P : Nat → Prop} : ∀ n, (∃ i, i < n ∧ P i) → ∃ i, i < n ∧ P i ∧ ∀ j, j < i → ¬ P j
  | 0, h => by obtain ⟨i, hi, _⟩ := h; omega
  | n + 1, h => by
    by_cases q : ∃ i, i < n ∧ P i
    · obtain ⟨i, h1, h2, h3⟩ := least n q
      exact ⟨i, by omega, h2, h3⟩
    · obtain ⟨i, hi, hp⟩ := h
      refine ⟨i, hi, hp, fun j hj hq => q ⟨j, by omega, hq⟩⟩
theorem ints0 (n : Nat) : intsW 0 n = (List.range n).map fun i : Nat => W.int (i : Int) := by simp [intsW]
theorem ix_tW {S : Store} {q i : Nat} {l : List (List Nat)} (h : S[q]? = some (.lst (l.map tW))) (hi : i < l.length) : ixW (.loc q) (.int (i : Int)) S = .ok (tW (l.getD i [])) S := by
  unfold ixW
  simp only [seq_loc h]
  rw [atI_nat (by simpa using hi), List.getElem?_map, List.getElem?_eq_getElem hi]
  simp [hi]
theorem listA_loc {S : Store} {q : Nat} {ws : List W} (h : S[q]? = some (.lst ws)) : listAW [.loc q] S = .ok (.loc S.length) (S ++ [.lst ws]) := by
  show listW [.loc q] S = _
  unfold listW
  simp only [seq_loc h]
theorem rev_loc {S : Store} {q : Nat} {ws : List W} (h : S[q]? = some (.lst ws)) : revW (.loc q) S = .ok (.loc S.length) (S ++ [.lst ws.reverse]) := by
  unfold revW lstW
  simp only [h]
theorem star_tW : (W.str "*") = tW [42] := by
  have : ("*" : Str) = txt [42] := by decide +kernel
  rw [this]; rfl
theorem txts_pic {S : Store} {q : Nat} {l : List (List Nat)} (h : S[q]? = some (.lst (l.map tW))) (hl : l.length ≤ 8192) (ho : ∀ x ∈ l, okS (txt x) = true) : Pic S (.loc q) (.fro (l.map tW)) := .ls q _ h (by simpa using hl) (fun w hw => by
  obtain ⟨x, hx, rfl⟩ := List.mem_map.mp hw
  exact ho x hx)
def uS5 : DS := (sAsg (dApp listAW (dCons (dVar 4) dNil)) (tName 5))
def uS6 : DS := (sAsg (dOp ixW (dLc (dIt (dVar 1)) [8] (tName 8) (dBool (dOp (inW true) (dVar 8) (dVar 4))) (dVar 8)) (dC (.int 0))) (tName 6))
section
variable {p n R : Nat} {b2 b3 b4 b5 b6 b7 b8 : Option W} {S : Store}
end
end
end MP
namespace K02
open PySem PySem.Spec PyProof.Rows L2 MP
noncomputable section
abbrev top (i : Nat) : Stmt := PySem.Challenge.pw_rootward_k02_order_and_sizes.main.body.getD i (.Pass ⟨0, 0, 0, 0⟩)
def c_WILD : Str := "*"
def c_ENDS : Str := "0123456789abcdefghijklmnopqrstuvwxyz"
def c_INNER : Str := "-0123456789abcdefghijklmnopqrstuvwxyz"
structure Txt (P : Program) (w : World) (K : PySem.W.Frag) (mg : Str → Option Value) (base : Heap) where
  D_ends_with : DefF K mg "ends_with" "ends_with" (top 6) ["name", "other"]
  D_place : DefF K mg "place" "place" (top 7) ["name"]
  D_in_order : DefF K mg "in_order" "in_order" (top 8) ["names"]
  D_weight : DefF K mg "weight" "weight" (top 9) ["name"]
  D_sized_place : DefF K mg "sized_place" "sized_place" (top 10) ["name"]
  D_rebuilt : DefF K mg "rebuilt" "rebuilt" (top 12) ["value"]
  D__is_plain : DefF K mg "_is_plain" "_is_plain" (top 18) ["text"]
  D_is_name : DefF K mg "is_name" "is_name" (top 19) ["value"]
  D_is_asked : DefF K mg "is_asked" "is_asked" (top 20) ["value"]
  D_check_name : DefF K mg "check_name" "check_name" (top 21) ["name"]
  D_check_names : DefF K mg "check_names" "check_names" (top 22) ["names"]
  D_is_under : DefF K mg "is_under" "is_under" (top 23) ["name", "other"]
  D_labels_ahead : DefF K mg "labels_ahead" "labels_ahead" (top 24) ["name", "other"]
  D_common : DefF K mg "common" "common" (top 25) ["one", "other"]
  D_compared : DefF K mg "compared" "compared" (top 26) ["one", "other"]
  D_ordered : DefF K mg "ordered" "ordered" (top 27) ["names"]
  D_neighbours : DefF K mg "neighbours" "neighbours" (top 28) ["names", "name"]
  D_size : DefF K mg "size" "size" (top 29) ["name"]
  D_first : DefF K mg "first" "first" (top 30) ["names"]
  D__law_pot : DefF K mg "_law_pot" "_law_pot" (top 32) ["_law_script", "_law_k"]
  D__law_take : DefF K mg "_law_take" "_law_take" (top 33) ["_law_pot_here", "_law_many"]
  D__law_same : DefF K mg "_law_same" "_law_same" (top 34) ["_law_told", "_law_due"]
  D__law_label : DefF K mg "_law_label" "_law_label" (top 35) ["_law_pot_here"]
  D__law_words : DefF K mg "_law_words" "_law_words" (top 36) ["_law_pot_here", "_law_many"]
  D__law_odd : DefF K mg "_law_odd" "_law_odd" (top 37) ["_law_pot_here"]
  D__law_name : DefF K mg "_law_name" "_law_name" (top 38) ["_law_pot_here", "_law_words_here"]
  D__law_ahead : DefF K mg "_law_ahead" "_law_ahead" (top 39) ["_law_one", "_law_other"]
  D__law_order : DefF K mg "_law_order" "_law_order" (top 40) ["_law_names"]
  D__law_size : DefF K mg "_law_size" "_law_size" (top 41) ["_law_name_here"]
  D__law_first : DefF K mg "_law_first" "_law_first" (top 42) ["_law_names"]
  D__law_lists_right : DefF K mg "_law_lists_right" "_law_lists_right" (top 43) ["_law_pot_here", "_law_words_here"]
  D__law_pairs_right : DefF K mg "_law_pairs_right" "_law_pairs_right" (top 44) ["_law_pot_here", "_law_words_here"]
  D__law_labels_ahead : DefF K mg "_law_labels_ahead" "_law_labels_ahead" (top 45) ["_law_one", "_law_other"]
  D__law_refused : DefF K mg "_law_refused" "_law_refused" (top 46) ["_law_way", "_law_one", "_law_other"]
  D__law_refusals_right : DefF K mg "_law_refusals_right" "_law_refusals_right" (top 47) ["_law_pot_here", "_law_words_here"]
  D_law : DefF K mg "law" "law" (top 48) ["_law_script"]
  k_first : ∀ (s : Shared) (ws : List Value), K.In s.heap → ws.length = (["names"] : List Str).length → BindsTo s D_first.fd ⟨[], (["names"] : List Str).zip ws⟩ ((["names"] : List Str).zip ws)
  k_ordered : ∀ (s : Shared) (ws : List Value), K.In s.heap → ws.length = (["names"] : List Str).length → BindsTo s D_ordered.fd ⟨[], (["names"] : List Str).zip ws⟩ ((["names"] : List Str).zip ws)
  k_size : ∀ (s : Shared) (ws : List Value), K.In s.heap → ws.length = (["name"] : List Str).length → BindsTo s D_size.fd ⟨[], (["name"] : List Str).zip ws⟩ ((["name"] : List Str).zip ws)
  k_neighbours_1_0 : ∀ (s : Shared) (ws : List Value), K.In s.heap → ws.length = (["names", "name"] : List Str).length → BindsTo s D_neighbours.fd ⟨[], (["name", "names"] : List Str).zip ws⟩ ((["names", "name"] : List Str).zip (permL [1, 0] ws))
  k_compared_1_0 : ∀ (s : Shared) (ws : List Value), K.In s.heap → ws.length = (["one", "other"] : List Str).length → BindsTo s D_compared.fd ⟨[], (["other", "one"] : List Str).zip ws⟩ ((["one", "other"] : List Str).zip (permL [1, 0] ws))
  k_common_1_0 : ∀ (s : Shared) (ws : List Value), K.In s.heap → ws.length = (["one", "other"] : List Str).length → BindsTo s D_common.fd ⟨[], (["other", "one"] : List Str).zip ws⟩ ((["one", "other"] : List Str).zip (permL [1, 0] ws))
  k_is_under_1_0 : ∀ (s : Shared) (ws : List Value), K.In s.heap → ws.length = (["name", "other"] : List Str).length → BindsTo s D_is_under.fd ⟨[], (["other", "name"] : List Str).zip ws⟩ ((["name", "other"] : List Str).zip (permL [1, 0] ws))
  k_labels_ahead_1_0 : ∀ (s : Shared) (ws : List Value), K.In s.heap → ws.length = (["name", "other"] : List Str).length → BindsTo s D_labels_ahead.fd ⟨[], (["other", "name"] : List Str).zip ws⟩ ((["name", "other"] : List Str).zip (permL [1, 0] ws))
  E_TreeError : ErF P w K mg base "TreeError"
  E_InvalidName : ErF P w K mg base "InvalidName"
  E_OutOfZone : ErF P w K mg base "OutOfZone"
  E_Unreadable : ErF P w K mg base "Unreadable"
  c_WILD : ∃ t, mg "WILD" = some (.str c_WILD t)
  c_LONGEST : ∃ t, mg "LONGEST" = some (.int 20 t)
  c_ENDS : ∃ t, mg "ENDS" = some (.str c_ENDS t)
  c_INNER : ∃ t, mg "INNER" = some (.str c_INNER t)
  n_abs : mg "abs" = none
  n_all : mg "all" = none
  n_bool : mg "bool" = none
  n_int : mg "int" = none
  n_isinstance : mg "isinstance" = none
  n_len : mg "len" = none
  n_list : mg "list" = none
  n_max : mg "max" = none
  n_min : mg "min" = none
  n_range : mg "range" = none
  n_sorted : mg "sorted" = none
  n_str : mg "str" = none
  n_sum : mg "sum" = none
  n_tuple : mg "tuple" = none
  sub_InvalidName : ∀ q ∈ ([("TreeError", false), ("InvalidName", true), ("OutOfZone", false), ("Unreadable", false)] : List (Str × Bool)), ∃ C, mg q.1 = some (.ref C) ∧ PySem.W.exmOne K (.ref C) (.ref E_InvalidName.C) = some q.2 ∧ XfC K C ∧ PySem.W.findIn K (.ref C) ("value" : Str) = some none
  sub_OutOfZone : ∀ q ∈ ([("TreeError", false), ("InvalidName", false), ("OutOfZone", true), ("Unreadable", false)] : List (Str × Bool)), ∃ C, mg q.1 = some (.ref C) ∧ PySem.W.exmOne K (.ref C) (.ref E_OutOfZone.C) = some q.2 ∧ XfC K C ∧ PySem.W.findIn K (.ref C) ("value" : Str) = some none
  xc_OutOfZone : ∀ q ∈ ([("TreeError", false), ("InvalidName", false), ("OutOfZone", true), ("Unreadable", false)] : List (Str × Bool)), ∃ C, mg q.1 = some (.ref C) ∧ ExcI K C ∧ PySem.W.kitOne K (.ref C) (.ref E_OutOfZone.C) = some q.2
  xc_Unreadable : ∀ q ∈ ([("TreeError", false), ("InvalidName", false), ("OutOfZone", false), ("Unreadable", true)] : List (Str × Bool)), ∃ C, mg q.1 = some (.ref C) ∧ ExcI K C ∧ PySem.W.kitOne K (.ref C) (.ref E_Unreadable.C) = some q.2
section
variable {P : Program} {w : World} {K : PySem.W.Frag} {mg : Str → Option Value} {base : Heap}
/-! ends_with -/
theorem sc_ends_with : FnScope ["name", "other"] ["name", "other"] (defScope (top 6)) := ⟨rfl, rfl, rfl, by decide +kernel, rfl, by decide +kernel, by decide +kernel⟩
def b_ends_with : DS := (sRet (dAndV (dOp geW (dApp lenW (dCons (dVar 0) dNil)) (dApp lenW (dCons (dVar 1) dNil))) (dOp eqW (dSl (dVar 0) (dPart (dOp subW (dApp lenW (dCons (dVar 0) dNil)) (dApp lenW (dCons (dVar 1) dNil)))) dNoPart) (dVar 1))))
def d_ends_with : List W → Store → Res W := fnDen 2 b_ends_with
def fn_ends_with (T : Txt P w K mg base) : FnF P w K mg base "ends_with" ["name", "other"] 1 2 d_ends_with :=
  ⟨T.D_ends_with.f, T.D_ends_with.fd, fn_ok (k := 0) T.D_ends_with.F sc_ends_with (fun cdv A outer s H E hr => (is_one (is_ret (ie_and (ie_ge (ie_len rfl T.n_len (ia_cons (ie_var 0) ia_nil)) (ie_len rfl T.n_len (ia_cons (ie_var 1) ia_nil))) (ie_one (ie_eq hr (ie_slice (ie_var 0) (io_some (ie_sub (ie_len rfl T.n_len (ia_cons (ie_var 0) ia_nil)) (ie_len rfl T.n_len (ia_cons (ie_var 1) ia_nil)))) io_none) (ie_var 1))))))), T.D_ends_with.m, T.D_ends_with.F.kp, T.D_ends_with.b⟩
/-! place -/
theorem sc_place : FnScope ["name"] ["name"] (defScope (top 7)) := ⟨rfl, rfl, rfl, by decide +kernel, rfl, by decide +kernel, by decide +kernel⟩
def b_place : DS := (sRet (dUn rev2W (dVar 0)))
def d_place : List W → Store → Res W := fnDen 1 b_place
def fn_place (T : Txt P w K mg base) : FnF P w K mg base "place" ["name"] 1 1 d_place :=
  ⟨T.D_place.f, T.D_place.fd, fn_ok (k := 0) T.D_place.F sc_place (fun cdv A outer s H E hr => (is_one (is_ret (ie_rev2 (ie_var 0))))), T.D_place.m, T.D_place.F.kp, T.D_place.b⟩
/-! in_order -/
theorem sc_in_order : FnScope ["names"] ["names"] (defScope (top 8)) := ⟨rfl, rfl, rfl, by decide +kernel, rfl, by decide +kernel, by decide +kernel⟩
def b_in_order : DS := (sRet (dApp (sortedKW d_place) (dCons (dVar 0) dNil)))
def d_in_order : List W → Store → Res W := fnDen 1 b_in_order
def fn_in_order (T : Txt P w K mg base) : FnF P w K mg base "in_order" ["names"] 4 1 d_in_order :=
  ⟨T.D_in_order.f, T.D_in_order.fd, fn_ok (k := 3) T.D_in_order.F sc_in_order (fun cdv A outer s H E hr => (is_one (is_ret (ie_sortedK (fn_place T) (hr.mono (by decide)) rfl T.n_sorted (ie_var 0))))), T.D_in_order.m, T.D_in_order.F.kp, T.D_in_order.b⟩
/-! weight -/
theorem sc_weight : FnScope ["name", "label"] ["name"] (defScope (top 9)) := ⟨rfl, rfl, rfl, by decide +kernel, rfl, by decide +kernel, by decide +kernel⟩
def b_weight : DS := (sRet (dOp addW (dC (.int 1)) (dApp sumW (dCons (dLc (dIt (dVar 0)) [1] (tName 1) dYes (dOp addW (dApp lenW (dCons (dVar 1) dNil)) (dC (.int 1)))) dNil))))
def d_weight : List W → Store → Res W := fnDen 2 b_weight
def fn_weight (T : Txt P w K mg base) : FnF P w K mg base "weight" ["name"] 1 1 d_weight :=
  ⟨T.D_weight.f, T.D_weight.fd, fn_ok (k := 0) T.D_weight.F sc_weight (fun cdv A outer s H E hr => (is_one (is_ret (ie_add ie_int (ie_sum rfl rfl T.n_sum (ia_cons (ie_lc (own := [("label", 1)]) rfl sc_weight.nd (ii_val (ie_var 0)) (blkOk_by (N := ["name", "label"]) (sc := defScope (top 9)) (own := [("label", 1)]) (by decide +kernel)) (fun _ _ _ _ _ => (ig_name (i := 1) (by decide) ExOk.none sc_weight.nd rfl (.inl rfl))) (fun _ _ _ _ _ => (ie_add (ie_len rfl T.n_len (ia_cons (ie_var 1) ia_nil)) ie_int))) ia_nil)))))), T.D_weight.m, T.D_weight.F.kp, T.D_weight.b⟩
/-! sized_place -/
theorem sc_sized_place : FnScope ["name"] ["name"] (defScope (top 10)) := ⟨rfl, rfl, rfl, by decide +kernel, rfl, by decide +kernel, by decide +kernel⟩
def b_sized_place : DS := (sRet (dTup (dCons (dCall 1 d_weight (dCons (dVar 0) dNil)) (dCons (dCall 1 d_place (dCons (dVar 0) dNil)) dNil))))
def d_sized_place : List W → Store → Res W := fnDen 1 b_sized_place
def fn_sized_place (T : Txt P w K mg base) : FnF P w K mg base "sized_place" ["name"] 2 1 d_sized_place :=
  ⟨T.D_sized_place.f, T.D_sized_place.fd, fn_ok (k := 1) T.D_sized_place.F sc_sized_place (fun cdv A outer s H E hr => (is_one (is_ret (ie_tup (ia_cons (ie_callF (fn_weight T) (hr.mono (by decide)) (takes_of rfl rfl rfl rfl) (ia_cons (ie_var 0) ia_nil)) (ia_cons (ie_callF (fn_place T) (hr.mono (by decide)) (takes_of rfl rfl rfl rfl) (ia_cons (ie_var 0) ia_nil)) ia_nil)))))), T.D_sized_place.m, T.D_sized_place.F.kp, T.D_sized_place.b⟩
/-! rebuilt -/
theorem sc_rebuilt : FnScope ["value", "part"] ["value"] (defScope (top 12)) := ⟨rfl, rfl, rfl, by decide +kernel, rfl, by decide +kernel, by decide +kernel⟩
def b_rebuilt (rec : List W → Store → Res W) : DS := (sSeq (sIf (dBool (dApp isiW (dCons (dVar 0) (dCons (dC (.gl (.ty "list"))) dNil))))
    (sRet (dLc (dIt (dVar 0)) [1] (tName 1) dYes (dCall 1 rec (dCons (dVar 1) dNil))))
    sNil)
    (sSeq (sIf (dBool (dApp isiW (dCons (dVar 0) (dCons (dC (.gl (.ty "tuple"))) dNil))))
    (sRet (dApp tupleW (dCons (dLc (dIt (dVar 0)) [1] (tName 1) dYes (dCall 1 rec (dCons (dVar 1) dNil))) dNil)))
    sNil)
    (sRet (dVar 0))))
def d_rebuilt : Nat → List W → Store → Res W
  | 0 => fun _ _ => .stuck
  | n + 1 => fnDen 2 (b_rebuilt (d_rebuilt n))
def fn_rebuilt (T : Txt P w K mg base) : (n : Nat) → FnF P w K mg base "rebuilt" ["value"] (0 + n) 1 (d_rebuilt n)
  | 0 => ⟨T.D_rebuilt.f, T.D_rebuilt.fd, fn_stuck, T.D_rebuilt.m, T.D_rebuilt.F.kp, T.D_rebuilt.b⟩
  | n + 1 => ⟨T.D_rebuilt.f, T.D_rebuilt.fd, fn_ok (k := 0 + n) T.D_rebuilt.F sc_rebuilt (fun cdv A outer s H E hr => (is_cons (is_if (it_val (ie_isi rfl T.n_isinstance (ia_cons (ie_var 0) (ia_cons (ie_ty (T := "list") rfl T.n_list (by decide +kernel)) ia_nil))))
    (is_one (is_ret (ie_lc (own := [("part", 1)]) rfl sc_rebuilt.nd (ii_val (ie_var 0)) (blkOk_by (N := ["value", "part"]) (sc := defScope (top 12)) (own := [("part", 1)]) (by decide +kernel)) (fun _ _ _ _ _ => (ig_name (i := 1) (by decide) ExOk.none sc_rebuilt.nd rfl (.inl rfl))) (fun _ _ _ _ _ => (ie_callF (fn_rebuilt T n) (hr) takes0 (ia_cons (ie_var 1) ia_nil))))))
    is_nil)
    (is_cons (is_if (it_val (ie_isi rfl T.n_isinstance (ia_cons (ie_var 0) (ia_cons (ie_ty (T := "tuple") rfl T.n_tuple (by decide +kernel)) ia_nil))))
    (is_one (is_ret (ie_tuple rfl T.n_tuple (ia_cons (ie_lc (own := [("part", 1)]) rfl sc_rebuilt.nd (ii_val (ie_var 0)) (blkOk_by (N := ["value", "part"]) (sc := defScope (top 12)) (own := [("part", 1)]) (by decide +kernel)) (fun _ _ _ _ _ => (ig_name (i := 1) (by decide) ExOk.none sc_rebuilt.nd rfl (.inl rfl))) (fun _ _ _ _ _ => (ie_callF (fn_rebuilt T n) (hr) takes0 (ia_cons (ie_var 1) ia_nil)))) ia_nil))))
    is_nil)
    (is_one (is_ret (ie_var 0)))))), T.D_rebuilt.m, T.D_rebuilt.F.kp, T.D_rebuilt.b⟩
/-! _is_plain -/
theorem sc__is_plain : FnScope ["text"] ["text"] (defScope (top 18)) := ⟨rfl, rfl, rfl, by decide +kernel, rfl, by decide +kernel, by decide +kernel⟩
def b__is_plain : DS := (sSeq (sIf (dNot (dBool (dChain leW leW (dC (.int 1)) (dApp lenW (dCons (dVar 0) dNil)) (dC (.int 20)))))
    (sRet (dC (.bl false)))
    sNil)
    (sRet (dAndV (dOp eqW (dBm tyS stripW (dVar 0) (dCons (dC (.str c_INNER)) dNil)) (dC (.str ""))) (dAndV (dOp (inW false) (dOp ixW (dVar 0) (dC (.int 0))) (dC (.str c_ENDS))) (dOp (inW false) (dOp ixW (dVar 0) (dUn negW (dC (.int 1)))) (dC (.str c_ENDS)))))))
def d__is_plain : List W → Store → Res W := fnDen 1 b__is_plain
def fn__is_plain (T : Txt P w K mg base) : FnF P w K mg base "_is_plain" ["text"] 1 1 d__is_plain :=
  ⟨T.D__is_plain.f, T.D__is_plain.fd, fn_ok (k := 0) T.D__is_plain.F sc__is_plain (fun cdv A outer s H E hr => (is_cons (is_if (it_not (it_lele ie_int (ie_len rfl T.n_len (ia_cons (ie_var 0) ia_nil)) (ie_gint (i := 20) T.c_LONGEST.choose_spec)))
    (is_one (is_ret ie_bl))
    is_nil)
    (is_one (is_ret (ie_and (ie_eq hr (ie_strip (ie_var 0) (ia_cons (ie_gstr (i := c_INNER) T.c_INNER.choose_spec) ia_nil)) ie_str) (ie_and (ie_in (ie_ix (ie_var 0) ie_int) (ie_gstr (i := c_ENDS) T.c_ENDS.choose_spec)) (ie_one (ie_in (ie_ix (ie_var 0) (ie_neg ie_int)) (ie_gstr (i := c_ENDS) T.c_ENDS.choose_spec))))))))), T.D__is_plain.m, T.D__is_plain.F.kp, T.D__is_plain.b⟩
/-! is_asked -/
theorem sc_is_asked : FnScope ["value", "label"] ["value"] (defScope (top 20)) := ⟨rfl, rfl, rfl, by decide +kernel, rfl, by decide +kernel, by decide +kernel⟩
def b_is_asked : DS := (sRet (dAndV (dApp isiW (dCons (dVar 0) (dCons (dC (.gl (.ty "tuple"))) dNil))) (dApp allW (dCons (dLc (dIt (dVar 0)) [1] (tName 1) dYes (dAndV (dApp isiW (dCons (dVar 1) (dCons (dC (.gl (.ty "str"))) dNil))) (dCall 1 d__is_plain (dCons (dVar 1) dNil)))) dNil))))
def d_is_asked : List W → Store → Res W := fnDen 2 b_is_asked
def fn_is_asked (T : Txt P w K mg base) : FnF P w K mg base "is_asked" ["value"] 2 1 d_is_asked :=
  ⟨T.D_is_asked.f, T.D_is_asked.fd, fn_ok (k := 1) T.D_is_asked.F sc_is_asked (fun cdv A outer s H E hr => (is_one (is_ret (ie_and (ie_isi rfl T.n_isinstance (ia_cons (ie_var 0) (ia_cons (ie_ty (T := "tuple") rfl T.n_tuple (by decide +kernel)) ia_nil))) (ie_one (ie_all rfl rfl T.n_all (ia_cons (ie_lc (own := [("label", 1)]) rfl sc_is_asked.nd (ii_val (ie_var 0)) (blkOk_by (N := ["value", "label"]) (sc := defScope (top 20)) (own := [("label", 1)]) (by decide +kernel)) (fun _ _ _ _ _ => (ig_name (i := 1) (by decide) ExOk.none sc_is_asked.nd rfl (.inl rfl))) (fun _ _ _ _ _ => (ie_and (ie_isi rfl T.n_isinstance (ia_cons (ie_var 1) (ia_cons (ie_ty (T := "str") rfl T.n_str (by decide +kernel)) ia_nil))) (ie_one (ie_callF (fn__is_plain T) (hr.mono (by decide)) takes0 (ia_cons (ie_var 1) ia_nil)))))) ia_nil))))))), T.D_is_asked.m, T.D_is_asked.F.kp, T.D_is_asked.b⟩
/-! is_name -/
theorem sc_is_name : FnScope ["value"] ["value"] (defScope (top 19)) := ⟨rfl, rfl, rfl, by decide +kernel, rfl, by decide +kernel, by decide +kernel⟩
def b_is_name : DS := (sSeq (sIf (dNot (dBool (dApp isiW (dCons (dVar 0) (dCons (dC (.gl (.ty "tuple"))) dNil)))))
    (sRet (dC (.bl false)))
    sNil)
    (sRet (dCall 1 d_is_asked (dCons (dIf (dBool (dOp eqW (dSl (dVar 0) dNoPart (dPart (dC (.int 1)))) (dTup (dCons (dC (.str c_WILD)) dNil)))) (dSl (dVar 0) (dPart (dC (.int 1))) dNoPart) (dVar 0)) dNil))))
def d_is_name : List W → Store → Res W := fnDen 1 b_is_name
def fn_is_name (T : Txt P w K mg base) : FnF P w K mg base "is_name" ["value"] 3 1 d_is_name :=
  ⟨T.D_is_name.f, T.D_is_name.fd, fn_ok (k := 2) T.D_is_name.F sc_is_name (fun cdv A outer s H E hr => (is_cons (is_if (it_not (it_val (ie_isi rfl T.n_isinstance (ia_cons (ie_var 0) (ia_cons (ie_ty (T := "tuple") rfl T.n_tuple (by decide +kernel)) ia_nil)))))
    (is_one (is_ret ie_bl))
    is_nil)
    (is_one (is_ret (ie_callF (fn_is_asked T) (hr.mono (by decide)) (takes_of rfl rfl rfl rfl) (ia_cons (ie_if (it_eq hr (ie_slice (ie_var 0) io_none (io_some ie_int)) (ie_tup (ia_cons (ie_gstr (i := c_WILD) T.c_WILD.choose_spec) ia_nil))) (ie_slice (ie_var 0) (io_some ie_int) io_none) (ie_var 0)) ia_nil)))))), T.D_is_name.m, T.D_is_name.F.kp, T.D_is_name.b⟩
/-! check_name -/
theorem sc_check_name : FnScope ["name"] ["name"] (defScope (top 21)) := ⟨rfl, rfl, rfl, by decide +kernel, rfl, by decide +kernel, by decide +kernel⟩
def b_check_name : DS := (sIf (dNot (dBool (dCall 1 d_is_name (dCons (dVar 0) dNil))))
    (sRaise "InvalidName" (dCons (dCall 1 (d_rebuilt 8) (dCons (dVar 0) dNil)) dNil))
    sNil)
def d_check_name : List W → Store → Res W := fnDen 1 b_check_name
def fn_check_name (T : Txt P w K mg base) : FnF P w K mg base "check_name" ["name"] 9 1 d_check_name :=
  ⟨T.D_check_name.f, T.D_check_name.fd, fn_ok (k := 8) T.D_check_name.F sc_check_name (fun cdv A outer s H E hr => (is_one (is_if (it_not (it_val (ie_callF (fn_is_name T) (hr.mono (by decide)) (takes_of rfl rfl rfl rfl) (ia_cons (ie_var 0) ia_nil))))
    (is_one (is_raiseF T.E_InvalidName (hr.mono (by decide)) (takes_of rfl rfl rfl rfl) (ia_cons (ie_callF (fn_rebuilt T 8) (hr.mono (by decide)) (takes_of rfl rfl rfl rfl) (ia_cons (ie_var 0) ia_nil)) ia_nil)))
    is_nil))), T.D_check_name.m, T.D_check_name.F.kp, T.D_check_name.b⟩
/-! check_names -/
theorem sc_check_names : FnScope ["names", "name"] ["names"] (defScope (top 22)) := ⟨rfl, rfl, rfl, by decide +kernel, rfl, by decide +kernel, by decide +kernel⟩
def b_check_names : DS := (sFor (dIt (dVar 0)) (tName 1)
    (sExpr (dCall 1 d_check_name (dCons (dVar 1) dNil))))
def d_check_names : List W → Store → Res W := fnDen 2 b_check_names
def fn_check_names (T : Txt P w K mg base) : FnF P w K mg base "check_names" ["names"] 10 1 d_check_names :=
  ⟨T.D_check_names.f, T.D_check_names.fd, fn_ok (k := 9) T.D_check_names.F sc_check_names (fun cdv A outer s H E hr => (is_one (is_for (vs := [1]) (passes_of rfl) rfl (ii_val (ie_var 0)) (ig_name (i := 1) (by decide) ExOk.none sc_check_names.nd rfl (.inl rfl))
    (is_one (is_expr (ie_callF (fn_check_name T) (hr.mono (by decide)) (takes_of rfl rfl rfl rfl) (ia_cons (ie_var 1) ia_nil))))))), T.D_check_names.m, T.D_check_names.F.kp, T.D_check_names.b⟩
/-! is_under -/
theorem sc_is_under : FnScope ["name", "other"] ["name", "other"] (defScope (top 23)) := ⟨rfl, rfl, rfl, by decide +kernel, rfl, by decide +kernel, by decide +kernel⟩
def b_is_under : DS := (sSeq (sExpr (dCall 1 d_check_name (dCons (dVar 0) dNil)))
    (sSeq (sExpr (dCall 1 d_check_name (dCons (dVar 1) dNil)))
    (sRet (dCall 2 d_ends_with (dCons (dVar 0) (dCons (dVar 1) dNil))))))
def d_is_under : List W → Store → Res W := fnDen 2 b_is_under
def fn_is_under (T : Txt P w K mg base) : FnF P w K mg base "is_under" ["name", "other"] 10 2 d_is_under :=
  ⟨T.D_is_under.f, T.D_is_under.fd, fn_ok (k := 9) T.D_is_under.F sc_is_under (fun cdv A outer s H E hr => (is_cons (is_expr (ie_callF (fn_check_name T) (hr.mono (by decide)) (takes_of rfl rfl rfl rfl) (ia_cons (ie_var 0) ia_nil)))
    (is_cons (is_expr (ie_callF (fn_check_name T) (hr.mono (by decide)) (takes_of rfl rfl rfl rfl) (ia_cons (ie_var 1) ia_nil)))
    (is_one (is_ret (ie_callF (fn_ends_with T) (hr.mono (by decide)) (takes_of rfl rfl rfl rfl) (ia_cons (ie_var 0) (ia_cons (ie_var 1) ia_nil)))))))), T.D_is_under.m, T.D_is_under.F.kp, T.D_is_under.b⟩
/-! labels_ahead -/
theorem sc_labels_ahead : FnScope ["name", "other"] ["name", "other"] (defScope (top 24)) := ⟨rfl, rfl, rfl, by decide +kernel, rfl, by decide +kernel, by decide +kernel⟩
def b_labels_ahead : DS := (sSeq (sIf (dNot (dBool (dCall 2 d_is_under (dCons (dVar 0) (dCons (dVar 1) dNil)))))
    (sRaise "OutOfZone" (dCons (dVar 0) dNil))
    sNil)
    (sRet (dSl (dVar 0) dNoPart (dPart (dOp subW (dApp lenW (dCons (dVar 0) dNil)) (dApp lenW (dCons (dVar 1) dNil)))))))
def d_labels_ahead : List W → Store → Res W := fnDen 2 b_labels_ahead
def fn_labels_ahead (T : Txt P w K mg base) : FnF P w K mg base "labels_ahead" ["name", "other"] 11 2 d_labels_ahead :=
  ⟨T.D_labels_ahead.f, T.D_labels_ahead.fd, fn_ok (k := 10) T.D_labels_ahead.F sc_labels_ahead (fun cdv A outer s H E hr => (is_cons (is_if (it_not (it_val (ie_callF (fn_is_under T) (hr.mono (by decide)) (takes_of rfl rfl rfl rfl) (ia_cons (ie_var 0) (ia_cons (ie_var 1) ia_nil)))))
    (is_one (is_raiseF T.E_OutOfZone (hr.mono (by decide)) (takes_of rfl rfl rfl rfl) (ia_cons (ie_var 0) ia_nil)))
    is_nil)
    (is_one (is_ret (ie_slice (ie_var 0) io_none (io_some (ie_sub (ie_len rfl T.n_len (ia_cons (ie_var 0) ia_nil)) (ie_len rfl T.n_len (ia_cons (ie_var 1) ia_nil))))))))), T.D_labels_ahead.m, T.D_labels_ahead.F.kp, T.D_labels_ahead.b⟩
/-! common -/
theorem sc_common : FnScope ["one", "other", "shared"] ["one", "other"] (defScope (top 25)) := ⟨rfl, rfl, rfl, by decide +kernel, rfl, by decide +kernel, by decide +kernel⟩
def b_common : DS := (sSeq (sExpr (dCall 1 d_check_name (dCons (dVar 0) dNil)))
    (sSeq (sExpr (dCall 1 d_check_name (dCons (dVar 1) dNil)))
    (sSeq (sAsg (dVar 0) (tName 2))
    (sSeq (sWhile (dNot (dBool (dCall 2 d_ends_with (dCons (dVar 1) (dCons (dVar 2) dNil)))))
    (sAsg (dSl (dVar 2) (dPart (dC (.int 1))) dNoPart) (tName 2)))
    (sRet (dVar 2))))))
def d_common : List W → Store → Res W := fnDen 3 b_common
def fn_common (T : Txt P w K mg base) : FnF P w K mg base "common" ["one", "other"] 10 2 d_common :=
  ⟨T.D_common.f, T.D_common.fd, fn_ok (k := 9) T.D_common.F sc_common (fun cdv A outer s H E hr => (is_cons (is_expr (ie_callF (fn_check_name T) (hr.mono (by decide)) (takes_of rfl rfl rfl rfl) (ia_cons (ie_var 0) ia_nil)))
    (is_cons (is_expr (ie_callF (fn_check_name T) (hr.mono (by decide)) (takes_of rfl rfl rfl rfl) (ia_cons (ie_var 1) ia_nil)))
    (is_cons (is_set (i := 2) ExOk.none sc_common.nd rfl (.inl rfl) (ie_var 0))
    (is_cons (is_while (passes_of rfl) (it_not (it_val (ie_callF (fn_ends_with T) (hr.mono (by decide)) (takes_of rfl rfl rfl rfl) (ia_cons (ie_var 1) (ia_cons (ie_var 2) ia_nil)))))
    (is_one (is_set (i := 2) ExOk.none sc_common.nd rfl (.inl rfl) (ie_slice (ie_var 2) (io_some ie_int) io_none))))
    (is_one (is_ret (ie_var 2)))))))), T.D_common.m, T.D_common.F.kp, T.D_common.b⟩
/-! compared -/
theorem sc_compared : FnScope ["one", "other"] ["one", "other"] (defScope (top 26)) := ⟨rfl, rfl, rfl, by decide +kernel, rfl, by decide +kernel, by decide +kernel⟩
def b_compared : DS := (sSeq (sExpr (dCall 1 d_check_name (dCons (dVar 0) dNil)))
    (sSeq (sExpr (dCall 1 d_check_name (dCons (dVar 1) dNil)))
    (sSeq (sIf (dBool (dOp eqW (dVar 0) (dVar 1)))
    (sRet (dC (.int 0)))
    sNil)
    (sRet (dIf (dBool (dOp ltUW (dCall 1 d_place (dCons (dVar 0) dNil)) (dCall 1 d_place (dCons (dVar 1) dNil)))) (dUn negW (dC (.int 1))) (dC (.int 1)))))))
def d_compared : List W → Store → Res W := fnDen 2 b_compared
def fn_compared (T : Txt P w K mg base) : FnF P w K mg base "compared" ["one", "other"] 10 2 d_compared :=
  ⟨T.D_compared.f, T.D_compared.fd, fn_ok (k := 9) T.D_compared.F sc_compared (fun cdv A outer s H E hr => (is_cons (is_expr (ie_callF (fn_check_name T) (hr.mono (by decide)) (takes_of rfl rfl rfl rfl) (ia_cons (ie_var 0) ia_nil)))
    (is_cons (is_expr (ie_callF (fn_check_name T) (hr.mono (by decide)) (takes_of rfl rfl rfl rfl) (ia_cons (ie_var 1) ia_nil)))
    (is_cons (is_if (it_eq hr (ie_var 0) (ie_var 1))
    (is_one (is_ret ie_int))
    is_nil)
    (is_one (is_ret (ie_if (it_ltU hr (ie_callF (fn_place T) (hr.mono (by decide)) (takes_of rfl rfl rfl rfl) (ia_cons (ie_var 0) ia_nil)) (ie_callF (fn_place T) (hr.mono (by decide)) (takes_of rfl rfl rfl rfl) (ia_cons (ie_var 1) ia_nil))) (ie_neg ie_int) ie_int))))))), T.D_compared.m, T.D_compared.F.kp, T.D_compared.b⟩
/-! ordered -/
theorem sc_ordered : FnScope ["names", "name"] ["names"] (defScope (top 27)) := ⟨rfl, rfl, rfl, by decide +kernel, rfl, by decide +kernel, by decide +kernel⟩
def b_ordered : DS := (sSeq (sExpr (dCall 1 d_check_names (dCons (dVar 0) dNil)))
    (sRet (dCall 1 d_in_order (dCons (dDk (dIt (dVar 0)) [1] (tName 1) (dVar 1)) dNil))))
def d_ordered : List W → Store → Res W := fnDen 2 b_ordered
def fn_ordered (T : Txt P w K mg base) : FnF P w K mg base "ordered" ["names"] 11 1 d_ordered :=
  ⟨T.D_ordered.f, T.D_ordered.fd, fn_ok (k := 10) T.D_ordered.F sc_ordered (fun cdv A outer s H E hr => (is_cons (is_expr (ie_callF (fn_check_names T) (hr.mono (by decide)) (takes_of rfl rfl rfl rfl) (ia_cons (ie_var 0) ia_nil)))
    (is_one (is_ret (ie_callF (fn_in_order T) (hr.mono (by decide)) (takes_of rfl rfl rfl rfl) (ia_cons (ie_dkList (own := [("name", 1)]) hr rfl T.n_list rfl sc_ordered.nd (ii_val (ie_var 0)) (blkOk_by (N := ["names", "name"]) (sc := defScope (top 27)) (own := [("name", 1)]) (by decide +kernel)) (fun _ _ _ _ _ => (ig_name (i := 1) (by decide) ExOk.none sc_ordered.nd rfl (.inl rfl))) (fun _ _ _ _ _ => (ie_var 1))) ia_nil)))))), T.D_ordered.m, T.D_ordered.F.kp, T.D_ordered.b⟩
/-! neighbours -/
theorem sc_neighbours : FnScope ["names", "name", "other", "ahead", "behind"] ["names", "name"] (defScope (top 28)) := ⟨rfl, rfl, rfl, by decide +kernel, rfl, by decide +kernel, by decide +kernel⟩
def b_neighbours : DS := (sSeq (sExpr (dCall 1 d_check_names (dCons (dVar 0) dNil)))
    (sSeq (sExpr (dCall 1 d_check_name (dCons (dVar 1) dNil)))
    (sSeq (sAsg (dTup (dCons (dC .non) (dCons (dC .non) dNil))) (tTupT [(tName 3), (tName 4)]))
    (sSeq (sFor (dIt (dCall 1 d_ordered (dCons (dVar 0) dNil))) (tName 2)
    (sIf (dBool (dOp leTW (dCall 1 d_place (dCons (dVar 2) dNil)) (dCall 1 d_place (dCons (dVar 1) dNil))))
    (sAsg (dVar 2) (tName 3))
    (sIf (dBool (dOp isNW (dVar 4) (dC .non)))
    (sAsg (dVar 2) (tName 4))
    sNil)))
    (sRet (dTup (dCons (dVar 3) (dCons (dVar 4) dNil))))))))
def d_neighbours : List W → Store → Res W := fnDen 5 b_neighbours
def fn_neighbours (T : Txt P w K mg base) : FnF P w K mg base "neighbours" ["names", "name"] 12 2 d_neighbours :=
  ⟨T.D_neighbours.f, T.D_neighbours.fd, fn_ok (k := 11) T.D_neighbours.F sc_neighbours (fun cdv A outer s H E hr => (is_cons (is_expr (ie_callF (fn_check_names T) (hr.mono (by decide)) (takes_of rfl rfl rfl rfl) (ia_cons (ie_var 0) ia_nil)))
    (is_cons (is_expr (ie_callF (fn_check_name T) (hr.mono (by decide)) (takes_of rfl rfl rfl rfl) (ia_cons (ie_var 1) ia_nil)))
    (is_cons (is_asg (vs := [3, 4]) (ie_tup (ia_cons ie_non (ia_cons ie_non ia_nil))) (ig_tup rfl (igs_cons (ig_name (i := 3) (by decide) ExOk.none sc_neighbours.nd rfl (.inl rfl)) (igs_cons (ig_name (i := 4) (by decide) ExOk.none sc_neighbours.nd rfl (.inl rfl)) igs_nil))))
    (is_cons (is_for (vs := [2]) (passes_of rfl) rfl (ii_val (ie_callF (fn_ordered T) (hr.mono (by decide)) (takes_of rfl rfl rfl rfl) (ia_cons (ie_var 0) ia_nil))) (ig_name (i := 2) (by decide) ExOk.none sc_neighbours.nd rfl (.inl rfl))
    (is_one (is_if (it_leT hr.units (ie_callF (fn_place T) (hr.mono (by decide)) (takes_of rfl rfl rfl rfl) (ia_cons (ie_var 2) ia_nil)) (ie_callF (fn_place T) (hr.mono (by decide)) (takes_of rfl rfl rfl rfl) (ia_cons (ie_var 1) ia_nil)))
    (is_one (is_set (i := 3) ExOk.none sc_neighbours.nd rfl (.inl rfl) (ie_var 2)))
    (is_one (is_if (it_isN (ie_var 4) ie_non)
    (is_one (is_set (i := 4) ExOk.none sc_neighbours.nd rfl (.inl rfl) (ie_var 2)))
    is_nil)))))
    (is_one (is_ret (ie_tup (ia_cons (ie_var 3) (ia_cons (ie_var 4) ia_nil)))))))))), T.D_neighbours.m, T.D_neighbours.F.kp, T.D_neighbours.b⟩
/-! size -/
theorem sc_size : FnScope ["name"] ["name"] (defScope (top 29)) := ⟨rfl, rfl, rfl, by decide +kernel, rfl, by decide +kernel, by decide +kernel⟩
def b_size : DS := (sSeq (sExpr (dCall 1 d_check_name (dCons (dVar 0) dNil)))
    (sRet (dCall 1 d_weight (dCons (dVar 0) dNil))))
def d_size : List W → Store → Res W := fnDen 1 b_size
def fn_size (T : Txt P w K mg base) : FnF P w K mg base "size" ["name"] 10 1 d_size :=
  ⟨T.D_size.f, T.D_size.fd, fn_ok (k := 9) T.D_size.F sc_size (fun cdv A outer s H E hr => (is_cons (is_expr (ie_callF (fn_check_name T) (hr.mono (by decide)) (takes_of rfl rfl rfl rfl) (ia_cons (ie_var 0) ia_nil)))
    (is_one (is_ret (ie_callF (fn_weight T) (hr.mono (by decide)) (takes_of rfl rfl rfl rfl) (ia_cons (ie_var 0) ia_nil)))))), T.D_size.m, T.D_size.F.kp, T.D_size.b⟩
/-! first -/
theorem sc_first : FnScope ["names"] ["names"] (defScope (top 30)) := ⟨rfl, rfl, rfl, by decide +kernel, rfl, by decide +kernel, by decide +kernel⟩
def b_first : DS := (sSeq (sExpr (dCall 1 d_check_names (dCons (dVar 0) dNil)))
    (sRet (dApp (minKW d_sized_place .non) (dCons (dVar 0) dNil))))
def d_first : List W → Store → Res W := fnDen 1 b_first
def fn_first (T : Txt P w K mg base) : FnF P w K mg base "first" ["names"] 11 1 d_first :=
  ⟨T.D_first.f, T.D_first.fd, fn_ok (k := 10) T.D_first.F sc_first (fun cdv A outer s H E hr => (is_cons (is_expr (ie_callF (fn_check_names T) (hr.mono (by decide)) (takes_of rfl rfl rfl rfl) (ia_cons (ie_var 0) ia_nil)))
    (is_one (is_ret (ie_minK (fn_sized_place T) (hr.mono (by decide)) rfl rfl T.n_min (ie_var 0)))))), T.D_first.m, T.D_first.F.kp, T.D_first.b⟩
/-! _law_pot -/
theorem sc__law_pot : FnScope ["_law_script", "_law_k", "_law_cell", "_law_mix", "_law_other"] ["_law_script", "_law_k"] (defScope (top 32)) := ⟨rfl, rfl, rfl, by decide +kernel, rfl, by decide +kernel, by decide +kernel⟩
def b__law_pot : DS := (sSeq (sAsg (dOp addW (dC (.int 29)) (dOp mulW (dC (.int 11)) (dVar 1))) (tName 2))
    (sSeq (sIf (dBool (dOp ltW (dVar 1) (dApp lenW (dCons (dVar 0) dNil))))
    (sAsg (dOp ixW (dVar 0) (dVar 1)) (tName 2))
    sNil)
    (sSeq (sAsg (dC (.int 1)) (tName 3))
    (sSeq (sFor (dIt (dVar 0)) (tName 4)
    (sAsg (dOp modW (dApp intOfW (dCons (dOp addW (dOp mulW (dVar 3) (dC (.int 131))) (dVar 4)) dNil)) (dOp addW (dOp powW (dC (.int 10)) (dC (.int 33))) (dC (.int 61)))) (tName 3)))
    (sRet (dLst (dCons (dApp maxW (dCons (dC (.int 0)) (dCons (dOp subW (dVar 2) (dOp powW (dC (.int 10)) (dC (.int 18)))) dNil))) (dCons (dOp modW (dApp intOfW (dCons (dOp addW (dOp addW (dOp mulW (dVar 3) (dC (.int 977))) (dApp absW (dCons (dVar 2) dNil))) (dOp mulW (dC (.int 13)) (dVar 1))) dNil)) (dOp addW (dOp powW (dC (.int 10)) (dC (.int 33))) (dC (.int 61)))) (dCons (dC (.int 0)) dNil)))))))))
def d__law_pot : List W → Store → Res W := fnDen 5 b__law_pot
def fn__law_pot (T : Txt P w K mg base) : FnF P w K mg base "_law_pot" ["_law_script", "_law_k"] 1 2 d__law_pot :=
  ⟨T.D__law_pot.f, T.D__law_pot.fd, fn_ok (k := 0) T.D__law_pot.F sc__law_pot (fun cdv A outer s H E hr => (is_cons (is_set (i := 2) ExOk.none sc__law_pot.nd rfl (.inl rfl) (ie_add ie_int (ie_mul ie_int (ie_var 1))))
    (is_cons (is_if (it_lt (ie_var 1) (ie_len rfl T.n_len (ia_cons (ie_var 0) ia_nil)))
    (is_one (is_set (i := 2) ExOk.none sc__law_pot.nd rfl (.inl rfl) (ie_ix (ie_var 0) (ie_var 1))))
    is_nil)
    (is_cons (is_set (i := 3) ExOk.none sc__law_pot.nd rfl (.inl rfl) ie_int)
    (is_cons (is_for (vs := [4]) (passes_of rfl) rfl (ii_val (ie_var 0)) (ig_name (i := 4) (by decide) ExOk.none sc__law_pot.nd rfl (.inl rfl))
    (is_one (is_set (i := 3) ExOk.none sc__law_pot.nd rfl (.inl rfl) (ie_mod (ie_intOf rfl T.n_int (ia_cons (ie_add (ie_mul (ie_var 3) ie_int) (ie_var 4)) ia_nil)) (ie_add (ie_pow ie_int ie_int) ie_int)))))
    (is_one (is_ret (ie_lst (ia_cons (ie_max rfl rfl T.n_max (ia_cons ie_int (ia_cons (ie_sub (ie_var 2) (ie_pow ie_int ie_int)) ia_nil))) (ia_cons (ie_mod (ie_intOf rfl T.n_int (ia_cons (ie_add (ie_add (ie_mul (ie_var 3) ie_int) (ie_abs rfl T.n_abs (ia_cons (ie_var 2) ia_nil))) (ie_mul ie_int (ie_var 1))) ia_nil)) (ie_add (ie_pow ie_int ie_int) ie_int)) (ia_cons ie_int ia_nil))))))))))), T.D__law_pot.m, T.D__law_pot.F.kp, T.D__law_pot.b⟩
/-! _law_take -/
theorem sc__law_take : FnScope ["_law_pot_here", "_law_many", "_law_mixed", "_law_part"] ["_law_pot_here", "_law_many"] (defScope (top 33)) := ⟨rfl, rfl, rfl, by decide +kernel, rfl, by decide +kernel, by decide +kernel⟩
def b__law_take : DS := (sSeq (sIf (dBool (dOp gtW (dOp ixW (dVar 0) (dC (.int 0))) (dC (.int 0))))
    (sSeq (sAsg (dOp modW (dApp intOfW (dCons (dOp ixW (dVar 0) (dC (.int 0))) dNil)) (dVar 1)) (tName 3))
    (sSeq (sAsg (dOp fdivW (dOp ixW (dVar 0) (dC (.int 0))) (dVar 1)) (tSub (dVar 0) (dC (.int 0))))
    (sRet (dVar 3))))
    sNil)
    (sSeq (sAsg (dOp addW (dOp ixW (dVar 0) (dC (.int 2))) (dC (.int 1))) (tSub (dVar 0) (dC (.int 2))))
    (sSeq (sAsg (dOp modW (dApp intOfW (dCons (dOp addW (dOp powW (dOp addW (dOp ixW (dVar 0) (dC (.int 1))) (dOp mulW (dC (.int 999983)) (dOp ixW (dVar 0) (dC (.int 2))))) (dC (.int 3))) (dOp mulW (dC (.int 7)) (dOp ixW (dVar 0) (dC (.int 2))))) dNil)) (dOp addW (dOp powW (dC (.int 10)) (dC (.int 37))) (dC (.int 43)))) (tName 2))
    (sRet (dOp modW (dApp intOfW (dCons (dOp fdivW (dVar 2) (dC (.int 65537))) dNil)) (dVar 1))))))
def d__law_take : List W → Store → Res W := fnDen 4 b__law_take
def fn__law_take (T : Txt P w K mg base) : FnF P w K mg base "_law_take" ["_law_pot_here", "_law_many"] 1 2 d__law_take :=
  ⟨T.D__law_take.f, T.D__law_take.fd, fn_ok (k := 0) T.D__law_take.F sc__law_take (fun cdv A outer s H E hr => (is_cons (is_if (it_gt (ie_ix (ie_var 0) ie_int) ie_int)
    (is_cons (is_set (i := 3) ExOk.none sc__law_take.nd rfl (.inl rfl) (ie_mod (ie_intOf rfl T.n_int (ia_cons (ie_ix (ie_var 0) ie_int) ia_nil)) (ie_var 1)))
    (is_cons (is_asg (vs := []) (ie_fdiv (ie_ix (ie_var 0) ie_int) (ie_var 1)) (ig_sub (ie_var 0) ie_int))
    (is_one (is_ret (ie_var 3)))))
    is_nil)
    (is_cons (is_asg (vs := []) (ie_add (ie_ix (ie_var 0) ie_int) ie_int) (ig_sub (ie_var 0) ie_int))
    (is_cons (is_set (i := 2) ExOk.none sc__law_take.nd rfl (.inl rfl) (ie_mod (ie_intOf rfl T.n_int (ia_cons (ie_add (ie_pow (ie_add (ie_ix (ie_var 0) ie_int) (ie_mul ie_int (ie_ix (ie_var 0) ie_int))) ie_int) (ie_mul ie_int (ie_ix (ie_var 0) ie_int))) ia_nil)) (ie_add (ie_pow ie_int ie_int) ie_int)))
    (is_one (is_ret (ie_mod (ie_intOf rfl T.n_int (ia_cons (ie_fdiv (ie_var 2) ie_int) ia_nil)) (ie_var 1)))))))), T.D__law_take.m, T.D__law_take.F.kp, T.D__law_take.b⟩
/-! _law_same -/
theorem sc__law_same : FnScope ["_law_told", "_law_due", "_law_k"] ["_law_told", "_law_due"] (defScope (top 34)) := ⟨rfl, rfl, rfl, by decide +kernel, rfl, by decide +kernel, by decide +kernel⟩
def b__law_same (rec : List W → Store → Res W) : DS := (sSeq (sIf (dBool (dUn (isi2W "tuple" "list") (dVar 1)))
    (sSeq (sIf (dOr (dBool (dOp neW (dApp isiW (dCons (dVar 1) (dCons (dC (.gl (.ty "tuple"))) dNil))) (dApp isiW (dCons (dVar 0) (dCons (dC (.gl (.ty "tuple"))) dNil))))) (dBool (dOp neW (dApp isiW (dCons (dVar 1) (dCons (dC (.gl (.ty "list"))) dNil))) (dApp isiW (dCons (dVar 0) (dCons (dC (.gl (.ty "list"))) dNil))))))
    (sRet (dC (.bl false)))
    sNil)
    (sRet (dAndV (dOp eqW (dApp lenW (dCons (dVar 0) dNil)) (dApp lenW (dCons (dVar 1) dNil))) (dApp allW (dCons (dLc (dRange1 (dCons (dApp lenW (dCons (dVar 1) dNil)) dNil)) [2] (tName 2) dYes (dCall 2 rec (dCons (dOp ixW (dVar 0) (dVar 2)) (dCons (dOp ixW (dVar 1) (dVar 2)) dNil)))) dNil)))))
    sNil)
    (sSeq (sIf (dBool (dOp isNW (dVar 1) (dC .non)))
    (sRet (dOp isNW (dVar 0) (dC .non)))
    sNil)
    (sSeq (sIf (dBool (dApp isiW (dCons (dVar 1) (dCons (dC (.gl (.ty "bool"))) dNil))))
    (sRet (dAndV (dApp isiW (dCons (dVar 0) (dCons (dC (.gl (.ty "bool"))) dNil))) (dOp eqW (dVar 0) (dVar 1))))
    sNil)
    (sSeq (sIf (dBool (dApp isiW (dCons (dVar 1) (dCons (dC (.gl (.ty "int"))) dNil))))
    (sRet (dAndV (dApp isiW (dCons (dVar 0) (dCons (dC (.gl (.ty "int"))) dNil))) (dAndV (dNotV (dApp isiW (dCons (dVar 0) (dCons (dC (.gl (.ty "bool"))) dNil)))) (dOp eqW (dVar 0) (dVar 1)))))
    sNil)
    (sRet (dAndV (dApp isiW (dCons (dVar 1) (dCons (dC (.gl (.ty "str"))) dNil))) (dAndV (dApp isiW (dCons (dVar 0) (dCons (dC (.gl (.ty "str"))) dNil))) (dOp eqW (dVar 0) (dVar 1)))))))))
def d__law_same : Nat → List W → Store → Res W
  | 0 => fun _ _ => .stuck
  | n + 1 => fnDen 3 (b__law_same (d__law_same n))
def fn__law_same (T : Txt P w K mg base) : (n : Nat) → FnF P w K mg base "_law_same" ["_law_told", "_law_due"] (0 + n) 2 (d__law_same n)
  | 0 => ⟨T.D__law_same.f, T.D__law_same.fd, fn_stuck, T.D__law_same.m, T.D__law_same.F.kp, T.D__law_same.b⟩
  | n + 1 => ⟨T.D__law_same.f, T.D__law_same.fd, fn_ok (k := 0 + n) T.D__law_same.F sc__law_same (fun cdv A outer s H E hr => (is_cons (is_if (it_val (ie_isi2 (A := "tuple") (B := "list") rfl T.n_isinstance (ie_var 1) rfl T.n_tuple (by decide +kernel) rfl T.n_list (by decide +kernel)))
    (is_cons (is_if (it_w (iw_or (it_ne hr (ie_isi rfl T.n_isinstance (ia_cons (ie_var 1) (ia_cons (ie_ty (T := "tuple") rfl T.n_tuple (by decide +kernel)) ia_nil))) (ie_isi rfl T.n_isinstance (ia_cons (ie_var 0) (ia_cons (ie_ty (T := "tuple") rfl T.n_tuple (by decide +kernel)) ia_nil)))) (iw_or1 (it_ne hr (ie_isi rfl T.n_isinstance (ia_cons (ie_var 1) (ia_cons (ie_ty (T := "list") rfl T.n_list (by decide +kernel)) ia_nil))) (ie_isi rfl T.n_isinstance (ia_cons (ie_var 0) (ia_cons (ie_ty (T := "list") rfl T.n_list (by decide +kernel)) ia_nil)))))))
    (is_one (is_ret ie_bl))
    is_nil)
    (is_one (is_ret (ie_and (ie_eq hr (ie_len rfl T.n_len (ia_cons (ie_var 0) ia_nil)) (ie_len rfl T.n_len (ia_cons (ie_var 1) ia_nil))) (ie_one (ie_all rfl rfl T.n_all (ia_cons (ie_lc (own := [("_law_k", 2)]) rfl sc__law_same.nd (ii_range1 rfl T.n_range (ia_cons (ie_len rfl T.n_len (ia_cons (ie_var 1) ia_nil)) ia_nil)) (blkOk_by (N := ["_law_told", "_law_due", "_law_k"]) (sc := defScope (top 34)) (own := [("_law_k", 2)]) (by decide +kernel)) (fun _ _ _ _ _ => (ig_name (i := 2) (by decide) ExOk.none sc__law_same.nd rfl (.inl rfl))) (fun _ _ _ _ _ => (ie_callF (fn__law_same T n) (hr) takes0 (ia_cons (ie_ix (ie_var 0) (ie_var 2)) (ia_cons (ie_ix (ie_var 1) (ie_var 2)) ia_nil))))) ia_nil)))))))
    is_nil)
    (is_cons (is_if (it_isN (ie_var 1) ie_non)
    (is_one (is_ret (ie_isN (ie_var 0) ie_non)))
    is_nil)
    (is_cons (is_if (it_val (ie_isi rfl T.n_isinstance (ia_cons (ie_var 1) (ia_cons (ie_ty (T := "bool") rfl T.n_bool (by decide +kernel)) ia_nil))))
    (is_one (is_ret (ie_and (ie_isi rfl T.n_isinstance (ia_cons (ie_var 0) (ia_cons (ie_ty (T := "bool") rfl T.n_bool (by decide +kernel)) ia_nil))) (ie_one (ie_eq hr (ie_var 0) (ie_var 1))))))
    is_nil)
    (is_cons (is_if (it_val (ie_isi rfl T.n_isinstance (ia_cons (ie_var 1) (ia_cons (ie_ty (T := "int") rfl T.n_int (by decide +kernel)) ia_nil))))
    (is_one (is_ret (ie_and (ie_isi rfl T.n_isinstance (ia_cons (ie_var 0) (ia_cons (ie_ty (T := "int") rfl T.n_int (by decide +kernel)) ia_nil))) (ie_and (ie_notV (ie_isi rfl T.n_isinstance (ia_cons (ie_var 0) (ia_cons (ie_ty (T := "bool") rfl T.n_bool (by decide +kernel)) ia_nil)))) (ie_one (ie_eq hr (ie_var 0) (ie_var 1)))))))
    is_nil)
    (is_one (is_ret (ie_and (ie_isi rfl T.n_isinstance (ia_cons (ie_var 1) (ia_cons (ie_ty (T := "str") rfl T.n_str (by decide +kernel)) ia_nil))) (ie_and (ie_isi rfl T.n_isinstance (ia_cons (ie_var 0) (ia_cons (ie_ty (T := "str") rfl T.n_str (by decide +kernel)) ia_nil))) (ie_one (ie_eq hr (ie_var 0) (ie_var 1)))))))))))), T.D__law_same.m, T.D__law_same.F.kp, T.D__law_same.b⟩
/-! _law_label -/
theorem sc__law_label : FnScope ["_law_pot_here", "_law_ends", "_law_length", "_law_signs", "_law_k"] ["_law_pot_here"] (defScope (top 35)) := ⟨rfl, rfl, rfl, by decide +kernel, rfl, by decide +kernel, by decide +kernel⟩
def b__law_label : DS := (sSeq (sAsg (dC (.str "0123456789abcdefghijklmnopqrstuvwxyz")) (tName 1))
    (sSeq (sAsg (dOp ixW (dLst (dCons (dC (.int 1)) (dCons (dC (.int 2)) (dCons (dC (.int 3)) (dCons (dOp addW (dC (.int 1)) (dCall 2 d__law_take (dCons (dVar 0) (dCons (dC (.int 20)) dNil)))) (dCons (dC (.int 20)) dNil)))))) (dCall 2 d__law_take (dCons (dVar 0) (dCons (dC (.int 5)) dNil)))) (tName 2))
    (sSeq (sAsg (dLc (dRange1 (dCons (dVar 2) dNil)) [4] (tName 4) dYes (dOp ixW (dOp addW (dC (.str "-")) (dVar 1)) (dCall 2 d__law_take (dCons (dVar 0) (dCons (dC (.int 37)) dNil))))) (tName 3))
    (sSeq (sAsg (dOp ixW (dVar 1) (dCall 2 d__law_take (dCons (dVar 0) (dCons (dC (.int 36)) dNil)))) (tSub (dVar 3) (dC (.int 0))))
    (sSeq (sAsg (dOp ixW (dVar 1) (dCall 2 d__law_take (dCons (dVar 0) (dCons (dC (.int 36)) dNil)))) (tSub (dVar 3) (dUn negW (dC (.int 1)))))
    (sRet (dBm tyS joinW (dC (.str "")) (dCons (dVar 3) dNil))))))))
def d__law_label : List W → Store → Res W := fnDen 5 b__law_label
def fn__law_label (T : Txt P w K mg base) : FnF P w K mg base "_law_label" ["_law_pot_here"] 2 1 d__law_label :=
  ⟨T.D__law_label.f, T.D__law_label.fd, fn_ok (k := 1) T.D__law_label.F sc__law_label (fun cdv A outer s H E hr => (is_cons (is_set (i := 1) ExOk.none sc__law_label.nd rfl (.inr rfl) ie_str)
    (is_cons (is_set (i := 2) ExOk.none sc__law_label.nd rfl (.inl rfl) (ie_ix (ie_lst (ia_cons ie_int (ia_cons ie_int (ia_cons ie_int (ia_cons (ie_add ie_int (ie_callF (fn__law_take T) (hr.mono (by decide)) (takes_of rfl rfl rfl rfl) (ia_cons (ie_var 0) (ia_cons ie_int ia_nil)))) (ia_cons ie_int ia_nil)))))) (ie_callF (fn__law_take T) (hr.mono (by decide)) (takes_of rfl rfl rfl rfl) (ia_cons (ie_var 0) (ia_cons ie_int ia_nil)))))
    (is_cons (is_setLc (i := 3) (own := [("_law_k", 4)]) rfl sc__law_label.nd rfl rfl (sw_true rfl rfl rfl (by decide +kernel)) (ii_range1 rfl T.n_range (ia_cons (ie_var 2) ia_nil)) (blkOk_by (N := ["_law_pot_here", "_law_ends", "_law_length", "_law_signs", "_law_k"]) (sc := defScope (top 35)) (own := [("_law_k", 4)]) (by decide +kernel)) (fun _ _ _ _ _ => (ig_name (i := 4) (by decide) ExOk.none sc__law_label.nd rfl (.inl rfl))) (fun _ _ _ _ _ => (ie_ix (ie_add ie_str (ie_var 1)) (ie_callF (fn__law_take T) (hr.mono (by decide)) takes0 (ia_cons (ie_var 0) (ia_cons ie_int ia_nil))))))
    (is_cons (is_asg (vs := []) (ie_ix (ie_var 1) (ie_callF (fn__law_take T) (hr.mono (by decide)) (takes_of rfl rfl rfl rfl) (ia_cons (ie_var 0) (ia_cons ie_int ia_nil)))) (ig_sub (ie_var 3) ie_int))
    (is_cons (is_asg (vs := []) (ie_ix (ie_var 1) (ie_callF (fn__law_take T) (hr.mono (by decide)) (takes_of rfl rfl rfl rfl) (ia_cons (ie_var 0) (ia_cons ie_int ia_nil)))) (ig_sub (ie_var 3) (ie_neg ie_int)))
    (is_one (is_ret (ie_join ie_str (ia_cons (ie_var 3) ia_nil)))))))))), T.D__law_label.m, T.D__law_label.F.kp, T.D__law_label.b⟩
/-! _law_words -/
theorem sc__law_words : FnScope ["_law_pot_here", "_law_many", "_law_found", "_law_turn", "_law_text", "_law_spare", "_law_k", "_law_one"] ["_law_pot_here", "_law_many"] (defScope (top 36)) := ⟨rfl, rfl, rfl, by decide +kernel, rfl, by decide +kernel, by decide +kernel⟩
def b__law_words : DS := (sSeq (sAsg (dLst dNil) (tName 2))
    (sSeq (sFor (dRange1 (dCons (dVar 1) dNil)) (tName 3)
    (sSeq (sAsg (dCall 1 d__law_label (dCons (dVar 0) dNil)) (tName 4))
    (sSeq (sIf (dAnd (dBool (dOp neW (dVar 2) (dLst dNil))) (dBool (dOp eqW (dCall 2 d__law_take (dCons (dVar 0) (dCons (dC (.int 3)) dNil))) (dC (.int 0)))))
    (sAsg (dOp addW (dSl (dOp ixW (dVar 2) (dCall 2 d__law_take (dCons (dVar 0) (dCons (dApp lenW (dCons (dVar 2) dNil)) dNil)))) dNoPart (dPart (dC (.int 19)))) (dOp ixW (dC (.str "0a9z")) (dCall 2 d__law_take (dCons (dVar 0) (dCons (dC (.int 4)) dNil))))) (tName 4))
    sNil)
    (sSeq (sAsg (dLc (dRange1 (dCons (dVar 1) dNil)) [6] (tName 6) dYes (dOp addW (dC (.str "x")) (dApp strW (dCons (dVar 6) dNil)))) (tName 5))
    (sExpr (dBm tyL appendW (dVar 2) (dCons (dOp ixW (dLc (dIt (dOp addW (dLst (dCons (dVar 4) dNil)) (dVar 5))) [7] (tName 7) (dBool (dOp (inW true) (dVar 7) (dVar 2))) (dVar 7)) (dC (.int 0))) dNil)))))))
    (sRet (dVar 2))))
def d__law_words : List W → Store → Res W := fnDen 8 b__law_words
def fn__law_words (T : Txt P w K mg base) : FnF P w K mg base "_law_words" ["_law_pot_here", "_law_many"] 3 2 d__law_words :=
  ⟨T.D__law_words.f, T.D__law_words.fd, fn_ok (k := 2) T.D__law_words.F sc__law_words (fun cdv A outer s H E hr => (is_cons (is_set (i := 2) ExOk.none sc__law_words.nd rfl (.inr rfl) (ie_lst ia_nil))
    (is_cons (is_for (vs := [3]) (passes_of rfl) rfl (ii_range1 rfl T.n_range (ia_cons (ie_var 1) ia_nil)) (ig_name (i := 3) (by decide) ExOk.none sc__law_words.nd rfl (.inl rfl))
    (is_cons (is_set (i := 4) ExOk.none sc__law_words.nd rfl (.inl rfl) (ie_callF (fn__law_label T) (hr.mono (by decide)) (takes_of rfl rfl rfl rfl) (ia_cons (ie_var 0) ia_nil)))
    (is_cons (is_if (it_w (iw_and (it_ne hr (ie_var 2) (ie_lst ia_nil)) (iw_and1 (it_eq hr (ie_callF (fn__law_take T) (hr.mono (by decide)) (takes_of rfl rfl rfl rfl) (ia_cons (ie_var 0) (ia_cons ie_int ia_nil))) ie_int))))
    (is_one (is_set (i := 4) ExOk.none sc__law_words.nd rfl (.inl rfl) (ie_add (ie_slice (ie_ix (ie_var 2) (ie_callF (fn__law_take T) (hr.mono (by decide)) (takes_of rfl rfl rfl rfl) (ia_cons (ie_var 0) (ia_cons (ie_len rfl T.n_len (ia_cons (ie_var 2) ia_nil)) ia_nil)))) io_none (io_some ie_int)) (ie_ix ie_str (ie_callF (fn__law_take T) (hr.mono (by decide)) (takes_of rfl rfl rfl rfl) (ia_cons (ie_var 0) (ia_cons ie_int ia_nil)))))))
    is_nil)
    (is_cons (is_setLc (i := 5) (own := [("_law_k", 6)]) rfl sc__law_words.nd rfl rfl (sw_true rfl rfl rfl (by decide +kernel)) (ii_range1 rfl T.n_range (ia_cons (ie_var 1) ia_nil)) (blkOk_by (N := ["_law_pot_here", "_law_many", "_law_found", "_law_turn", "_law_text", "_law_spare", "_law_k", "_law_one"]) (sc := defScope (top 36)) (own := [("_law_k", 6)]) (by decide +kernel)) (fun _ _ _ _ _ => (ig_name (i := 6) (by decide) ExOk.none sc__law_words.nd rfl (.inl rfl))) (fun _ _ _ _ _ => (ie_add ie_str (ie_strOf rfl T.n_str (ia_cons (ie_var 6) ia_nil)))))
    (is_one (is_expr (ie_append (ie_var 2) (ia_cons (ie_ix (ie_lcIf (own := [("_law_one", 7)]) rfl sc__law_words.nd (ii_val (ie_add (ie_lst (ia_cons (ie_var 4) ia_nil)) (ie_var 5))) (blkOk_by (N := ["_law_pot_here", "_law_many", "_law_found", "_law_turn", "_law_text", "_law_spare", "_law_k", "_law_one"]) (sc := defScope (top 36)) (own := [("_law_one", 7)]) (by decide +kernel)) (fun _ _ _ _ _ => (ig_name (i := 7) (by decide) ExOk.none sc__law_words.nd rfl (.inl rfl))) (fun _ _ _ _ _ => (it_notIn (ie_var 7) (ie_var 2))) (fun _ _ _ _ _ => (ie_var 7))) ie_int) ia_nil))))))))
    (is_one (is_ret (ie_var 2)))))), T.D__law_words.m, T.D__law_words.F.kp, T.D__law_words.b⟩
/-! _law_odd -/
theorem sc__law_odd : FnScope ["_law_pot_here", "_law_some"] ["_law_pot_here"] (defScope (top 37)) := ⟨rfl, rfl, rfl, by decide +kernel, rfl, by decide +kernel, by decide +kernel⟩
def b__law_odd : DS := (sSeq (sAsg (dLst (dCons (dC .non) (dCons (dC (.bl true)) (dCons (dC (.int 7)) (dCons (dUn negW (dC (.int 1))) (dCons (dC (.str "")) (dCons (dC (.str "a")) (dCons (dLst (dCons (dC (.str "a")) dNil)) (dCons (dLst dNil) (dCons (dTup (dCons (dC (.str "a")) (dCons (dC (.int 5)) dNil))) (dCons (dTup (dCons (dC (.str "a")) (dCons (dC (.str "*")) dNil))) (dCons (dTup (dCons (dTup (dCons (dC (.str "a")) dNil)) dNil)) (dCons (dTup (dCons (dC (.str "")) dNil)) (dCons (dTup (dCons (dC (.str "*")) (dCons (dC (.str "*")) dNil))) (dCons (dC (.str "a.")) dNil))))))))))))))) (tName 1))
    (sSeq (sAsg (dOp addW (dVar 1) (dLst (dCons (dTup (dCons (dC (.str "a-")) dNil)) (dCons (dTup (dCons (dC (.str "-")) dNil)) (dCons (dTup (dCons (dC (.str "A")) dNil)) (dCons (dTup (dCons (dC (.str "a b")) dNil)) (dCons (dTup (dCons (dC (.str "a")) (dCons (dC .non) dNil))) (dCons (dLst (dCons (dTup (dCons (dC (.str "a")) dNil)) dNil)) (dCons (dTup (dCons (dOp mulW (dC (.str "a")) (dC (.int 21))) dNil)) (dCons (dTup (dCons (dC (.str "a")) (dCons (dC (.str "")) (dCons (dC (.str "b")) dNil)))) (dCons (dTup (dCons (dC (.str "**")) dNil)) dNil))))))))))) (tName 1))
    (sRet (dOp ixW (dVar 1) (dCall 2 d__law_take (dCons (dVar 0) (dCons (dApp lenW (dCons (dVar 1) dNil)) dNil)))))))
def d__law_odd : List W → Store → Res W := fnDen 2 b__law_odd
def fn__law_odd (T : Txt P w K mg base) : FnF P w K mg base "_law_odd" ["_law_pot_here"] 2 1 d__law_odd :=
  ⟨T.D__law_odd.f, T.D__law_odd.fd, fn_ok (k := 1) T.D__law_odd.F sc__law_odd (fun cdv A outer s H E hr => (is_cons (is_set (i := 1) ExOk.none sc__law_odd.nd rfl (.inl rfl) (ie_lst (ia_cons ie_non (ia_cons ie_bl (ia_cons ie_int (ia_cons (ie_neg ie_int) (ia_cons ie_str (ia_cons ie_str (ia_cons (ie_lst (ia_cons ie_str ia_nil)) (ia_cons (ie_lst ia_nil) (ia_cons (ie_tup (ia_cons ie_str (ia_cons ie_int ia_nil))) (ia_cons (ie_tup (ia_cons ie_str (ia_cons ie_str ia_nil))) (ia_cons (ie_tup (ia_cons (ie_tup (ia_cons ie_str ia_nil)) ia_nil)) (ia_cons (ie_tup (ia_cons ie_str ia_nil)) (ia_cons (ie_tup (ia_cons ie_str (ia_cons ie_str ia_nil))) (ia_cons ie_str ia_nil))))))))))))))))
    (is_cons (is_set (i := 1) ExOk.none sc__law_odd.nd rfl (.inl rfl) (ie_add (ie_var 1) (ie_lst (ia_cons (ie_tup (ia_cons ie_str ia_nil)) (ia_cons (ie_tup (ia_cons ie_str ia_nil)) (ia_cons (ie_tup (ia_cons ie_str ia_nil)) (ia_cons (ie_tup (ia_cons ie_str ia_nil)) (ia_cons (ie_tup (ia_cons ie_str (ia_cons ie_non ia_nil))) (ia_cons (ie_lst (ia_cons (ie_tup (ia_cons ie_str ia_nil)) ia_nil)) (ia_cons (ie_tup (ia_cons (ie_mul ie_str ie_int) ia_nil)) (ia_cons (ie_tup (ia_cons ie_str (ia_cons ie_str (ia_cons ie_str ia_nil)))) (ia_cons (ie_tup (ia_cons ie_str ia_nil)) ia_nil))))))))))))
    (is_one (is_ret (ie_ix (ie_var 1) (ie_callF (fn__law_take T) (hr.mono (by decide)) (takes_of rfl rfl rfl rfl) (ia_cons (ie_var 0) (ia_cons (ie_len rfl T.n_len (ia_cons (ie_var 1) ia_nil)) ia_nil))))))))), T.D__law_odd.m, T.D__law_odd.F.kp, T.D__law_odd.b⟩
/-! _law_name -/
theorem sc__law_name : FnScope ["_law_pot_here", "_law_words_here", "_law_many", "_law_row", "_law_k"] ["_law_pot_here", "_law_words_here"] (defScope (top 38)) := ⟨rfl, rfl, rfl, by decide +kernel, rfl, by decide +kernel, by decide +kernel⟩
def b__law_name : DS := (sSeq (sAsg (dOp ixW (dLst (dCons (dCall 2 d__law_take (dCons (dVar 0) (dCons (dC (.int 4)) dNil))) (dCons (dCall 2 d__law_take (dCons (dVar 0) (dCons (dC (.int 12)) dNil))) (dCons (dC (.int 11)) dNil)))) (dOp fdivW (dCall 2 d__law_take (dCons (dVar 0) (dCons (dC (.int 8)) dNil))) (dC (.int 3)))) (tName 2))
    (sSeq (sAsg (dLc (dRange1 (dCons (dVar 2) dNil)) [4] (tName 4) dYes (dOp ixW (dVar 1) (dCall 2 d__law_take (dCons (dVar 0) (dCons (dApp lenW (dCons (dVar 1) dNil)) dNil))))) (tName 3))
    (sSeq (sIf (dBool (dOp eqW (dCall 2 d__law_take (dCons (dVar 0) (dCons (dC (.int 5)) dNil))) (dC (.int 0))))
    (sAsg (dOp addW (dLst (dCons (dC (.str "*")) dNil)) (dVar 3)) (tName 3))
    sNil)
    (sRet (dApp tupleW (dCons (dVar 3) dNil))))))
def d__law_name : List W → Store → Res W := fnDen 5 b__law_name
def fn__law_name (T : Txt P w K mg base) : FnF P w K mg base "_law_name" ["_law_pot_here", "_law_words_here"] 2 2 d__law_name :=
  ⟨T.D__law_name.f, T.D__law_name.fd, fn_ok (k := 1) T.D__law_name.F sc__law_name (fun cdv A outer s H E hr => (is_cons (is_set (i := 2) ExOk.none sc__law_name.nd rfl (.inl rfl) (ie_ix (ie_lst (ia_cons (ie_callF (fn__law_take T) (hr.mono (by decide)) (takes_of rfl rfl rfl rfl) (ia_cons (ie_var 0) (ia_cons ie_int ia_nil))) (ia_cons (ie_callF (fn__law_take T) (hr.mono (by decide)) (takes_of rfl rfl rfl rfl) (ia_cons (ie_var 0) (ia_cons ie_int ia_nil))) (ia_cons ie_int ia_nil)))) (ie_fdiv (ie_callF (fn__law_take T) (hr.mono (by decide)) (takes_of rfl rfl rfl rfl) (ia_cons (ie_var 0) (ia_cons ie_int ia_nil))) ie_int)))
    (is_cons (is_setLc (i := 3) (own := [("_law_k", 4)]) rfl sc__law_name.nd rfl rfl (sw_true rfl rfl rfl (by decide +kernel)) (ii_range1 rfl T.n_range (ia_cons (ie_var 2) ia_nil)) (blkOk_by (N := ["_law_pot_here", "_law_words_here", "_law_many", "_law_row", "_law_k"]) (sc := defScope (top 38)) (own := [("_law_k", 4)]) (by decide +kernel)) (fun _ _ _ _ _ => (ig_name (i := 4) (by decide) ExOk.none sc__law_name.nd rfl (.inl rfl))) (fun _ _ _ _ _ => (ie_ix (ie_var 1) (ie_callF (fn__law_take T) (hr.mono (by decide)) takes0 (ia_cons (ie_var 0) (ia_cons (ie_len rfl T.n_len (ia_cons (ie_var 1) ia_nil)) ia_nil))))))
    (is_cons (is_if (it_eq hr (ie_callF (fn__law_take T) (hr.mono (by decide)) (takes_of rfl rfl rfl rfl) (ia_cons (ie_var 0) (ia_cons ie_int ia_nil))) ie_int)
    (is_one (is_set (i := 3) ExOk.none sc__law_name.nd rfl (.inl rfl) (ie_add (ie_lst (ia_cons ie_str ia_nil)) (ie_var 3))))
    is_nil)
    (is_one (is_ret (ie_tuple rfl T.n_tuple (ia_cons (ie_var 3) ia_nil)))))))), T.D__law_name.m, T.D__law_name.F.kp, T.D__law_name.b⟩
/-! _law_ahead -/
theorem sc__law_ahead : FnScope ["_law_one", "_law_other", "_law_k", "_law_a", "_law_b"] ["_law_one", "_law_other"] (defScope (top 39)) := ⟨rfl, rfl, rfl, by decide +kernel, rfl, by decide +kernel, by decide +kernel⟩
def b__law_ahead : DS := (sSeq (sFor (dRange1 (dCons (dApp minW (dCons (dApp lenW (dCons (dVar 0) dNil)) (dCons (dApp lenW (dCons (dVar 1) dNil)) dNil))) dNil)) (tName 2)
    (sSeq (sPar 3 4 (dCons (dOp ixW (dVar 0) (dOp subW (dOp subW (dApp lenW (dCons (dVar 0) dNil)) (dC (.int 1))) (dVar 2))) (dCons (dOp ixW (dVar 1) (dOp subW (dOp subW (dApp lenW (dCons (dVar 1) dNil)) (dC (.int 1))) (dVar 2))) dNil)))
    (sIf (dBool (dOp neW (dVar 3) (dVar 4)))
    (sRet (dOp ltW (dVar 3) (dVar 4)))
    sNil)))
    (sRet (dOp ltUW (dApp lenW (dCons (dVar 0) dNil)) (dApp lenW (dCons (dVar 1) dNil)))))
def d__law_ahead : List W → Store → Res W := fnDen 5 b__law_ahead
def fn__law_ahead (T : Txt P w K mg base) : FnF P w K mg base "_law_ahead" ["_law_one", "_law_other"] 1 2 d__law_ahead :=
  ⟨T.D__law_ahead.f, T.D__law_ahead.fd, fn_ok (k := 0) T.D__law_ahead.F sc__law_ahead (fun cdv A outer s H E hr => (is_cons (is_for (vs := [2]) (passes_of rfl) rfl (ii_range1 rfl T.n_range (ia_cons (ie_min rfl rfl T.n_min (ia_cons (ie_len rfl T.n_len (ia_cons (ie_var 0) ia_nil)) (ia_cons (ie_len rfl T.n_len (ia_cons (ie_var 1) ia_nil)) ia_nil))) ia_nil)) (ig_name (i := 2) (by decide) ExOk.none sc__law_ahead.nd rfl (.inl rfl))
    (is_cons (is_par (i := 3) (j := 4) rfl sc__law_ahead.nd rfl rfl (by decide) rfl rfl ExOk.none ExOk.none (ia_cons (ie_ix (ie_var 0) (ie_sub (ie_sub (ie_len rfl T.n_len (ia_cons (ie_var 0) ia_nil)) ie_int) (ie_var 2))) (ia_cons (ie_ix (ie_var 1) (ie_sub (ie_sub (ie_len rfl T.n_len (ia_cons (ie_var 1) ia_nil)) ie_int) (ie_var 2))) ia_nil)))
    (is_one (is_if (it_ne hr (ie_var 3) (ie_var 4))
    (is_one (is_ret (ie_lt (ie_var 3) (ie_var 4))))
    is_nil))))
    (is_one (is_ret (ie_ltU hr (ie_len rfl T.n_len (ia_cons (ie_var 0) ia_nil)) (ie_len rfl T.n_len (ia_cons (ie_var 1) ia_nil))))))), T.D__law_ahead.m, T.D__law_ahead.F.kp, T.D__law_ahead.b⟩
/-! _law_order -/
theorem sc__law_order : FnScope ["_law_names", "_law_found", "_law_name_here", "_law_at", "_law_one"] ["_law_names"] (defScope (top 40)) := ⟨rfl, rfl, rfl, by decide +kernel, rfl, by decide +kernel, by decide +kernel⟩
def b__law_order : DS := (sSeq (sAsg (dLst dNil) (tName 1))
    (sSeq (sFor (dIt (dVar 0)) (tName 2)
    (sIf (dBool (dOp notInDW (dVar 2) (dVar 1)))
    (sSeq (sAsg (dApp lenW (dCons (dLc (dIt (dVar 1)) [4] (tName 4) (dBool (dCall 2 d__law_ahead (dCons (dVar 4) (dCons (dVar 2) dNil)))) (dVar 4)) dNil)) (tName 3))
    (sAsg (dOp addW (dOp addW (dSl (dVar 1) dNoPart (dPart (dVar 3))) (dLst (dCons (dVar 2) dNil))) (dSl (dVar 1) (dPart (dVar 3)) dNoPart)) (tName 1)))
    sNil))
    (sRet (dVar 1))))
def d__law_order : List W → Store → Res W := fnDen 5 b__law_order
def fn__law_order (T : Txt P w K mg base) : FnF P w K mg base "_law_order" ["_law_names"] 2 1 d__law_order :=
  ⟨T.D__law_order.f, T.D__law_order.fd, fn_ok (k := 1) T.D__law_order.F sc__law_order (fun cdv A outer s H E hr => (is_cons (is_set (i := 1) ExOk.none sc__law_order.nd rfl (.inl rfl) (ie_lst ia_nil))
    (is_cons (is_for (vs := [2]) (passes_of rfl) rfl (ii_val (ie_var 0)) (ig_name (i := 2) (by decide) ExOk.none sc__law_order.nd rfl (.inr rfl))
    (is_one (is_if (it_notInD hr (ie_var 2) (ie_var 1))
    (is_cons (is_set (i := 3) ExOk.none sc__law_order.nd rfl (.inl rfl) (ie_len rfl T.n_len (ia_cons (ie_lcIf (own := [("_law_one", 4)]) rfl sc__law_order.nd (ii_val (ie_var 1)) (blkOk_by (N := ["_law_names", "_law_found", "_law_name_here", "_law_at", "_law_one"]) (sc := defScope (top 40)) (own := [("_law_one", 4)]) (by decide +kernel)) (fun _ _ _ _ _ => (ig_name (i := 4) (by decide) ExOk.none sc__law_order.nd rfl (.inl rfl))) (fun _ _ _ _ _ => (it_val (ie_callF (fn__law_ahead T) (hr.mono (by decide)) takes0 (ia_cons (ie_var 4) (ia_cons (ie_var 2) ia_nil))))) (fun _ _ _ _ _ => (ie_var 4))) ia_nil)))
    (is_one (is_set (i := 1) ExOk.none sc__law_order.nd rfl (.inl rfl) (ie_add (ie_add (ie_slice (ie_var 1) io_none (io_some (ie_var 3))) (ie_lst (ia_cons (ie_var 2) ia_nil))) (ie_slice (ie_var 1) (io_some (ie_var 3)) io_none)))))
    is_nil)))
    (is_one (is_ret (ie_var 1)))))), T.D__law_order.m, T.D__law_order.F.kp, T.D__law_order.b⟩
/-! _law_size -/
theorem sc__law_size : FnScope ["_law_name_here", "_law_total", "_law_label_here"] ["_law_name_here"] (defScope (top 41)) := ⟨rfl, rfl, rfl, by decide +kernel, rfl, by decide +kernel, by decide +kernel⟩
def b__law_size : DS := (sSeq (sAsg (dC (.int 1)) (tName 1))
    (sSeq (sFor (dIt (dVar 0)) (tName 2)
    (sAsg (dOp addW (dOp addW (dVar 1) (dApp lenW (dCons (dVar 2) dNil))) (dC (.int 1))) (tName 1)))
    (sRet (dVar 1))))
def d__law_size : List W → Store → Res W := fnDen 3 b__law_size
def fn__law_size (T : Txt P w K mg base) : FnF P w K mg base "_law_size" ["_law_name_here"] 1 1 d__law_size :=
  ⟨T.D__law_size.f, T.D__law_size.fd, fn_ok (k := 0) T.D__law_size.F sc__law_size (fun cdv A outer s H E hr => (is_cons (is_set (i := 1) ExOk.none sc__law_size.nd rfl (.inl rfl) ie_int)
    (is_cons (is_for (vs := [2]) (passes_of rfl) rfl (ii_val (ie_var 0)) (ig_name (i := 2) (by decide) ExOk.none sc__law_size.nd rfl (.inl rfl))
    (is_one (is_set (i := 1) ExOk.none sc__law_size.nd rfl (.inl rfl) (ie_add (ie_add (ie_var 1) (ie_len rfl T.n_len (ia_cons (ie_var 2) ia_nil))) ie_int))))
    (is_one (is_ret (ie_var 1)))))), T.D__law_size.m, T.D__law_size.F.kp, T.D__law_size.b⟩
/-! _law_first -/
theorem sc__law_first : FnScope ["_law_names", "_law_row", "_law_least", "_law_name_here"] ["_law_names"] (defScope (top 42)) := ⟨rfl, rfl, rfl, by decide +kernel, rfl, by decide +kernel, by decide +kernel⟩
def b__law_first : DS := (sSeq (sAsg (dCall 1 d__law_order (dCons (dVar 0) dNil)) (tName 1))
    (sSeq (sIf (dBool (dOp eqW (dVar 1) (dLst dNil)))
    (sRet (dC .non))
    sNil)
    (sSeq (sAsg (dApp minLW (dCons (dLc (dIt (dVar 1)) [3] (tName 3) dYes (dCall 1 d__law_size (dCons (dVar 3) dNil))) dNil)) (tName 2))
    (sRet (dOp ixW (dLc (dIt (dVar 1)) [3] (tName 3) (dBool (dOp eqW (dCall 1 d__law_size (dCons (dVar 3) dNil)) (dVar 2))) (dVar 3)) (dC (.int 0)))))))
def d__law_first : List W → Store → Res W := fnDen 4 b__law_first
def fn__law_first (T : Txt P w K mg base) : FnF P w K mg base "_law_first" ["_law_names"] 3 1 d__law_first :=
  ⟨T.D__law_first.f, T.D__law_first.fd, fn_ok (k := 2) T.D__law_first.F sc__law_first (fun cdv A outer s H E hr => (is_cons (is_set (i := 1) ExOk.none sc__law_first.nd rfl (.inl rfl) (ie_callF (fn__law_order T) (hr.mono (by decide)) (takes_of rfl rfl rfl rfl) (ia_cons (ie_var 0) ia_nil)))
    (is_cons (is_if (it_eq hr (ie_var 1) (ie_lst ia_nil))
    (is_one (is_ret ie_non))
    is_nil)
    (is_cons (is_set (i := 2) ExOk.none sc__law_first.nd rfl (.inr rfl) (ie_minL rfl rfl T.n_min (ia_cons (ie_lc (own := [("_law_name_here", 3)]) rfl sc__law_first.nd (ii_val (ie_var 1)) (blkOk_by (N := ["_law_names", "_law_row", "_law_least", "_law_name_here"]) (sc := defScope (top 42)) (own := [("_law_name_here", 3)]) (by decide +kernel)) (fun _ _ _ _ _ => (ig_name (i := 3) (by decide) ExOk.none sc__law_first.nd rfl (.inl rfl))) (fun _ _ _ _ _ => (ie_callF (fn__law_size T) (hr.mono (by decide)) takes0 (ia_cons (ie_var 3) ia_nil)))) ia_nil)))
    (is_one (is_ret (ie_ix (ie_lcIf (own := [("_law_name_here", 3)]) rfl sc__law_first.nd (ii_val (ie_var 1)) (blkOk_by (N := ["_law_names", "_law_row", "_law_least", "_law_name_here"]) (sc := defScope (top 42)) (own := [("_law_name_here", 3)]) (by decide +kernel)) (fun _ _ _ _ _ => (ig_name (i := 3) (by decide) ExOk.none sc__law_first.nd rfl (.inl rfl))) (fun _ _ _ _ _ => (it_eq hr (ie_callF (fn__law_size T) (hr.mono (by decide)) takes0 (ia_cons (ie_var 3) ia_nil)) (ie_var 2))) (fun _ _ _ _ _ => (ie_var 3))) ie_int))))))), T.D__law_first.m, T.D__law_first.F.kp, T.D__law_first.b⟩
/-! _law_lists_right -/
theorem sc__law_lists_right : FnScope ["_law_pot_here", "_law_words_here", "_law_names", "_law_handed", "_law_row", "_law_name_here", "_law_ahead_here", "_law_behind", "_law_due", "_law_told", "_law_k", "_law_one"] ["_law_pot_here", "_law_words_here"] (defScope (top 43)) := ⟨rfl, rfl, rfl, by decide +kernel, rfl, by decide +kernel, by decide +kernel⟩
def b__law_lists_right : DS := (sSeq (sAsg (dLc (dRange1 (dCons (dOp ixW (dLst (dCons (dCall 2 d__law_take (dCons (dVar 0) (dCons (dC (.int 9)) dNil))) (dCons (dC (.int 39)) dNil))) (dOp fdivW (dCall 2 d__law_take (dCons (dVar 0) (dCons (dC (.int 8)) dNil))) (dC (.int 7)))) dNil)) [10] (tName 10) dYes (dCall 2 d__law_name (dCons (dVar 0) (dCons (dVar 1) dNil)))) (tName 2))
    (sSeq (sIf (dBool (dOp neW (dVar 2) (dLst dNil)))
    (sAsg (dOp addW (dVar 2) (dOp mulW (dLst (dCons (dOp ixW (dVar 2) (dCall 2 d__law_take (dCons (dVar 0) (dCons (dApp lenW (dCons (dVar 2) dNil)) dNil)))) dNil)) (dCall 2 d__law_take (dCons (dVar 0) (dCons (dC (.int 2)) dNil))))) (tName 2))
    sNil)
    (sSeq (sAsg (dApp listAW (dCons (dVar 2) dNil)) (tName 3))
    (sSeq (sAsg (dCall 1 d__law_order (dCons (dVar 2) dNil)) (tName 4))
    (sSeq (sAsg (dCall 2 d__law_name (dCons (dVar 0) (dCons (dVar 1) dNil))) (tName 5))
    (sSeq (sIf (dAnd (dBool (dOp neW (dVar 2) (dLst dNil))) (dBool (dOp eqW (dCall 2 d__law_take (dCons (dVar 0) (dCons (dC (.int 2)) dNil))) (dC (.int 0)))))
    (sAsg (dOp ixW (dVar 2) (dCall 2 d__law_take (dCons (dVar 0) (dCons (dApp lenW (dCons (dVar 2) dNil)) dNil)))) (tName 5))
    sNil)
    (sSeq (sAsg (dLc (dIt (dVar 4)) [11] (tName 11) (dOr (dBool (dOp eqW (dVar 11) (dVar 5))) (dBool (dCall 2 d__law_ahead (dCons (dVar 11) (dCons (dVar 5) dNil))))) (dVar 11)) (tName 6))
    (sSeq (sAsg (dLc (dIt (dVar 4)) [11] (tName 11) (dBool (dCall 2 d__law_ahead (dCons (dVar 5) (dCons (dVar 11) dNil)))) (dVar 11)) (tName 7))
    (sSeq (sAsg (dTup (dCons (dOp ixW (dOp addW (dSl (dVar 6) (dPart (dUn negW (dC (.int 1)))) dNoPart) (dLst (dCons (dC .non) dNil))) (dC (.int 0))) (dCons (dOp ixW (dOp addW (dVar 7) (dLst (dCons (dC .non) dNil))) (dC (.int 0))) dNil))) (tName 8))
    (sSeq (sIf (dOr (dNot (dBool (dCall 2 (d__law_same 8) (dCons (dCall 1 d_ordered (dCons (dVar 3) dNil)) (dCons (dVar 4) dNil))))) (dNot (dBool (dCall 2 (d__law_same 8) (dCons (dCall 2 d_neighbours (dCons (dVar 3) (dCons (dVar 5) dNil))) (dCons (dVar 8) dNil))))))
    (sRet (dC (.bl false)))
    sNil)
    (sSeq (sIf (dNot (dBool (dCall 2 (d__law_same 8) (dCons (dCall 1 d_first (dCons (dVar 3) dNil)) (dCons (dCall 1 d__law_first (dCons (dVar 2) dNil)) dNil)))))
    (sRet (dC (.bl false)))
    sNil)
    (sSeq (sAsg (dCall 1 d_ordered (dCons (dVar 3) dNil)) (tName 9))
    (sSeq (sExpr (dBm tyL appendW (dVar 9) (dCons (dTup dNil) dNil)))
    (sSeq (sIf (dOr (dNot (dBool (dCall 2 (d__law_same 8) (dCons (dCallP 2 [1, 0] d_neighbours (dCons (dVar 5) (dCons (dVar 3) dNil))) (dCons (dVar 8) dNil))))) (dNot (dBool (dCall 2 (d__law_same 8) (dCons (dCall 1 d_first (dCons (dVar 3) dNil)) (dCons (dCall 1 d__law_first (dCons (dVar 2) dNil)) dNil))))))
    (sRet (dC (.bl false)))
    sNil)
    (sRet (dAndV (dOp eqW (dVar 3) (dVar 2)) (dCall 2 (d__law_same 8) (dCons (dCall 1 d_ordered (dCons (dVar 3) dNil)) (dCons (dVar 4) dNil)))))))))))))))))))
def d__law_lists_right : List W → Store → Res W := fnDen 12 b__law_lists_right
def fn__law_lists_right (T : Txt P w K mg base) : FnF P w K mg base "_law_lists_right" ["_law_pot_here", "_law_words_here"] 13 2 d__law_lists_right :=
  ⟨T.D__law_lists_right.f, T.D__law_lists_right.fd, fn_ok (k := 12) T.D__law_lists_right.F sc__law_lists_right (fun cdv A outer s H E hr => (is_cons (is_setLc (i := 2) (own := [("_law_k", 10)]) rfl sc__law_lists_right.nd rfl rfl (sw_true rfl rfl rfl (by decide +kernel)) (ii_range1 rfl T.n_range (ia_cons (ie_ix (ie_lst (ia_cons (ie_callF (fn__law_take T) (hr.mono (by decide)) (takes_of rfl rfl rfl rfl) (ia_cons (ie_var 0) (ia_cons ie_int ia_nil))) (ia_cons ie_int ia_nil))) (ie_fdiv (ie_callF (fn__law_take T) (hr.mono (by decide)) (takes_of rfl rfl rfl rfl) (ia_cons (ie_var 0) (ia_cons ie_int ia_nil))) ie_int)) ia_nil)) (blkOk_by (N := ["_law_pot_here", "_law_words_here", "_law_names", "_law_handed", "_law_row", "_law_name_here", "_law_ahead_here", "_law_behind", "_law_due", "_law_told", "_law_k", "_law_one"]) (sc := defScope (top 43)) (own := [("_law_k", 10)]) (by decide +kernel)) (fun _ _ _ _ _ => (ig_name (i := 10) (by decide) ExOk.none sc__law_lists_right.nd rfl (.inl rfl))) (fun _ _ _ _ _ => (ie_callF (fn__law_name T) (hr.mono (by decide)) takes0 (ia_cons (ie_var 0) (ia_cons (ie_var 1) ia_nil)))))
    (is_cons (is_if (it_ne hr (ie_var 2) (ie_lst ia_nil))
    (is_one (is_set (i := 2) ExOk.none sc__law_lists_right.nd rfl (.inl rfl) (ie_add (ie_var 2) (ie_mul (ie_lst (ia_cons (ie_ix (ie_var 2) (ie_callF (fn__law_take T) (hr.mono (by decide)) (takes_of rfl rfl rfl rfl) (ia_cons (ie_var 0) (ia_cons (ie_len rfl T.n_len (ia_cons (ie_var 2) ia_nil)) ia_nil)))) ia_nil)) (ie_callF (fn__law_take T) (hr.mono (by decide)) (takes_of rfl rfl rfl rfl) (ia_cons (ie_var 0) (ia_cons ie_int ia_nil)))))))
    is_nil)
    (is_cons (is_set (i := 3) ExOk.none sc__law_lists_right.nd rfl (.inl rfl) (ie_listA rfl rfl T.n_list (ia_cons (ie_var 2) ia_nil)))
    (is_cons (is_set (i := 4) ExOk.none sc__law_lists_right.nd rfl (.inl rfl) (ie_callF (fn__law_order T) (hr.mono (by decide)) (takes_of rfl rfl rfl rfl) (ia_cons (ie_var 2) ia_nil)))
    (is_cons (is_set (i := 5) ExOk.none sc__law_lists_right.nd rfl (.inr rfl) (ie_callF (fn__law_name T) (hr.mono (by decide)) (takes_of rfl rfl rfl rfl) (ia_cons (ie_var 0) (ia_cons (ie_var 1) ia_nil))))
    (is_cons (is_if (it_w (iw_and (it_ne hr (ie_var 2) (ie_lst ia_nil)) (iw_and1 (it_eq hr (ie_callF (fn__law_take T) (hr.mono (by decide)) (takes_of rfl rfl rfl rfl) (ia_cons (ie_var 0) (ia_cons ie_int ia_nil))) ie_int))))
    (is_one (is_set (i := 5) ExOk.none sc__law_lists_right.nd rfl (.inr rfl) (ie_ix (ie_var 2) (ie_callF (fn__law_take T) (hr.mono (by decide)) (takes_of rfl rfl rfl rfl) (ia_cons (ie_var 0) (ia_cons (ie_len rfl T.n_len (ia_cons (ie_var 2) ia_nil)) ia_nil))))))
    is_nil)
    (is_cons (is_setLcIf (i := 6) (own := [("_law_one", 11)]) rfl sc__law_lists_right.nd rfl rfl (sw_true rfl rfl rfl (by decide +kernel)) (ii_val (ie_var 4)) (blkOk_by (N := ["_law_pot_here", "_law_words_here", "_law_names", "_law_handed", "_law_row", "_law_name_here", "_law_ahead_here", "_law_behind", "_law_due", "_law_told", "_law_k", "_law_one"]) (sc := defScope (top 43)) (own := [("_law_one", 11)]) (by decide +kernel)) (fun _ _ _ _ _ => (ig_name (i := 11) (by decide) ExOk.none sc__law_lists_right.nd rfl (.inl rfl))) (fun _ _ _ _ _ => (it_w (iw_or (it_eq hr (ie_var 11) (ie_var 5)) (iw_or1 (it_val (ie_callF (fn__law_ahead T) (hr.mono (by decide)) takes0 (ia_cons (ie_var 11) (ia_cons (ie_var 5) ia_nil)))))))) (fun _ _ _ _ _ => (ie_var 11)))
    (is_cons (is_setLcIf (i := 7) (own := [("_law_one", 11)]) rfl sc__law_lists_right.nd rfl rfl (sw_true rfl rfl rfl (by decide +kernel)) (ii_val (ie_var 4)) (blkOk_by (N := ["_law_pot_here", "_law_words_here", "_law_names", "_law_handed", "_law_row", "_law_name_here", "_law_ahead_here", "_law_behind", "_law_due", "_law_told", "_law_k", "_law_one"]) (sc := defScope (top 43)) (own := [("_law_one", 11)]) (by decide +kernel)) (fun _ _ _ _ _ => (ig_name (i := 11) (by decide) ExOk.none sc__law_lists_right.nd rfl (.inl rfl))) (fun _ _ _ _ _ => (it_val (ie_callF (fn__law_ahead T) (hr.mono (by decide)) takes0 (ia_cons (ie_var 5) (ia_cons (ie_var 11) ia_nil))))) (fun _ _ _ _ _ => (ie_var 11)))
    (is_cons (is_set (i := 8) ExOk.none sc__law_lists_right.nd rfl (.inl rfl) (ie_tup (ia_cons (ie_ix (ie_add (ie_slice (ie_var 6) (io_some (ie_neg ie_int)) io_none) (ie_lst (ia_cons ie_non ia_nil))) ie_int) (ia_cons (ie_ix (ie_add (ie_var 7) (ie_lst (ia_cons ie_non ia_nil))) ie_int) ia_nil))))
    (is_cons (is_if (it_w (iw_or (it_not (it_val (ie_callF (fn__law_same T 8) (hr.mono (by decide)) (takes_of rfl rfl rfl rfl) (ia_cons (ie_callF (fn_ordered T) (hr.mono (by decide)) (takes_of rfl rfl rfl rfl) (ia_cons (ie_var 3) ia_nil)) (ia_cons (ie_var 4) ia_nil))))) (iw_or1 (it_not (it_val (ie_callF (fn__law_same T 8) (hr.mono (by decide)) (takes_of rfl rfl rfl rfl) (ia_cons (ie_callF (fn_neighbours T) (hr.mono (by decide)) (takes_of rfl rfl rfl rfl) (ia_cons (ie_var 3) (ia_cons (ie_var 5) ia_nil))) (ia_cons (ie_var 8) ia_nil))))))))
    (is_one (is_ret ie_bl))
    is_nil)
    (is_cons (is_if (it_not (it_val (ie_callF (fn__law_same T 8) (hr.mono (by decide)) (takes_of rfl rfl rfl rfl) (ia_cons (ie_callF (fn_first T) (hr.mono (by decide)) (takes_of rfl rfl rfl rfl) (ia_cons (ie_var 3) ia_nil)) (ia_cons (ie_callF (fn__law_first T) (hr.mono (by decide)) (takes_of rfl rfl rfl rfl) (ia_cons (ie_var 2) ia_nil)) ia_nil)))))
    (is_one (is_ret ie_bl))
    is_nil)
    (is_cons (is_set (i := 9) ExOk.none sc__law_lists_right.nd rfl (.inl rfl) (ie_callF (fn_ordered T) (hr.mono (by decide)) (takes_of rfl rfl rfl rfl) (ia_cons (ie_var 3) ia_nil)))
    (is_cons (is_expr (ie_append (ie_var 9) (ia_cons (ie_tup ia_nil) ia_nil)))
    (is_cons (is_if (it_w (iw_or (it_not (it_val (ie_callF (fn__law_same T 8) (hr.mono (by decide)) (takes_of rfl rfl rfl rfl) (ia_cons (ie_callFKP (fn_neighbours T) (hr.mono (by decide)) (takes_of rfl rfl rfl rfl) T.k_neighbours_1_0 (ik_cons (ie_var 5) (ik_cons (ie_var 3) ik_nil))) (ia_cons (ie_var 8) ia_nil))))) (iw_or1 (it_not (it_val (ie_callF (fn__law_same T 8) (hr.mono (by decide)) (takes_of rfl rfl rfl rfl) (ia_cons (ie_callFK (fn_first T) (hr.mono (by decide)) (takes_of rfl rfl rfl rfl) T.k_first (ik_cons (ie_var 3) ik_nil)) (ia_cons (ie_callF (fn__law_first T) (hr.mono (by decide)) (takes_of rfl rfl rfl rfl) (ia_cons (ie_var 2) ia_nil)) ia_nil))))))))
    (is_one (is_ret ie_bl))
    is_nil)
    (is_one (is_ret (ie_and (ie_eq hr (ie_var 3) (ie_var 2)) (ie_one (ie_callF (fn__law_same T 8) (hr.mono (by decide)) (takes_of rfl rfl rfl rfl) (ia_cons (ie_callFK (fn_ordered T) (hr.mono (by decide)) (takes_of rfl rfl rfl rfl) T.k_ordered (ik_cons (ie_var 3) ik_nil)) (ia_cons (ie_var 4) ia_nil)))))))))))))))))))))), T.D__law_lists_right.m, T.D__law_lists_right.F.kp, T.D__law_lists_right.b⟩
/-! _law_labels_ahead -/
theorem sc__law_labels_ahead : FnScope ["_law_one", "_law_other", "_law_found", "error"] ["_law_one", "_law_other"] (defScope (top 45)) := ⟨rfl, rfl, rfl, by decide +kernel, rfl, by decide +kernel, by decide +kernel⟩
def b__law_labels_ahead : DS := (sSeq (sAsg (dC .non) (tName 2))
    (sSeq (sTryAs 3 (sAsg (dTup (dCons (dC (.str "labels")) (dCons (dCall 2 d_labels_ahead (dCons (dVar 0) (dCons (dVar 1) dNil))) dNil))) (tName 2)) (subL [("TreeError", false), ("InvalidName", false), ("OutOfZone", true), ("Unreadable", false)]) (fun cN wv => (sAsg (dTup (dCons (dC (.str "outside")) (dCons (dExc wv) dNil))) (tName 2))))
    (sRet (dVar 2))))
def d__law_labels_ahead : List W → Store → Res W := fnDen 4 b__law_labels_ahead
def fn__law_labels_ahead (T : Txt P w K mg base) : FnF P w K mg base "_law_labels_ahead" ["_law_one", "_law_other"] 12 2 d__law_labels_ahead :=
  ⟨T.D__law_labels_ahead.f, T.D__law_labels_ahead.fd, fn_ok (k := 11) T.D__law_labels_ahead.F sc__law_labels_ahead (fun cdv A outer s H E hr => (is_cons (is_set (i := 2) ExOk.none sc__law_labels_ahead.nd rfl (.inl rfl) ie_non)
    (is_cons (is_try_as (i := 3) rfl rfl sc__law_labels_ahead.nd rfl rfl ⟨rfl, by decide, .inl T.E_OutOfZone.T.mgC⟩ (takes_of rfl rfl rfl rfl) (fun Wb pnb xeb tkb hpb => (is_one (is_set (i := 2) ExOk.none sc__law_labels_ahead.nd rfl (.inl rfl) (ie_tup (ia_cons ie_str (ia_cons (ie_callF (fn_labels_ahead T) (hr.mono (by decide)) tkb (ia_cons (ie_var 0) (ia_cons (ie_var 1) ia_nil))) ia_nil)))))) (subL_ok (l := [("TreeError", false), ("InvalidName", false), ("OutOfZone", true), ("Unreadable", false)]) T.sub_OutOfZone) (fun cN C dd a y wv oe pn hsN hmN xf nv hz hfv => (is_one (is_set (i := 2) (fun x h => by cases h; show (3 : Nat) ≠ 2; decide) sc__law_labels_ahead.nd rfl (.inl rfl) (ie_tup (ia_cons ie_str (ia_cons (ie_exc xf nv hz hfv rfl (.inl rfl)) ia_nil)))))))
    (is_one (is_ret (ie_var 2)))))), T.D__law_labels_ahead.m, T.D__law_labels_ahead.F.kp, T.D__law_labels_ahead.b⟩
/-! _law_pairs_right -/
theorem sc__law_pairs_right : FnScope ["_law_pot_here", "_law_words_here", "_law_turn", "_law_order_here", "_law_alike", "_law_under", "_law_due", "_law_one", "_law_other"] ["_law_pot_here", "_law_words_here"] (defScope (top 44)) := ⟨rfl, rfl, rfl, by decide +kernel, rfl, by decide +kernel, by decide +kernel⟩
def b__law_pairs_right : DS := (sSeq (sFor (dRange1 (dCons (dC (.int 6)) dNil)) (tName 2)
    (sSeq (sPar 7 8 (dCons (dCall 2 d__law_name (dCons (dVar 0) (dCons (dVar 1) dNil))) (dCons (dCall 2 d__law_name (dCons (dVar 0) (dCons (dVar 1) dNil))) dNil)))
    (sSeq (sIf (dBool (dOp eqW (dCall 2 d__law_take (dCons (dVar 0) (dCons (dC (.int 3)) dNil))) (dC (.int 0))))
    (sAsg (dSl (dVar 7) (dPart (dCall 2 d__law_take (dCons (dVar 0) (dCons (dOp addW (dApp lenW (dCons (dVar 7) dNil)) (dC (.int 1))) dNil)))) dNoPart) (tName 8))
    sNil)
    (sSeq (sIf (dBool (dOp eqW (dCall 2 d__law_take (dCons (dVar 0) (dCons (dC (.int 6)) dNil))) (dC (.int 0))))
    (sPar 7 8 (dCons (dVar 8) (dCons (dVar 7) dNil)))
    sNil)
    (sSeq (sAsg (dOp subW (dApp intOfW (dCons (dCall 2 d__law_ahead (dCons (dVar 8) (dCons (dVar 7) dNil))) dNil)) (dApp intOfW (dCons (dCall 2 d__law_ahead (dCons (dVar 7) (dCons (dVar 8) dNil))) dNil))) (tName 3))
    (sSeq (sIf (dOr (dNot (dBool (dCall 2 (d__law_same 8) (dCons (dCall 2 d_compared (dCons (dVar 7) (dCons (dVar 8) dNil))) (dCons (dVar 3) dNil))))) (dNot (dBool (dCall 2 (d__law_same 8) (dCons (dCall 1 d_size (dCons (dVar 7) dNil)) (dCons (dCall 1 d__law_size (dCons (dVar 7) dNil)) dNil))))))
    (sRet (dC (.bl false)))
    sNil)
    (sSeq (sAsg (dC (.int 0)) (tName 4))
    (sSeq (sWhile (dAnd (dBool (dOp ltW (dVar 4) (dApp minW (dCons (dApp lenW (dCons (dVar 7) dNil)) (dCons (dApp lenW (dCons (dVar 8) dNil)) dNil))))) (dBool (dOp eqW (dOp ixW (dVar 7) (dOp subW (dOp subW (dApp lenW (dCons (dVar 7) dNil)) (dC (.int 1))) (dVar 4))) (dOp ixW (dVar 8) (dOp subW (dOp subW (dApp lenW (dCons (dVar 8) dNil)) (dC (.int 1))) (dVar 4))))))
    (sAsg (dOp addW (dVar 4) (dC (.int 1))) (tName 4)))
    (sSeq (sIf (dOr (dNot (dBool (dCall 2 (d__law_same 8) (dCons (dCall 2 d_common (dCons (dVar 7) (dCons (dVar 8) dNil))) (dCons (dSl (dVar 7) (dPart (dOp subW (dApp lenW (dCons (dVar 7) dNil)) (dVar 4))) dNoPart) dNil))))) (dBool (dOp neW (dCallP 2 [1, 0] d_compared (dCons (dVar 8) (dCons (dVar 7) dNil))) (dVar 3))))
    (sRet (dC (.bl false)))
    sNil)
    (sSeq (sIf (dOr (dBool (dOp neW (dCallP 2 [1, 0] d_common (dCons (dVar 8) (dCons (dVar 7) dNil))) (dCall 2 d_common (dCons (dVar 7) (dCons (dVar 8) dNil))))) (dBool (dOp neW (dCall 1 d_size (dCons (dVar 7) dNil)) (dCall 1 d__law_size (dCons (dVar 7) dNil)))))
    (sRet (dC (.bl false)))
    sNil)
    (sSeq (sIf (dNot (dBool (dCall 2 (d__law_same 8) (dCons (dCallP 2 [1, 0] d_is_under (dCons (dVar 8) (dCons (dVar 7) dNil))) (dCons (dOp eqW (dVar 4) (dApp lenW (dCons (dVar 8) dNil))) dNil)))))
    (sRet (dC (.bl false)))
    sNil)
    (sSeq (sIf (dAnd (dBool (dOp eqW (dVar 4) (dApp lenW (dCons (dVar 8) dNil)))) (dBool (dOp neW (dCallP 2 [1, 0] d_labels_ahead (dCons (dVar 8) (dCons (dVar 7) dNil))) (dSl (dVar 7) dNoPart (dPart (dOp subW (dApp lenW (dCons (dVar 7) dNil)) (dVar 4)))))))
    (sRet (dC (.bl false)))
    sNil)
    (sSeq (sAsg (dOp eqW (dVar 4) (dApp lenW (dCons (dVar 8) dNil))) (tName 5))
    (sSeq (sAsg (dTup (dCons (dC (.str "outside")) (dCons (dVar 7) dNil))) (tName 6))
    (sSeq (sIf (dBool (dVar 5))
    (sAsg (dTup (dCons (dC (.str "labels")) (dCons (dSl (dVar 7) dNoPart (dPart (dOp subW (dApp lenW (dCons (dVar 7) dNil)) (dVar 4)))) dNil))) (tName 6))
    sNil)
    (sIf (dOr (dNot (dBool (dCall 2 (d__law_same 8) (dCons (dCall 2 d_is_under (dCons (dVar 7) (dCons (dVar 8) dNil))) (dCons (dVar 5) dNil))))) (dNot (dBool (dCall 2 (d__law_same 8) (dCons (dCall 2 d__law_labels_ahead (dCons (dVar 7) (dCons (dVar 8) dNil))) (dCons (dVar 6) dNil))))))
    (sRet (dC (.bl false)))
    sNil))))))))))))))))
    (sRet (dC (.bl true))))
def d__law_pairs_right : List W → Store → Res W := fnDen 9 b__law_pairs_right
def fn__law_pairs_right (T : Txt P w K mg base) : FnF P w K mg base "_law_pairs_right" ["_law_pot_here", "_law_words_here"] 13 2 d__law_pairs_right :=
  ⟨T.D__law_pairs_right.f, T.D__law_pairs_right.fd, fn_ok (k := 12) T.D__law_pairs_right.F sc__law_pairs_right (fun cdv A outer s H E hr => (is_cons (is_for (vs := [2]) (passes_of rfl) rfl (ii_range1 rfl T.n_range (ia_cons ie_int ia_nil)) (ig_name (i := 2) (by decide) ExOk.none sc__law_pairs_right.nd rfl (.inl rfl))
    (is_cons (is_par (i := 7) (j := 8) rfl sc__law_pairs_right.nd rfl rfl (by decide) rfl rfl ExOk.none ExOk.none (ia_cons (ie_callF (fn__law_name T) (hr.mono (by decide)) (takes_of rfl rfl rfl rfl) (ia_cons (ie_var 0) (ia_cons (ie_var 1) ia_nil))) (ia_cons (ie_callF (fn__law_name T) (hr.mono (by decide)) (takes_of rfl rfl rfl rfl) (ia_cons (ie_var 0) (ia_cons (ie_var 1) ia_nil))) ia_nil)))
    (is_cons (is_if (it_eq hr (ie_callF (fn__law_take T) (hr.mono (by decide)) (takes_of rfl rfl rfl rfl) (ia_cons (ie_var 0) (ia_cons ie_int ia_nil))) ie_int)
    (is_one (is_set (i := 8) ExOk.none sc__law_pairs_right.nd rfl (.inl rfl) (ie_slice (ie_var 7) (io_some (ie_callF (fn__law_take T) (hr.mono (by decide)) (takes_of rfl rfl rfl rfl) (ia_cons (ie_var 0) (ia_cons (ie_add (ie_len rfl T.n_len (ia_cons (ie_var 7) ia_nil)) ie_int) ia_nil)))) io_none)))
    is_nil)
    (is_cons (is_if (it_eq hr (ie_callF (fn__law_take T) (hr.mono (by decide)) (takes_of rfl rfl rfl rfl) (ia_cons (ie_var 0) (ia_cons ie_int ia_nil))) ie_int)
    (is_one (is_par (i := 7) (j := 8) rfl sc__law_pairs_right.nd rfl rfl (by decide) rfl rfl ExOk.none ExOk.none (ia_cons (ie_var 8) (ia_cons (ie_var 7) ia_nil))))
    is_nil)
    (is_cons (is_set (i := 3) ExOk.none sc__law_pairs_right.nd rfl (.inl rfl) (ie_sub (ie_intOf rfl T.n_int (ia_cons (ie_callF (fn__law_ahead T) (hr.mono (by decide)) (takes_of rfl rfl rfl rfl) (ia_cons (ie_var 8) (ia_cons (ie_var 7) ia_nil))) ia_nil)) (ie_intOf rfl T.n_int (ia_cons (ie_callF (fn__law_ahead T) (hr.mono (by decide)) (takes_of rfl rfl rfl rfl) (ia_cons (ie_var 7) (ia_cons (ie_var 8) ia_nil))) ia_nil))))
    (is_cons (is_if (it_w (iw_or (it_not (it_val (ie_callF (fn__law_same T 8) (hr.mono (by decide)) (takes_of rfl rfl rfl rfl) (ia_cons (ie_callF (fn_compared T) (hr.mono (by decide)) (takes_of rfl rfl rfl rfl) (ia_cons (ie_var 7) (ia_cons (ie_var 8) ia_nil))) (ia_cons (ie_var 3) ia_nil))))) (iw_or1 (it_not (it_val (ie_callF (fn__law_same T 8) (hr.mono (by decide)) (takes_of rfl rfl rfl rfl) (ia_cons (ie_callF (fn_size T) (hr.mono (by decide)) (takes_of rfl rfl rfl rfl) (ia_cons (ie_var 7) ia_nil)) (ia_cons (ie_callF (fn__law_size T) (hr.mono (by decide)) (takes_of rfl rfl rfl rfl) (ia_cons (ie_var 7) ia_nil)) ia_nil))))))))
    (is_one (is_ret ie_bl))
    is_nil)
    (is_cons (is_set (i := 4) ExOk.none sc__law_pairs_right.nd rfl (.inl rfl) ie_int)
    (is_cons (is_while (passes_of rfl) (it_w (iw_and (it_lt (ie_var 4) (ie_min rfl rfl T.n_min (ia_cons (ie_len rfl T.n_len (ia_cons (ie_var 7) ia_nil)) (ia_cons (ie_len rfl T.n_len (ia_cons (ie_var 8) ia_nil)) ia_nil)))) (iw_and1 (it_eq hr (ie_ix (ie_var 7) (ie_sub (ie_sub (ie_len rfl T.n_len (ia_cons (ie_var 7) ia_nil)) ie_int) (ie_var 4))) (ie_ix (ie_var 8) (ie_sub (ie_sub (ie_len rfl T.n_len (ia_cons (ie_var 8) ia_nil)) ie_int) (ie_var 4)))))))
    (is_one (is_set (i := 4) ExOk.none sc__law_pairs_right.nd rfl (.inl rfl) (ie_add (ie_var 4) ie_int))))
    (is_cons (is_if (it_w (iw_or (it_not (it_val (ie_callF (fn__law_same T 8) (hr.mono (by decide)) (takes_of rfl rfl rfl rfl) (ia_cons (ie_callF (fn_common T) (hr.mono (by decide)) (takes_of rfl rfl rfl rfl) (ia_cons (ie_var 7) (ia_cons (ie_var 8) ia_nil))) (ia_cons (ie_slice (ie_var 7) (io_some (ie_sub (ie_len rfl T.n_len (ia_cons (ie_var 7) ia_nil)) (ie_var 4))) io_none) ia_nil))))) (iw_or1 (it_ne hr (ie_callFKP (fn_compared T) (hr.mono (by decide)) (takes_of rfl rfl rfl rfl) T.k_compared_1_0 (ik_cons (ie_var 8) (ik_cons (ie_var 7) ik_nil))) (ie_var 3)))))
    (is_one (is_ret ie_bl))
    is_nil)
    (is_cons (is_if (it_w (iw_or (it_ne hr (ie_callFKP (fn_common T) (hr.mono (by decide)) (takes_of rfl rfl rfl rfl) T.k_common_1_0 (ik_cons (ie_var 8) (ik_cons (ie_var 7) ik_nil))) (ie_callF (fn_common T) (hr.mono (by decide)) (takes_of rfl rfl rfl rfl) (ia_cons (ie_var 7) (ia_cons (ie_var 8) ia_nil)))) (iw_or1 (it_ne hr (ie_callFK (fn_size T) (hr.mono (by decide)) (takes_of rfl rfl rfl rfl) T.k_size (ik_cons (ie_var 7) ik_nil)) (ie_callF (fn__law_size T) (hr.mono (by decide)) (takes_of rfl rfl rfl rfl) (ia_cons (ie_var 7) ia_nil))))))
    (is_one (is_ret ie_bl))
    is_nil)
    (is_cons (is_if (it_not (it_val (ie_callF (fn__law_same T 8) (hr.mono (by decide)) (takes_of rfl rfl rfl rfl) (ia_cons (ie_callFKP (fn_is_under T) (hr.mono (by decide)) (takes_of rfl rfl rfl rfl) T.k_is_under_1_0 (ik_cons (ie_var 8) (ik_cons (ie_var 7) ik_nil))) (ia_cons (ie_eq hr (ie_var 4) (ie_len rfl T.n_len (ia_cons (ie_var 8) ia_nil))) ia_nil)))))
    (is_one (is_ret ie_bl))
    is_nil)
    (is_cons (is_if (it_w (iw_and (it_eq hr (ie_var 4) (ie_len rfl T.n_len (ia_cons (ie_var 8) ia_nil))) (iw_and1 (it_ne hr (ie_callFKP (fn_labels_ahead T) (hr.mono (by decide)) (takes_of rfl rfl rfl rfl) T.k_labels_ahead_1_0 (ik_cons (ie_var 8) (ik_cons (ie_var 7) ik_nil))) (ie_slice (ie_var 7) io_none (io_some (ie_sub (ie_len rfl T.n_len (ia_cons (ie_var 7) ia_nil)) (ie_var 4))))))))
    (is_one (is_ret ie_bl))
    is_nil)
    (is_cons (is_set (i := 5) ExOk.none sc__law_pairs_right.nd rfl (.inl rfl) (ie_eq hr (ie_var 4) (ie_len rfl T.n_len (ia_cons (ie_var 8) ia_nil))))
    (is_cons (is_set (i := 6) ExOk.none sc__law_pairs_right.nd rfl (.inl rfl) (ie_tup (ia_cons ie_str (ia_cons (ie_var 7) ia_nil))))
    (is_cons (is_if (it_val (ie_var 5))
    (is_one (is_set (i := 6) ExOk.none sc__law_pairs_right.nd rfl (.inl rfl) (ie_tup (ia_cons ie_str (ia_cons (ie_slice (ie_var 7) io_none (io_some (ie_sub (ie_len rfl T.n_len (ia_cons (ie_var 7) ia_nil)) (ie_var 4)))) ia_nil)))))
    is_nil)
    (is_one (is_if (it_w (iw_or (it_not (it_val (ie_callF (fn__law_same T 8) (hr.mono (by decide)) (takes_of rfl rfl rfl rfl) (ia_cons (ie_callF (fn_is_under T) (hr.mono (by decide)) (takes_of rfl rfl rfl rfl) (ia_cons (ie_var 7) (ia_cons (ie_var 8) ia_nil))) (ia_cons (ie_var 5) ia_nil))))) (iw_or1 (it_not (it_val (ie_callF (fn__law_same T 8) (hr.mono (by decide)) (takes_of rfl rfl rfl rfl) (ia_cons (ie_callF (fn__law_labels_ahead T) (hr.mono (by decide)) (takes_of rfl rfl rfl rfl) (ia_cons (ie_var 7) (ia_cons (ie_var 8) ia_nil))) (ia_cons (ie_var 6) ia_nil))))))))
    (is_one (is_ret ie_bl))
    is_nil)))))))))))))))))
    (is_one (is_ret ie_bl)))), T.D__law_pairs_right.m, T.D__law_pairs_right.F.kp, T.D__law_pairs_right.b⟩
/-! _law_refused -/
theorem sc__law_refused : FnScope ["_law_way", "_law_one", "_law_other", "_law_found", "error"] ["_law_way", "_law_one", "_law_other"] (defScope (top 46)) := ⟨rfl, rfl, rfl, by decide +kernel, rfl, by decide +kernel, by decide +kernel⟩
def b__law_refused : DS := (sSeq (sAsg (dLst dNil) (tName 3))
    (sSeq (sTryAs 4 (sSeq (sIf (dBool (dOp eqW (dVar 0) (dC (.int 0))))
    (sExpr (dCall 2 d_is_under (dCons (dVar 1) (dCons (dVar 2) dNil))))
    sNil)
    (sSeq (sIf (dBool (dOp eqW (dVar 0) (dC (.int 1))))
    (sExpr (dCall 2 d_labels_ahead (dCons (dVar 1) (dCons (dVar 2) dNil))))
    sNil)
    (sSeq (sIf (dBool (dOp eqW (dVar 0) (dC (.int 2))))
    (sExpr (dCall 2 d_common (dCons (dVar 1) (dCons (dVar 2) dNil))))
    sNil)
    (sSeq (sIf (dBool (dOp eqW (dVar 0) (dC (.int 3))))
    (sExpr (dCall 2 d_compared (dCons (dVar 1) (dCons (dVar 2) dNil))))
    sNil)
    (sSeq (sIf (dBool (dOp eqW (dVar 0) (dC (.int 4))))
    (sExpr (dCall 2 d_neighbours (dCons (dVar 1) (dCons (dVar 2) dNil))))
    sNil)
    (sSeq (sIf (dBool (dOp eqW (dVar 0) (dC (.int 5))))
    (sExpr (dCall 1 d_ordered (dCons (dVar 1) dNil)))
    sNil)
    (sSeq (sIf (dBool (dOp eqW (dVar 0) (dC (.int 6))))
    (sExpr (dCall 1 d_first (dCons (dVar 1) dNil)))
    sNil)
    (sIf (dBool (dOp eqW (dVar 0) (dC (.int 7))))
    (sExpr (dCall 1 d_size (dCons (dVar 1) dNil)))
    sNil)))))))) (subL [("TreeError", false), ("InvalidName", true), ("OutOfZone", false), ("Unreadable", false)]) (fun cN wv => (sAsg (dLst (dCons (dExc wv) (dCons (dOrV (dIsExc [("TreeError", false), ("InvalidName", false), ("OutOfZone", true), ("Unreadable", false)] cN) (dIsExc [("TreeError", false), ("InvalidName", false), ("OutOfZone", false), ("Unreadable", true)] cN)) dNil))) (tName 3))))
    (sRet (dVar 3))))
def d__law_refused : List W → Store → Res W := fnDen 5 b__law_refused
def fn__law_refused (T : Txt P w K mg base) : FnF P w K mg base "_law_refused" ["_law_way", "_law_one", "_law_other"] 13 3 d__law_refused :=
  ⟨T.D__law_refused.f, T.D__law_refused.fd, fn_ok (k := 12) T.D__law_refused.F sc__law_refused (fun cdv A outer s H E hr => (is_cons (is_set (i := 3) ExOk.none sc__law_refused.nd rfl (.inl rfl) (ie_lst ia_nil))
    (is_cons (is_try_as (i := 4) rfl rfl sc__law_refused.nd rfl rfl ⟨rfl, by decide, .inl T.E_InvalidName.T.mgC⟩ (takes_of rfl rfl rfl rfl) (fun Wb pnb xeb tkb hpb => (is_cons (is_if (it_eq hr (ie_var 0) ie_int)
    (is_one (is_expr (ie_callF (fn_is_under T) (hr.mono (by decide)) tkb (ia_cons (ie_var 1) (ia_cons (ie_var 2) ia_nil)))))
    is_nil)
    (is_cons (is_if (it_eq hr (ie_var 0) ie_int)
    (is_one (is_expr (ie_callF (fn_labels_ahead T) (hr.mono (by decide)) tkb (ia_cons (ie_var 1) (ia_cons (ie_var 2) ia_nil)))))
    is_nil)
    (is_cons (is_if (it_eq hr (ie_var 0) ie_int)
    (is_one (is_expr (ie_callF (fn_common T) (hr.mono (by decide)) tkb (ia_cons (ie_var 1) (ia_cons (ie_var 2) ia_nil)))))
    is_nil)
    (is_cons (is_if (it_eq hr (ie_var 0) ie_int)
    (is_one (is_expr (ie_callF (fn_compared T) (hr.mono (by decide)) tkb (ia_cons (ie_var 1) (ia_cons (ie_var 2) ia_nil)))))
    is_nil)
    (is_cons (is_if (it_eq hr (ie_var 0) ie_int)
    (is_one (is_expr (ie_callF (fn_neighbours T) (hr.mono (by decide)) tkb (ia_cons (ie_var 1) (ia_cons (ie_var 2) ia_nil)))))
    is_nil)
    (is_cons (is_if (it_eq hr (ie_var 0) ie_int)
    (is_one (is_expr (ie_callF (fn_ordered T) (hr.mono (by decide)) tkb (ia_cons (ie_var 1) ia_nil))))
    is_nil)
    (is_cons (is_if (it_eq hr (ie_var 0) ie_int)
    (is_one (is_expr (ie_callF (fn_first T) (hr.mono (by decide)) tkb (ia_cons (ie_var 1) ia_nil))))
    is_nil)
    (is_one (is_if (it_eq hr (ie_var 0) ie_int)
    (is_one (is_expr (ie_callF (fn_size T) (hr.mono (by decide)) tkb (ia_cons (ie_var 1) ia_nil))))
    is_nil)))))))))) (subL_ok (l := [("TreeError", false), ("InvalidName", true), ("OutOfZone", false), ("Unreadable", false)]) T.sub_InvalidName) (fun cN C dd a y wv oe pn hsN hmN xf nv hz hfv => (is_one (is_set (i := 3) (fun x h => by cases h; show (4 : Nat) ≠ 3; decide) sc__law_refused.nd rfl (.inl rfl) (ie_lst (ia_cons (ie_exc xf nv hz hfv rfl (.inl rfl)) (ia_cons (ie_or (ie_isExc (l := [("TreeError", false), ("InvalidName", false), ("OutOfZone", true), ("Unreadable", false)]) rfl T.n_isinstance xf T.xc_OutOfZone hmN hsN hz hfv rfl (.inl rfl) (pe_glob (v := .ref T.E_OutOfZone.C) rfl T.E_OutOfZone.T.mgC rfl) (fun u h => h)) (ie_one (ie_isExc (l := [("TreeError", false), ("InvalidName", false), ("OutOfZone", false), ("Unreadable", true)]) rfl T.n_isinstance xf T.xc_Unreadable hmN hsN hz hfv rfl (.inl rfl) (pe_glob (v := .ref T.E_Unreadable.C) rfl T.E_Unreadable.T.mgC rfl) (fun u h => h)))) ia_nil)))))))
    (is_one (is_ret (ie_var 3)))))), T.D__law_refused.m, T.D__law_refused.F.kp, T.D__law_refused.b⟩
/-! _law_refusals_right -/
theorem sc__law_refusals_right : FnScope ["_law_pot_here", "_law_words_here", "_law_good", "_law_due", "_law_at", "_law_some", "_law_way", "_law_bad", "_law_worse", "_law_k"] ["_law_pot_here", "_law_words_here"] (defScope (top 47)) := ⟨rfl, rfl, rfl, by decide +kernel, rfl, by decide +kernel, by decide +kernel⟩
def b__law_refusals_right : DS := (sSeq (sAsg (dLc (dRange1 (dCons (dOp addW (dC (.int 1)) (dCall 2 d__law_take (dCons (dVar 0) (dCons (dC (.int 4)) dNil)))) dNil)) [9] (tName 9) dYes (dCall 2 d__law_name (dCons (dVar 0) (dCons (dVar 1) dNil)))) (tName 2))
    (sSeq (sPar 7 8 (dCons (dCall 1 d__law_odd (dCons (dVar 0) dNil)) (dCons (dCall 1 d__law_odd (dCons (dVar 0) dNil)) dNil)))
    (sSeq (sAsg (dLst (dCons (dVar 7) (dCons (dC (.bl false)) dNil))) (tName 3))
    (sSeq (sAsg (dCall 2 d__law_take (dCons (dVar 0) (dCons (dOp addW (dApp lenW (dCons (dVar 2) dNil)) (dC (.int 1))) dNil))) (tName 4))
    (sSeq (sAsg (dOp addW (dOp addW (dOp addW (dSl (dVar 2) dNoPart (dPart (dVar 4))) (dLst (dCons (dVar 7) dNil))) (dSl (dLst (dCons (dOp ixW (dVar 2) (dC (.int 0))) (dCons (dVar 8) dNil))) (dPart (dCall 2 d__law_take (dCons (dVar 0) (dCons (dC (.int 2)) dNil)))) dNoPart)) (dSl (dVar 2) (dPart (dVar 4)) dNoPart)) (tName 5))
    (sSeq (sFor (dRange1 (dCons (dC (.int 4)) dNil)) (tName 6)
    (sSeq (sIf (dOr (dBool (dOp neW (dCall 3 d__law_refused (dCons (dVar 6) (dCons (dVar 7) (dCons (dOp ixW (dVar 2) (dC (.int 0))) dNil)))) (dVar 3))) (dBool (dOp neW (dCall 3 d__law_refused (dCons (dVar 6) (dCons (dOp ixW (dVar 2) (dC (.int 0))) (dCons (dVar 7) dNil)))) (dVar 3))))
    (sRet (dC (.bl false)))
    sNil)
    (sIf (dBool (dOp neW (dCall 3 d__law_refused (dCons (dVar 6) (dCons (dVar 7) (dCons (dVar 8) dNil)))) (dVar 3)))
    (sRet (dC (.bl false)))
    sNil)))
    (sSeq (sIf (dOr (dBool (dOp neW (dCall 3 d__law_refused (dCons (dC (.int 4)) (dCons (dVar 5) (dCons (dVar 8) dNil)))) (dVar 3))) (dBool (dOp neW (dCall 3 d__law_refused (dCons (dC (.int 4)) (dCons (dVar 2) (dCons (dVar 7) dNil)))) (dVar 3))))
    (sRet (dC (.bl false)))
    sNil)
    (sRet (dAndV (dApp allW (dCons (dLc (dRange2 (dCons (dC (.int 5)) (dCons (dC (.int 7)) dNil))) [6] (tName 6) dYes (dOp eqW (dCall 3 d__law_refused (dCons (dVar 6) (dCons (dVar 5) (dCons (dTup dNil) dNil)))) (dVar 3))) dNil)) (dOp eqW (dCall 3 d__law_refused (dCons (dC (.int 7)) (dCons (dVar 7) (dCons (dTup dNil) dNil)))) (dVar 3)))))))))))
def d__law_refusals_right : List W → Store → Res W := fnDen 10 b__law_refusals_right
def fn__law_refusals_right (T : Txt P w K mg base) : FnF P w K mg base "_law_refusals_right" ["_law_pot_here", "_law_words_here"] 14 2 d__law_refusals_right :=
  ⟨T.D__law_refusals_right.f, T.D__law_refusals_right.fd, fn_ok (k := 13) T.D__law_refusals_right.F sc__law_refusals_right (fun cdv A outer s H E hr => (is_cons (is_setLc (i := 2) (own := [("_law_k", 9)]) rfl sc__law_refusals_right.nd rfl rfl (sw_true rfl rfl rfl (by decide +kernel)) (ii_range1 rfl T.n_range (ia_cons (ie_add ie_int (ie_callF (fn__law_take T) (hr.mono (by decide)) (takes_of rfl rfl rfl rfl) (ia_cons (ie_var 0) (ia_cons ie_int ia_nil)))) ia_nil)) (blkOk_by (N := ["_law_pot_here", "_law_words_here", "_law_good", "_law_due", "_law_at", "_law_some", "_law_way", "_law_bad", "_law_worse", "_law_k"]) (sc := defScope (top 47)) (own := [("_law_k", 9)]) (by decide +kernel)) (fun _ _ _ _ _ => (ig_name (i := 9) (by decide) ExOk.none sc__law_refusals_right.nd rfl (.inl rfl))) (fun _ _ _ _ _ => (ie_callF (fn__law_name T) (hr.mono (by decide)) takes0 (ia_cons (ie_var 0) (ia_cons (ie_var 1) ia_nil)))))
    (is_cons (is_par (i := 7) (j := 8) rfl sc__law_refusals_right.nd rfl rfl (by decide) rfl rfl ExOk.none ExOk.none (ia_cons (ie_callF (fn__law_odd T) (hr.mono (by decide)) (takes_of rfl rfl rfl rfl) (ia_cons (ie_var 0) ia_nil)) (ia_cons (ie_callF (fn__law_odd T) (hr.mono (by decide)) (takes_of rfl rfl rfl rfl) (ia_cons (ie_var 0) ia_nil)) ia_nil)))
    (is_cons (is_set (i := 3) ExOk.none sc__law_refusals_right.nd rfl (.inr rfl) (ie_lst (ia_cons (ie_var 7) (ia_cons ie_bl ia_nil))))
    (is_cons (is_set (i := 4) ExOk.none sc__law_refusals_right.nd rfl (.inl rfl) (ie_callF (fn__law_take T) (hr.mono (by decide)) (takes_of rfl rfl rfl rfl) (ia_cons (ie_var 0) (ia_cons (ie_add (ie_len rfl T.n_len (ia_cons (ie_var 2) ia_nil)) ie_int) ia_nil))))
    (is_cons (is_set (i := 5) ExOk.none sc__law_refusals_right.nd rfl (.inr rfl) (ie_add (ie_add (ie_add (ie_slice (ie_var 2) io_none (io_some (ie_var 4))) (ie_lst (ia_cons (ie_var 7) ia_nil))) (ie_slice (ie_lst (ia_cons (ie_ix (ie_var 2) ie_int) (ia_cons (ie_var 8) ia_nil))) (io_some (ie_callF (fn__law_take T) (hr.mono (by decide)) (takes_of rfl rfl rfl rfl) (ia_cons (ie_var 0) (ia_cons ie_int ia_nil)))) io_none)) (ie_slice (ie_var 2) (io_some (ie_var 4)) io_none)))
    (is_cons (is_for (vs := [6]) (passes_of rfl) rfl (ii_range1 rfl T.n_range (ia_cons ie_int ia_nil)) (ig_name (i := 6) (by decide) ExOk.none sc__law_refusals_right.nd rfl (.inl rfl))
    (is_cons (is_if (it_w (iw_or (it_ne hr (ie_callF (fn__law_refused T) (hr.mono (by decide)) (takes_of rfl rfl rfl rfl) (ia_cons (ie_var 6) (ia_cons (ie_var 7) (ia_cons (ie_ix (ie_var 2) ie_int) ia_nil)))) (ie_var 3)) (iw_or1 (it_ne hr (ie_callF (fn__law_refused T) (hr.mono (by decide)) (takes_of rfl rfl rfl rfl) (ia_cons (ie_var 6) (ia_cons (ie_ix (ie_var 2) ie_int) (ia_cons (ie_var 7) ia_nil)))) (ie_var 3)))))
    (is_one (is_ret ie_bl))
    is_nil)
    (is_one (is_if (it_ne hr (ie_callF (fn__law_refused T) (hr.mono (by decide)) (takes_of rfl rfl rfl rfl) (ia_cons (ie_var 6) (ia_cons (ie_var 7) (ia_cons (ie_var 8) ia_nil)))) (ie_var 3))
    (is_one (is_ret ie_bl))
    is_nil))))
    (is_cons (is_if (it_w (iw_or (it_ne hr (ie_callF (fn__law_refused T) (hr.mono (by decide)) (takes_of rfl rfl rfl rfl) (ia_cons ie_int (ia_cons (ie_var 5) (ia_cons (ie_var 8) ia_nil)))) (ie_var 3)) (iw_or1 (it_ne hr (ie_callF (fn__law_refused T) (hr.mono (by decide)) (takes_of rfl rfl rfl rfl) (ia_cons ie_int (ia_cons (ie_var 2) (ia_cons (ie_var 7) ia_nil)))) (ie_var 3)))))
    (is_one (is_ret ie_bl))
    is_nil)
    (is_one (is_ret (ie_and (ie_all rfl rfl T.n_all (ia_cons (ie_lc (own := [("_law_way", 6)]) rfl sc__law_refusals_right.nd (ii_range2 rfl T.n_range (ia_cons ie_int (ia_cons ie_int ia_nil))) (blkOk_by (N := ["_law_pot_here", "_law_words_here", "_law_good", "_law_due", "_law_at", "_law_some", "_law_way", "_law_bad", "_law_worse", "_law_k"]) (sc := defScope (top 47)) (own := [("_law_way", 6)]) (by decide +kernel)) (fun _ _ _ _ _ => (ig_name (i := 6) (by decide) ExOk.none sc__law_refusals_right.nd rfl (.inl rfl))) (fun _ _ _ _ _ => (ie_eq hr (ie_callF (fn__law_refused T) (hr.mono (by decide)) takes0 (ia_cons (ie_var 6) (ia_cons (ie_var 5) (ia_cons (ie_tup ia_nil) ia_nil)))) (ie_var 3)))) ia_nil)) (ie_one (ie_eq hr (ie_callF (fn__law_refused T) (hr.mono (by decide)) (takes_of rfl rfl rfl rfl) (ia_cons ie_int (ia_cons (ie_var 7) (ia_cons (ie_tup ia_nil) ia_nil)))) (ie_var 3)))))))))))))), T.D__law_refusals_right.m, T.D__law_refusals_right.F.kp, T.D__law_refusals_right.b⟩
/-! law -/
theorem sc_law : FnScope ["_law_script", "_law_k", "_law_pot_here", "_law_words_here"] ["_law_script"] (defScope (top 48)) := ⟨rfl, rfl, rfl, by decide +kernel, rfl, by decide +kernel, by decide +kernel⟩
def b_law : DS := (sSeq (sFor (dRange1 (dCons (dApp maxW (dCons (dC (.int 1)) (dCons (dApp minW (dCons (dC (.int 4)) (dCons (dApp lenW (dCons (dVar 0) dNil)) dNil))) dNil))) dNil)) (tName 1)
    (sSeq (sAsg (dCall 2 d__law_pot (dCons (dVar 0) (dCons (dVar 1) dNil))) (tName 2))
    (sSeq (sAsg (dCall 2 d__law_words (dCons (dVar 2) (dCons (dOp addW (dC (.int 3)) (dCall 2 d__law_take (dCons (dVar 2) (dCons (dC (.int 4)) dNil)))) dNil))) (tName 3))
    (sSeq (sIf (dOr (dNot (dBool (dCall 2 d__law_lists_right (dCons (dVar 2) (dCons (dVar 3) dNil))))) (dNot (dBool (dCall 2 d__law_pairs_right (dCons (dVar 2) (dCons (dVar 3) dNil))))))
    (sRet (dC (.bl false)))
    sNil)
    (sIf (dNot (dBool (dCall 2 d__law_refusals_right (dCons (dVar 2) (dCons (dVar 3) dNil)))))
    (sRet (dC (.bl false)))
    sNil)))))
    (sRet (dC (.bl true))))
def d_law : List W → Store → Res W := fnDen 4 b_law
def fn_law (T : Txt P w K mg base) : FnF P w K mg base "law" ["_law_script"] 15 1 d_law :=
  ⟨T.D_law.f, T.D_law.fd, fn_ok (k := 14) T.D_law.F sc_law (fun cdv A outer s H E hr => (is_cons (is_for (vs := [1]) (passes_of rfl) rfl (ii_range1 rfl T.n_range (ia_cons (ie_max rfl rfl T.n_max (ia_cons ie_int (ia_cons (ie_min rfl rfl T.n_min (ia_cons ie_int (ia_cons (ie_len rfl T.n_len (ia_cons (ie_var 0) ia_nil)) ia_nil))) ia_nil))) ia_nil)) (ig_name (i := 1) (by decide) ExOk.none sc_law.nd rfl (.inl rfl))
    (is_cons (is_set (i := 2) ExOk.none sc_law.nd rfl (.inl rfl) (ie_callF (fn__law_pot T) (hr.mono (by decide)) (takes_of rfl rfl rfl rfl) (ia_cons (ie_var 0) (ia_cons (ie_var 1) ia_nil))))
    (is_cons (is_set (i := 3) ExOk.none sc_law.nd rfl (.inl rfl) (ie_callF (fn__law_words T) (hr.mono (by decide)) (takes_of rfl rfl rfl rfl) (ia_cons (ie_var 2) (ia_cons (ie_add ie_int (ie_callF (fn__law_take T) (hr.mono (by decide)) (takes_of rfl rfl rfl rfl) (ia_cons (ie_var 2) (ia_cons ie_int ia_nil)))) ia_nil))))
    (is_cons (is_if (it_w (iw_or (it_not (it_val (ie_callF (fn__law_lists_right T) (hr.mono (by decide)) (takes_of rfl rfl rfl rfl) (ia_cons (ie_var 2) (ia_cons (ie_var 3) ia_nil))))) (iw_or1 (it_not (it_val (ie_callF (fn__law_pairs_right T) (hr.mono (by decide)) (takes_of rfl rfl rfl rfl) (ia_cons (ie_var 2) (ia_cons (ie_var 3) ia_nil))))))))
    (is_one (is_ret ie_bl))
    is_nil)
    (is_one (is_if (it_not (it_val (ie_callF (fn__law_refusals_right T) (hr.mono (by decide)) (takes_of rfl rfl rfl rfl) (ia_cons (ie_var 2) (ia_cons (ie_var 3) ia_nil)))))
    (is_one (is_ret ie_bl))
    is_nil))))))
    (is_one (is_ret ie_bl)))), T.D_law.m, T.D_law.F.kp, T.D_law.b⟩
end
end
end K02
namespace K02
open PySem PySem.Spec PyProof.Rows L2 MP
open Classical
noncomputable section
def IN : List Nat := c_INNER.cps.toList
def EN : List Nat := c_ENDS.cps.toList
def plainB (x : Str) : Bool := decide (1 ≤ x.length) && decide (x.length ≤ 20) && x.cps.toList.all (fun c => decide (c ∈ IN)) && decide (fst0 x ∈ EN) && decide (lst0 x ∈ EN)
theorem strip_all {x y : Str} : (Txt.stripChars x y == ("" : Str)) = x.cps.toList.all (fun c => decide (c ∈ y.cps.toList)) := by
  rw [PySem.Txt.stripChars.eq_1, stripBy_eq]
  have key : ∀ (g : Nat → Bool) (l : List Nat), (∀ c ∈ l, g c = true) ↔ l.takeWhile g = l := fun g l => by
    induction l with
    | nil => simp
    | cons a l ih =>
      by_cases h : g a = true
      · rw [List.takeWhile_cons_of_pos h]; simp [h, ih]
      · rw [List.takeWhile_cons_of_neg h]; simp [h]
  have ec : ∀ c, y.cps.contains c = decide (c ∈ y.cps.toList) := fun c => by
    rw [Bool.eq_iff_iff]; simp
  have hall : x.cps.toList.all (fun c => decide (c ∈ y.cps.toList)) = x.cps.toList.all y.cps.contains := by
    congr 1; funext c; exact (ec c).symm
  rw [hall]
  generalize y.cps.contains = g
  unfold PySem.stripLo PySem.stripHi
  simp only [if_true]
  rw [Bool.eq_iff_iff, beq_iff_eq, List.all_eq_true]
  unfold PySem.Builtin.Str.strSub
  have hlen : x.length = x.cps.toList.length := by simp [Str.length]
  constructor
  · intro h
    have h' : (x.cps.extract (List.takeWhile g x.cps.toList).length (x.length - (List.takeWhile g (List.drop (List.takeWhile g x.cps.toList).length x.cps.toList).reverse).length)).size = 0 := by
      exact (congrArg (fun s : Str => s.cps.size) h).trans rfl
    rw [Array.size_extract] at h'
    rw [key]
    -- the rest behind the left run
    have hsplit := List.takeWhile_append_dropWhile (p := g) (l := x.cps.toList)
    have hd : List.drop (List.takeWhile g x.cps.toList).length x.cps.toList = List.dropWhile g x.cps.toList := by
      conv => lhs; arg 2; rw [← hsplit]
      rw [List.drop_left]
    rw [hd] at h'
    have hL : (List.takeWhile g x.cps.toList).length + (List.dropWhile g x.cps.toList).length = x.length := by
      rw [hlen, ← List.length_append, hsplit]
    cases hD : List.dropWhile g x.cps.toList with
    | nil => rw [hD, List.append_nil] at hsplit; exact hsplit
    | cons a r =>
      exfalso
      have ha : g a = false := by
        have := List.head_dropWhile_not g (l := x.cps.toList) (by rw [hD]; simp)
        simpa [hD] using this
      rw [hD] at h' hL
      have h2 : (List.takeWhile g (a :: r).reverse).length ≤ r.length := by
        rw [List.reverse_cons, List.takeWhile_append]
        split
        · rw [List.takeWhile_cons_of_neg (by simp [ha])]; simp
        · rename_i hn
          have := (List.takeWhile_sublist (p := g) (l := r.reverse)).length_le
          simpa using this
      have hs : x.cps.size = x.length := rfl
      simp only [List.length_cons] at hL
      omega
  · intro h
    have e := (key g _).mp h
    rw [e]
    have h0 : ∀ (k : Nat), x.cps.extract x.cps.toList.length k = #[] := fun k => by
      apply Array.eq_empty_of_size_eq_zero
      rw [Array.size_extract]
      have : x.cps.toList.length = x.cps.size := by simp
      omega
    exact congrArg Str.mk (h0 _)
theorem len_in {c : Nat} (h : c ∈ IN) : c < 128 := by
  have : ∀ c ∈ IN, c < 128 := by decide +kernel
  exact this c h
theorem en_in : ∀ c ∈ IN, (c ∈ EN ↔ c ≠ 45) := by decide +kernel
section
variable {st : Store} {i j : Int}
end
theorem ok_wild : okS c_WILD = true := by decide +kernel
theorem plain_ok {x : Str} {st : Store} (h : okS x = true) : d__is_plain [.str x] st = .ok (.bl (plainB x)) st := by
  unfold d__is_plain; rw [fnDen_ap]; unfold b__is_plain
  by_cases h1 : 1 ≤ x.length
  · by_cases h2 : x.length ≤ 20
    · obtain ⟨c, hc, hm, e⟩ := ix_str (x := x) (i := 0) (okS.line h) (by decide) (by omega)
      obtain ⟨t, ht, hmt, e'⟩ := ix_strL (x := x) (okS.line h) (by omega)
      have hn1 : ¬ (x.length : Int) < 1 := by omega
      have s1 : stripW (.str x) [.str c_INNER] st = .ok (.str (Txt.stripChars x c_INNER)) st := by unfold stripW; simp only [if_pos (okS.line h)]
      have hp : plainB x = (x.cps.toList.all (fun c => decide (c ∈ IN)) && (decide (c ∈ EN) && decide (t ∈ EN))) := by
        unfold plainB
        rw [fst0_of hc, lst0_of ht, decide_eq_true h1, decide_eq_true h2, Bool.and_assoc, Bool.true_and, Bool.true_and]
      have l1 : (decide ((1 : Int) ≤ (x.length : Int))) = true := decide_eq_true (by omega)
      have l2 : (decide ((x.length : Int) ≤ 20)) = true := decide_eq_true (by omega)
      have hs : (Txt.stripChars x c_INNER == ("" : Str)) = x.cps.toList.all (fun c => decide (c ∈ IN)) := strip_all
      have e1 : inW false (.str ⟨#[c]⟩) (.str c_ENDS) st = .ok (.bl (decide (c ∈ EN))) st := in_sign
      have e2 : inW false (.str ⟨#[t]⟩) (.str c_ENDS) st = .ok (.bl (decide (t ∈ EN))) st := in_sign
      rw [hp]
      generalize x.cps.toList.all (fun c => decide (c ∈ IN)) = A at hs ⊢
      generalize decide (c ∈ EN) = B at e1 ⊢
      generalize decide (t ∈ EN) = C at e2 ⊢
      simp [len_str (okS.line h), l1, l2, s1, eqW_str (okS.strip h) ok_nil, hs]
      cases A with
      | false => simp
      | true =>
        simp [e, e', e1, e2]
        cases B <;> simp [e, e', e1, e2]
    · have hp : plainB x = false := by unfold plainB; simp [h2]
      have l1 : (decide ((1 : Int) ≤ (x.length : Int))) = true := decide_eq_true (by omega)
      have l2 : (decide ((x.length : Int) ≤ 20)) = false := decide_eq_false (by omega)
      rw [hp]
      simp [len_str (okS.line h), l1, l2]
  · have hp : plainB x = false := by unfold plainB; simp [h1]
    have l1 : (decide ((1 : Int) ≤ (x.length : Int))) = false := decide_eq_false (by omega)
    rw [hp]
    simp [len_str (okS.line h), l1]
def labB (u : W) : Bool := match u with
  | .str x => x == ("*" : Str) || plainB x
  | _ => false
theorem gd_in : ∀ c, c ∈ GD ↔ c ∈ IN := fun c => ⟨fun h => (by decide +kernel : ∀ c ∈ GD, c ∈ IN) c h, fun h => (by decide +kernel : ∀ c ∈ IN, c ∈ GD) c h⟩
theorem plain_law {x : Str} (h1 : 1 ≤ x.length) (h2 : x.length ≤ 20) : plainB x = (x.cps.toList.all (fun c => decide (c ∈ GD)) && (!(fst0 x == 45) && !(lst0 x == 45))) := by
  unfold plainB
  rw [decide_eq_true h1, decide_eq_true h2]
  have hl : x.cps.toList.length = x.length := by simp [Str.length]
  have e : x.cps.toList.all (fun c => decide (c ∈ GD)) = x.cps.toList.all (fun c => decide (c ∈ IN)) := by
    congr 1; funext c; simp only [gd_in c]
  rw [e]
  cases h : x.cps.toList.all (fun c => decide (c ∈ IN)) with
  | false => rfl
  | true =>
    rw [List.all_eq_true] at h
    have hf : ∀ i, i < x.cps.toList.length → decide ((x.cps.toList[i]?).getD 0 ∈ EN) = !((x.cps.toList[i]?).getD 0 == 45) := fun i hi => by
      rw [List.getElem?_eq_getElem hi, Option.getD_some]
      have hm := en_in _ (of_decide_eq_true (h _ (List.getElem_mem hi)))
      by_cases hx : x.cps.toList[i] = 45
      · rw [decide_eq_false (fun z => hm.mp z hx), hx]; rfl
      · rw [decide_eq_true (hm.mpr hx), beq_false_of_ne hx]; rfl
    have f1 := hf 0 (by omega)
    have f2 := hf (x.length - 1) (by omega)
    unfold fst0 lst0
    rw [f1, f2]; simp
def plS : W → Bool | .str x => plainB x | _ => false
def askB : W → Bool | .tup ws => ws.all plS | _ => false
def hdS : List W → Bool | .str x :: _ => x == c_WILD | _ => false
def nameB : W → Bool | .tup ws => (if hdS ws = true then ws.drop 1 else ws).all plS | _ => false
theorem asked_ok {w u : W} {st : Store} (h : Pic st w u) : d_is_asked [w] st = .ok (.bl (askB u)) st := by
  unfold d_is_asked; rw [fnDen_ap]; unfold b_is_asked
  cases u with
  | tup ws =>
    cases h with
    | pu _ h =>
      obtain ⟨hl, hi⟩ := pu_items h
      have kl := kLc_mapB (env := [some (.tup ws), none]) (i := 1) (e := dAndV (dApp isiW (dCons (dVar 1) (dCons (dC (.gl (.ty "str"))) dNil))) (dCall 1 d__is_plain (dCons (dVar 1) dNil))) (st := st) (src := none) (fun w : W => w) (fun w => W.bl (plS w)) ws (by simp) (fun b hb => by
        have hp : pu b := puB_mono (hi b hb) (by decide)
        simp [pic_isS (.pu b hp)]
        cases b with
        | str x => simp [isS, plain_ok (x := x) hp, plS]
        | _ => simp [isS, plS]) (Nat.le_trans hl (by decide))
      have hal := all_here (st := st) (l := ws) (g := plS)
      rw [List.map_id'] at kl
      simp [pic_isT (.pu (st := st) _ h), isT, wipeW, kl, hal]
      rfl
  | _ => simp [pic_isT h, isT, askB]
theorem name_ok {w u : W} {st : Store} (h : Pic st w u) : d_is_name [w] st = .ok (.bl (nameB u)) st := by
  unfold d_is_name; rw [fnDen_ap]; unfold b_is_name
  cases u with
  | tup ws =>
    cases h with
    | pu _ h =>
      have hh : eqW (.tup (ws.take 1)) (.tup [.str c_WILD]) st = .ok (.bl (hdS ws)) st := by
        rw [head_ok h ok_wild]; congr 2
      have hd : pu (.tup (ws.drop 1)) := pu_sub h _ (fun w m => List.mem_of_mem_drop m) (by simp)
      have a1 := asked_ok (.pu (st := st) _ hd)
      have a2 := asked_ok (.pu (st := st) _ h)
      have hn : nameB (.tup ws) = (if hdS ws = true then ws.drop 1 else ws).all plS := rfl
      rw [hn]
      simp [-List.drop_one, pic_isT (.pu (st := st) _ h), isT, tup_one, hh]
      cases hdS ws with
      | true => simp [-List.drop_one, a1]; rfl
      | false => simp [-List.drop_one, a2]; rfl
  | _ => simp [pic_isT h, isT, nameB]
theorem star_plain : plainB ("*" : Str) = false := by decide +kernel
theorem labs_strs : ∀ {ws : List W}, ws.all labB = true → ∃ xs : List Str, ws = xs.map W.str
  | [], _ => ⟨[], rfl⟩
  | w :: ws, h => by
    rw [List.all_cons, Bool.and_eq_true] at h
    obtain ⟨xs, rfl⟩ := labs_strs h.2
    cases w with
    | str x => exact ⟨x :: xs, rfl⟩
    | _ => exact nomatch (show false = true from h.1)
theorem lab_split (x : Str) : (labB (.str x) && !(x == ("*" : Str))) = plainB x := by
  show ((x == ("*" : Str) || plainB x) && _) = _
  cases h : (x == ("*" : Str)) with
  | true =>
    have : x = "*" := beq_iff_eq.mp h
    subst this
    rw [star_plain]; rfl
  | false => simp
theorem rebuilt_pu : ∀ (n : Nat) (w : W), puB n w = true → n ≤ 5 → ∀ (m : Nat) (st : Store), n ≤ m → d_rebuilt m [w] st = .ok w st
  | 0, _, h, _, _, _, _ => nomatch (show false = true from h)
  | n + 1, w, h, hn, 0, st, hm => by omega
  | n + 1, w, h, hn, m + 1, st, hm => by
    have hp : pu w := puB_mono h hn
    unfold d_rebuilt; rw [fnDen_ap]; unfold b_rebuilt
    cases w with
    | tup ws =>
      have h' : (decide (ws.length ≤ 8192) && ws.all (puB n)) = true := h
      rw [Bool.and_eq_true, decide_eq_true_iff, List.all_eq_true] at h'
      have kl := kLc_mapB (env := [some (.tup ws), none]) (i := 1) (e := dCall 1 (d_rebuilt m) (dCons (dVar 1) dNil)) (st := st) (src := none) (fun w : W => w) (fun w => w) ws (by simp) (fun b hb => by
        simp [rebuilt_pu n b (h'.2 b hb) (by omega) m st (by omega)]) (line8 h'.1)
      rw [List.map_id'] at kl
      have hg : gc st (.tup ws) (st ++ [.lst ws]) = .ok (.tup ws) st := gc_app (cl_pu _ 5 _ hp)
      have ht : tupleW [.loc st.length] (st ++ [.lst ws]) = .ok (.tup ws) (st ++ [.lst ws]) := by
        unfold tupleW lstW; simp
      simp [pic_isL (.pu (st := st) _ hp), pic_isT (.pu (st := st) _ hp), isT, isL, wipeW, kl, ht, hg]
    | str x => simp [pic_isL (.pu (st := st) _ hp), pic_isT (.pu (st := st) _ hp), isT, isL]
    | bl x => simp [pic_isL (.pu (st := st) _ hp), pic_isT (.pu (st := st) _ hp), isT, isL]
    | int x => simp [pic_isL (.pu (st := st) _ hp), pic_isT (.pu (st := st) _ hp), isT, isL, gc_same]
    | non => simp [pic_isL (.pu (st := st) _ hp), pic_isT (.pu (st := st) _ hp), isT, isL]
    | _ => exact nomatch (show false = true from h)
theorem rebuilt_ok {w u : W} {st : Store} (h : Pic st w u) : ∃ w' g, d_rebuilt 8 [w] st = .ok w' (st ++ g) ∧ Pic (st ++ g) w' u ∧ (∀ ws, u = .fro ws → w' = .loc st.length ∧ g = [.lst ws]) := by
  cases h with
  | pu _ h => exact ⟨w, [], by rw [rebuilt_pu 5 w h (by decide) 8 st (by decide), List.append_nil], .pu _ h, fun ws e => by subst e; exact nomatch (show false = true from h)⟩
  | ls k ws h hl hw =>
    refine ⟨.loc st.length, [.lst ws], ?_, .ls _ ws (by simp) hl hw, fun ws' e => by cases e; exact ⟨rfl, rfl⟩⟩
    have hP : Pic st (.loc k) (.fro ws) := .ls k ws h hl hw
    show d_rebuilt (7 + 1) [.loc k] st = _
    unfold d_rebuilt; rw [fnDen_ap]; unfold b_rebuilt
    have kl := kLc_mapB (env := [some (.loc k), none]) (i := 1) (e := dCall 1 (d_rebuilt 7) (dCons (dVar 1) dNil)) (st := st) (src := some k) (fun w : W => w) (fun w => w) ws (by simpa using h) (fun b hb => by
      simp [rebuilt_pu 5 b (hw b hb) (by decide) 7 st (by decide)]) (line8 hl)
    rw [List.map_id'] at kl
    have hg : gc st (.loc st.length) (st ++ [.lst ws]) = .ok (.loc st.length) (st ++ [.lst ws]) := gc_newA (Nat.le_refl _) (by simp) (cls_pu _ 5 ws hw)
    simp [pic_isL hP, isL, wipeW, itOf_loc h, kl, hg]
theorem name_strs {u : W} (h : nameB u = true) : ∃ xs : List Str, u = .tup (xs.map W.str) ∧ ∀ x ∈ xs, x.length ≤ 20 ∧ ¬ 46 ∈ x.cps.toList := by
  have pl : ∀ x, plainB x = true → x.length ≤ 20 ∧ ¬ 46 ∈ x.cps.toList := fun x hx => by
    unfold plainB at hx
    simp only [Bool.and_eq_true, decide_eq_true_eq, List.all_eq_true] at hx
    exact ⟨hx.1.1.1.2, fun z => by have := hx.1.1.2 46 z; revert this; decide +kernel⟩
  have all : ∀ ws : List W, ws.all plS = true → ∃ xs : List Str, ws = xs.map W.str ∧ ∀ x ∈ xs, x.length ≤ 20 ∧ ¬ 46 ∈ x.cps.toList := by
    intro ws
    induction ws with
    | nil => intro _; exact ⟨[], rfl, fun _ z => nomatch z⟩
    | cons w r ih =>
      intro h
      rw [List.all_cons, Bool.and_eq_true] at h
      obtain ⟨xs, rfl, hx⟩ := ih h.2
      cases w with
      | str x => exact ⟨x :: xs, rfl, fun y hy => by
          rcases List.mem_cons.mp hy with rfl | hy
          · exact pl _ h.1
          · exact hx y hy⟩
      | _ => exact nomatch (show false = true from h.1)
  cases u with
  | tup ws =>
    have h' : (if hdS ws = true then ws.drop 1 else ws).all plS = true := h
    by_cases hh : hdS ws = true
    · rw [if_pos hh] at h'
      obtain ⟨xs, e, hx⟩ := all _ h'
      cases ws with
      | nil => exact ⟨[], rfl, fun _ z => nomatch z⟩
      | cons w r =>
        cases w with
        | str x =>
          have hx' : x = c_WILD := beq_iff_eq.mp hh
          subst hx'
          refine ⟨c_WILD :: xs, ?_, fun y hy => ?_⟩
          · have e' : r = xs.map W.str := by simpa using e
            rw [e']; rfl
          · rcases List.mem_cons.mp hy with rfl | hy
            · decide +kernel
            · exact hx y hy
        | _ => exact nomatch (show false = true from hh)
    · rw [if_neg hh] at h'
      obtain ⟨xs, rfl, hx⟩ := all _ h'
      exact ⟨xs, rfl, hx⟩
  | _ => exact nomatch (show false = true from h)
def readB (t : Str) : Bool := lastDot t && nameB (.tup ((parts t).map W.str))
theorem same_bl {n : Nat} {a b : Bool} {st : Store} : d__law_same (n + 1) [.bl a, .bl b] st = .ok (.bl (a == b)) st := by
  unfold d__law_same; rw [fnDen_ap]; unfold b__law_same
  have h1 : isi2W "tuple" "list" (.bl b) st = .ok (.bl false) st := rfl
  have h2 : isNW (.bl b) .non st = .ok (.bl false) st := rfl
  have h3 : isiW [.bl b, .gl (.ty "bool")] st = .ok (.bl true) st := rfl
  have h4 : isiW [.bl a, .gl (.ty "bool")] st = .ok (.bl true) st := rfl
  simp -implicitDefEqProofs [h1, h2, h3, h4]
theorem same_seq {m : Nat} {a b : W} {T : String} {x y : Bool} {ws vs : List W} {st : Store} (ha : tyN st a = some T) (hb : tyN st b = some T) (hx : kitB T "tuple" = some x) (hy : kitB T "list" = some y) (hxy : (x || y) = true)
    (sa : seqW st a = some ws) (sb : seqW st b = some vs) (hl : ws.length = vs.length) (h8 : vs.length ≤ 8192) (hi : ∀ (i : Nat) (v w : W), ws[i]? = some v → vs[i]? = some w → d__law_same m [v, w] st = .ok (.bl true) st) :
    d__law_same (m + 1) [a, b] st = .ok (.bl true) st := by
  unfold d__law_same; rw [fnDen_ap]; unfold b__law_same
  have h1 : isi2W "tuple" "list" b st = .ok (.bl true) st := by rw [isi2_of hb hx hy, hxy]
  have h2 := isi_of hb hx
  have h3 := isi_of ha hx
  have h4 := isi_of hb hy
  have h5 := isi_of ha hy
  have h6 := len_seq sa
  have h7 := len_seq sb
  rw [hl] at h6
  have hk := kR1_ok (st := st) (j := (vs.length : Int)) (by have := Int.natCast_nonneg vs.length; exact Int.le_trans (by decide) this) (lt62 h8)
  rw [show intsW 0 ((vs.length : Int)).toNat = (List.range vs.length).map (fun i : Nat => W.int (0 + (i : Nat))) from rfl] at hk
  have kl := kLc_mapB (env := [some a, some b, none]) (i := 2) (e := dCall 2 (d__law_same m) (dCons (dOp ixW (dVar 0) (dVar 2)) (dCons (dOp ixW (dVar 1) (dVar 2)) dNil))) (st := st) (src := none) (fun i : Nat => W.int (0 + (i : Nat))) (fun _ => W.bl true) (List.range vs.length) (by simp) (fun i hm => by
    have hm := List.mem_range.mp hm
    obtain ⟨v, _, ev, e1⟩ := ix_mem (i := 0 + (i : Int)) sa (by omega) (by omega)
    obtain ⟨w, _, ew, e2⟩ := ix_mem (i := 0 + (i : Int)) sb (by omega) (by omega)
    have hr := hi _ v w ev ew
    simp only [dCall_ap, dCons_ap, dOp_ap, dVar_ap, List.set_cons_succ, List.set_cons_zero, List.getElem?_cons_zero, List.getElem?_cons_succ, Res.bind_ok, kOp1_ap, e1, e2, kCons1_ap, dNil_ap, kCons2_ap, kCall_2, hr]) (line8 (by simpa using h8))
  have hal := all_here (st := st) (l := List.range vs.length) (g := fun _ => true)
  have ht : (List.range vs.length).all (fun _ => true) = true := by simp
  rw [ht] at hal
  generalize List.map (fun x : Nat => W.bl true) (List.range vs.length) = LL at kl hal
  generalize List.map (fun i : Nat => W.int (0 + (i : Nat))) (List.range vs.length) = RR at kl hk
  simp -implicitDefEqProofs [h1, h2, h3, h4, h5, h6, h7, hk, wipeW, kl, hal]
theorem same_pu : ∀ (n : Nat) (w : W), puB n w = true → n ≤ 5 → ∀ (m : Nat) (st : Store), n ≤ m → d__law_same m [w, w] st = .ok (.bl true) st
  | 0, _, h, _, _, _, _ => nomatch (show false = true from h)
  | n + 1, w, h, hn, 0, st, hm => by omega
  | n + 1, w, h, hn, m + 1, st, hm => by
    have hp : pu w := puB_mono h hn
    cases w with
    | tup ws =>
      have h' : (decide (ws.length ≤ 8192) && ws.all (puB n)) = true := h
      rw [Bool.and_eq_true, decide_eq_true_iff, List.all_eq_true] at h'
      refine same_seq (T := "tuple") (x := true) (y := false) rfl rfl rfl rfl rfl rfl rfl rfl h'.1 fun i v w hv hw => ?_
      rw [hv] at hw; cases hw
      exact same_pu n v (h'.2 v (List.mem_of_getElem? hv)) (by omega) m st (by omega)
    | bl b => rw [same_bl]; simp
    | non =>
      unfold d__law_same; rw [fnDen_ap]; unfold b__law_same
      have h1 : isi2W "tuple" "list" .non st = .ok (.bl false) st := rfl
      have h2 : isNW .non .non st = .ok (.bl true) st := rfl
      simp -implicitDefEqProofs [h1, h2]
    | int i =>
      unfold d__law_same; rw [fnDen_ap]; unfold b__law_same
      have h1 : isi2W "tuple" "list" (.int i) st = .ok (.bl false) st := rfl
      have h2 : isNW (.int i) .non st = .ok (.bl false) st := rfl
      have h3 : isiW [.int i, .gl (.ty "bool")] st = .ok (.bl false) st := rfl
      have h4 : isiW [.int i, .gl (.ty "int")] st = .ok (.bl true) st := rfl
      simp -implicitDefEqProofs [h1, h2, h3, h4]
    | str s =>
      unfold d__law_same; rw [fnDen_ap]; unfold b__law_same
      have h1 : isi2W "tuple" "list" (.str s) st = .ok (.bl false) st := rfl
      have h2 : isNW (.str s) .non st = .ok (.bl false) st := rfl
      have h3 : isiW [.str s, .gl (.ty "bool")] st = .ok (.bl false) st := rfl
      have h4 : isiW [.str s, .gl (.ty "int")] st = .ok (.bl false) st := rfl
      have h5 : isiW [.str s, .gl (.ty "str")] st = .ok (.bl true) st := rfl
      simp -implicitDefEqProofs [h1, h2, h3, h4, h5, eqW_str hp hp]
    | _ => exact nomatch (show false = true from h)
theorem same_pic {a b u : W} {st : Store} {m : Nat} (h : Pic st a u) (h' : Pic st b u) (hm : 6 ≤ m) : d__law_same m [a, b] st = .ok (.bl true) st := by
  cases h with
  | pu _ hp =>
    cases h' with
    | pu => exact same_pu 5 _ hp (by decide) m st (by omega)
    | ls k ws => exact nomatch (show false = true from hp)
  | ls k ws hk hl hw =>
    cases h' with
    | pu _ hp => exact nomatch (show false = true from hp)
    | ls k' _ hk' =>
      obtain ⟨m, rfl⟩ : ∃ m', m = m' + 1 := ⟨m - 1, by omega⟩
      refine same_seq (T := "list") (x := false) (y := true) (ws := ws) (vs := ws) (by simp [tyN, hk]) (by simp [tyN, hk']) rfl rfl rfl (by simp [seqW, hk]) (by simp [seqW, hk']) rfl hl fun i v w hv hw' => ?_
      rw [hv] at hw'; cases hw'
      exact same_pu 5 v (hw v (List.mem_of_getElem? hv)) (by decide) m st (by omega)
theorem same_pair {a b u : W} {s : Str} {st : Store} {m : Nat} (hs : okS s = true) (h : Pic st a u) (h' : Pic st b u) (hm : 7 ≤ m) : d__law_same m [.tup [.str s, a], .tup [.str s, b]] st = .ok (.bl true) st := by
  obtain ⟨m, rfl⟩ : ∃ m', m = m' + 1 := ⟨m - 1, by omega⟩
  refine same_seq (T := "tuple") (x := true) (y := false) rfl rfl rfl rfl rfl rfl rfl rfl (by simp) fun i v w hv hw => ?_
  match i with
  | 0 => simp at hv hw; subst hv; subst hw; exact same_pu 5 _ (pu_str hs) (by decide) m st (by omega)
  | 1 => simp at hv hw; subst hv; subst hw; exact same_pic h h' (by omega)
  | n + 2 => simp at hv
theorem mod_ok {i j : Int} {st : Store} (h : 0 < j) : modW (.int i) (.int j) st = .ok (.int (i % j)) st := if_pos h
theorem mul_ok {i j : Int} {st : Store} (h : IntMulOk i j) : mulW (.int i) (.int j) st = .ok (.int (i * j)) st := if_pos h
theorem pow_ok {i j : Int} {st : Store} (h : CPowW i j) : powW (.int i) (.int j) st = .ok (.int (i ^ j.toNat)) st := if_pos h
theorem take_okG {p n : Nat} {m : Int} {st : Store} (h : PotA p n st) (hn : n ≤ 1000000) (h0 : 0 < m) (h1 : m.natAbs.log2 < 9000) :
    ∃ (r : Int) (st' : Store), d__law_take [.loc p, .int m] st = .ok (.int r) st' ∧ 0 ≤ r ∧ r < m ∧ PotA p (n + 1) st' ∧ Kp p st st' := by
  have hl := h.lt
  obtain ⟨a, b, c, hp, hb0, hb, hc0, hc⟩ := h
  have kp : ∀ o, Kp p st (st.set p o) := fun o => ⟨by simp, fun i hi => List.getElem?_set_ne (Ne.symm hi)⟩
  have fin : ∀ (r x y z : Int), 0 ≤ y → y < 10 ^ 34 → 0 ≤ z → z ≤ ((n + 1 : Nat) : Int) → gc st (.int r) (st.set p (.lst [.int x, .int y, .int z])) = .ok (.int r) (st.set p (.lst [.int x, .int y, .int z])) ∧ PotA p (n + 1) (st.set p (.lst [.int x, .int y, .int z])) := fun r x y z hy hy' hz hz' => by
    have hP : PotA p (n + 1) (st.set p (.lst [.int x, .int y, .int z])) := ⟨x, y, z, by rw [List.getElem?_set_self hl], hy, hy', hz, hz'⟩
    have := (gc_pot (v := .int r) (kp (.lst [.int x, .int y, .int z])).ext hP hl rfl).1
    rw [List.take_of_length_le (by simp)] at this
    exact ⟨this, hP⟩
  have ix : ∀ (st : Store) (x y z : Int), st[p]? = some (.lst [.int x, .int y, .int z]) → ixW (.loc p) (.int 0) st = .ok (.int x) st ∧ ixW (.loc p) (.int 1) st = .ok (.int y) st ∧ ixW (.loc p) (.int 2) st = .ok (.int z) st := fun st x y z h => by
    refine ⟨?_, ?_, ?_⟩ <;> (unfold ixW seqW; simp only [h]; rfl)
  obtain ⟨i0, i1, i2⟩ := ix st a b c hp
  unfold d__law_take; rw [fnDen_ap]; unfold b__law_take
  by_cases ha : 0 < a
  · obtain ⟨f1, f2⟩ := fin (a % m) (a / m) b c hb0 hb hc0 (by omega)
    refine ⟨a % m, _, ?_, Int.emod_nonneg _ (by omega), Int.emod_lt_of_pos _ h0, f2, kp _⟩
    have hset := setW_of (v := .int (a / m)) (i := 0) (j := 0) hp rfl
    have hk := kAsg_sub (env := [some (.loc p), some (.int m), none, some (.int (a % m))]) (st := st) (mo := dVar 0) (mi := dC (.int 0)) (v := .int (a / m)) rfl rfl hset
    simp only [List.set_cons_zero] at hk
    simp -implicitDefEqProofs [i0, ha, mod_ok h0, div_okG h0 h1, hk, f1]
  · have hp1 : (st.set p (.lst [.int a, .int b, .int (c + 1)]))[p]? = some (.lst [.int a, .int b, .int (c + 1)]) := by rw [List.getElem?_set_self hl]
    obtain ⟨j0, j1, j2⟩ := ix _ a b (c + 1) hp1
    obtain ⟨S, hS⟩ : ∃ S, S = st.set p (.lst [.int a, .int b, .int (c + 1)]) := ⟨_, rfl⟩
    rw [← hS] at j0 j1 j2
    have hset := setW_of (v := .int (c + 1)) (i := 2) (j := 2) hp rfl
    have hk := kAsg_sub (env := [some (.loc p), some (.int m), none, none]) (st := st) (mo := dVar 0) (mi := dC (.int 2)) (v := .int (c + 1)) rfl rfl hset
    simp only [List.set_cons_succ, List.set_cons_zero] at hk
    rw [← hS] at hk
    have hy : Builtin.Int.intBits (b + 999983 * (c + 1)) ≤ 128 := by
      refine intBits_le ?_
      have : b + 999983 * (c + 1) < 2 ^ 128 := by
        have e1 : (10 : Int) ^ 34 = 10000000000000000000000000000000000 := by decide
        have e2 : (2 : Int) ^ 128 = 340282366920938463463374607431768211456 := by decide
        rw [e2]; rw [e1] at hb; omega
      have e3 : ((2 ^ 128 : Nat) : Int) = 2 ^ 128 := by decide
      omega
    have hpw : CPowW (b + 999983 * (c + 1)) 3 := ⟨by decide, by
      have : (Builtin.Int.intBits (b + 999983 * (c + 1)) : Int) ≤ ((128 : Nat) : Int) := Int.ofNat_le.mpr hy
      have e : (2 : Int) ^ 27 = 134217728 := by decide
      rw [e]; omega⟩
    have m1 : mulW (.int 999983) (.int (c + 1)) S = .ok (.int (999983 * (c + 1))) S := mul_ok (small_mul (by decide) (by decide))
    have m2 : mulW (.int 7) (.int (c + 1)) S = .ok (.int (7 * (c + 1))) S := mul_ok (small_mul (by decide) (by decide))
    have p1 : powW (.int (b + 999983 * (c + 1))) (.int 3) S = .ok (.int ((b + 999983 * (c + 1)) ^ (3 : Int).toNat)) S := pow_ok hpw
    have p2 : powW (.int 10) (.int 37) S = .ok (.int (10 ^ (37 : Int).toNat)) S := pow_ok (pow10 37 (by decide) (by decide))
    have d1 : ∀ x, modW (.int x) (.int (10 ^ (37 : Int).toNat + 43)) S = .ok (.int (x % (10 ^ (37 : Int).toNat + 43))) S := fun x => mod_ok (by decide)
    obtain ⟨f1, f2⟩ := fin ((((b + 999983 * (c + 1)) ^ (3 : Int).toNat + 7 * (c + 1)) % (10 ^ (37 : Int).toNat + 43)) / 65537 % m) a b (c + 1) hb0 hb (by omega) (by omega)
    rw [← hS] at f1 f2
    refine ⟨((((b + 999983 * (c + 1)) ^ (3 : Int).toNat + 7 * (c + 1)) % (10 ^ (37 : Int).toNat + 43)) / 65537) % m, S, ?_, Int.emod_nonneg _ (by omega), Int.emod_lt_of_pos _ h0, f2, by rw [hS]; exact kp _⟩
    · generalize (10 : Int) ^ (37 : Int).toNat = T at *
      generalize (b + 999983 * (c + 1)) ^ (3 : Int).toNat = Y at *
      simp -implicitDefEqProofs [i0, ha, i2, hk]
      simp -implicitDefEqProofs [j0, j1, j2, m1, m2, p1, p2, d1, div_big, mod_ok h0, f1]
theorem take_ok {p n : Nat} {m : Int} {st : Store} (h : PotA p n st) (hn : n ≤ 1000000) (h0 : 0 < m) (h1 : m < 9000) :
    ∃ (r : Int) (st' : Store), d__law_take [.loc p, .int m] st = .ok (.int r) st' ∧ 0 ≤ r ∧ r < m ∧ PotA p (n + 1) st' ∧ Kp p st st' := take_okG h hn h0 (Nat.lt_of_le_of_lt (Nat.log2_le_self _) (by omega))
theorem label_draw {p n : Nat} {st : Store} (h : PotA p n st) (hn : n + 30 ≤ 1000000) :
    ∃ (x : Str) (st' : Store), d__law_label [.loc p] st = .ok (.str x) st' ∧ okS x = true ∧ x.length ≤ 20 ∧ PotA p (n + 30) st' ∧ Kp p st st' := by
  have hl := h.lt
  obtain ⟨t1, s1, e1, a1, b1, P1, K1⟩ := take_ok (m := 20) h (by omega) (by decide) (by decide)
  obtain ⟨L1, hL1⟩ : ∃ L, L = [W.int 1, .int 2, .int 3, .int (1 + t1), .int 20] := ⟨_, rfl⟩
  obtain ⟨t2, s2, e2, a2, b2, P2, K2⟩ := take_ok (m := 5) (P1.app [.lst L1]) (by omega) (by decide) (by decide)
  have hp1 : p ≠ s1.length := by have := P1.lt; omega
  have g2 : s2[s1.length]? = some (.lst L1) := by rw [K2.keep _ (Ne.symm hp1)]; simp
  obtain ⟨w, wm, _, e3⟩ := ix_mem (st := s2) (a := .loc s1.length) (ws := L1) (i := t2) (by simp [seqW, g2]) a2 (by rw [hL1]; simpa using b2)
  obtain ⟨k, rfl, k1, k2⟩ : ∃ k : Int, w = .int k ∧ 1 ≤ k ∧ k ≤ 20 := by
    rw [hL1] at wm
    simp only [List.mem_cons, List.not_mem_nil, or_false] at wm
    rcases wm with rfl | rfl | rfl | rfl | rfl
    · exact ⟨1, rfl, by decide, by decide⟩
    · exact ⟨2, rfl, by decide, by decide⟩
    · exact ⟨3, rfl, by decide, by decide⟩
    · exact ⟨1 + t1, rfl, by omega, by omega⟩
    · exact ⟨20, rfl, by decide, by decide⟩
  have hr := kR1_ok (st := s2) (j := k) (Int.le_trans (by decide) k1) (Int.lt_of_le_of_lt k2 (by decide))
  obtain ⟨l, s3, e4, hll, P3, X3, SL3⟩ := kLc_ok (env := [some (.loc p), some (.str AL), some (.int k), none, none]) (i := 4) (e := dOp ixW (dOp addW (dC (.str "-")) (dVar 1)) (dCall 2 d__law_take (dCons (dVar 0) (dCons (dC (.int 37)) dNil)))) (st := s2) (ws := intsW 0 k.toNat)
    (fun i acc S => PotA p (n + 2 + i) S ∧ Ext p s2 S ∧ StL 1 acc) (fun i w acc S hw hJ => by
      obtain ⟨hP, hX, hS⟩ := hJ
      have hi : i < k.toNat := by rw [← ints_len]; exact (List.getElem?_eq_some_iff.mp hw).1
      obtain ⟨t, s', e, a, b, P, Kq⟩ := take_ok (m := 37) hP (by omega) (by decide) (by decide)
      obtain ⟨y, hy, hyl, ey⟩ := sign_of (i := t) ok_al1 a (by rw [al1_len]; exact b)
      refine ⟨.str y, s', ?_, P, hX.trans Kq.ext, hS.app (.one hy hyl)⟩
      simp -implicitDefEqProofs [al1_add, e, ey]) (by rw [ints_len]; exact line8 (by omega)) ⟨P2, .refl, .nil⟩
  rw [ints_len] at hll
  have hlk : l.length = k.toNat := hll
  have P4 := (P3.mono (m := n + 25) (by rw [ints_len]; omega)).app [.lst l]
  obtain ⟨t5, s5, e5, a5, b5, P5, K5⟩ := take_ok (m := 36) P4 (by omega) (by decide) (by decide)
  have hle : st.length ≤ s3.length := by
    have := X3.le; rw [K2.len] at this; simp at this; rw [K1.len] at this; omega
  have hp3 : s3.length ≠ p := by omega
  have g5 : s5[s3.length]? = some (.lst l) := by rw [K5.keep _ hp3]; simp
  obtain ⟨y5, hy5, hyl5, ey5⟩ := sign_of (i := t5) ok_al a5 (by rw [al_len]; exact b5)
  have st5 := setW_of (v := .str y5) (i := 0) (j := 0) g5 (by unfold ixN; rw [if_pos (by decide), if_pos (by omega)]; rfl)
  have k5 := kAsg_sub (env := [some (.loc p), some (.str AL), some (.int k), some (.loc s3.length), none]) (st := s5) (mo := dVar 3) (mi := dC (.int 0)) (v := .str y5) rfl rfl st5
  have P5' := P5.set (k := s3.length) (o := .lst (l.set 0 (.str y5))) (Ne.symm hp3)
  obtain ⟨t6, s6, e6, a6, b6, P6, K6⟩ := take_ok (m := 36) P5' (by omega) (by decide) (by decide)
  have hl5 : s3.length < s5.length := (List.getElem?_eq_some_iff.mp g5).1
  have g6 : s6[s3.length]? = some (.lst (l.set 0 (.str y5))) := by rw [K6.keep _ hp3, List.getElem?_set_self hl5]
  obtain ⟨y6, hy6, hyl6, ey6⟩ := sign_of (i := t6) ok_al a6 (by rw [al_len]; exact b6)
  have st6 := setW_of (v := .str y6) (i := -1) (j := l.length - 1) g6 (by unfold ixN; rw [if_neg (by decide), if_pos (by rw [List.length_set]; omega)]; congr 1; rw [List.length_set]; omega)
  have k6 := kAsg_sub (env := [some (.loc p), some (.str AL), some (.int k), some (.loc s3.length), none]) (st := s6) (mo := dVar 3) (mi := dUn negW (dC (.int 1))) (v := .str y6) rfl rfl st6
  have hl6 : s3.length < s6.length := (List.getElem?_eq_some_iff.mp g6).1
  obtain ⟨LL, hLL⟩ : ∃ LL, LL = (l.set 0 (.str y5)).set (l.length - 1) (.str y6) := ⟨_, rfl⟩
  rw [← hLL] at k6
  have SL : StL 1 LL := by rw [hLL]; exact (SL3.set hy5 hyl5).set hy6 hyl6
  have hlL : LL.length = k.toNat := by rw [hLL]; simp [hlk]
  have P7 := P6.set (k := s3.length) (o := .lst LL) (Ne.symm hp3)
  obtain ⟨x, ex, okx, lx⟩ := join_StL (st := s6.set s3.length (.lst LL)) (k := s3.length) (b := 1) (ws := LL) (by rw [List.getElem?_set_self hl6]) SL (by rw [hlL]; omega)
  have X : Ext p st (s6.set s3.length (.lst LL)) := by
    have x1 : Ext p st s2 := (K1.ext.trans (.app [.lst L1])).trans K2.ext
    have x2 : Ext p st s5 := ((x1.trans X3).trans (.app [.lst l])).trans K5.ext
    exact (((x2.set hle).trans K6.ext).set hle)
  obtain ⟨G1, G2, G3⟩ := gc_pot (v := .str x) X P7 hl rfl
  refine ⟨x, _, ?_, okx, by rw [hlL] at lx; omega, G3.mono (by omega), G2⟩
  unfold d__law_label; rw [fnDen_ap]; unfold b__law_label
  rw [show ("0123456789abcdefghijklmnopqrstuvwxyz" : Str) = AL from rfl]
  have lst1 : kLst [W.int 1, .int 2, .int 3, .int (1 + t1), .int 20] s1 = .ok (.loc s1.length) (s1 ++ [.lst L1]) := by rw [hL1]; exact lst5 (by simp)
  simp -implicitDefEqProofs [e1, lst1, e2, e3, hr, wipeW]
  rw [e4]
  simp -implicitDefEqProofs only [Res.then_ok, kAsg_n, List.set_cons_succ, List.set_cons_zero, RsS.next_nx, sSeq_ap, sAsg_ap, dOp_ap, dVar_ap, List.getElem?_cons_zero, List.getElem?_cons_succ, Res.bind_ok, kOp1_ap, dCall_ap, dCons_ap, kCons1_ap, dC_ap, dNil_ap, kCons2_ap, kCall_2, e5, ey5, k5, e6, ey6, k6, sRet_ap, dBm_ap, kBm_s, ex, kRet_ap, fnR_rt, G1]
theorem take_in {p n : Nat} {m : Int} {st : Store} (h : PotA p n st) (hn : n + 1 ≤ 1000000) (h0 : 0 < m) (h1 : m < 9000) :
    ∃ (r : Int) (st' : Store), d__law_take [.loc p, .int m] st = .ok (.int r) st' ∧ 0 ≤ r ∧ r < m ∧ PotA p (n + 1) st' ∧ Kp p st st' := take_ok h (by omega) h0 h1
structure Odd (p n : Nat) (st : Store) (r : Res W) : Prop where
  ex : ∃ (w u : W) (st' g : Store), r = .ok w (st' ++ g) ∧ Pic (st' ++ g) w u ∧ nameB u = false ∧ PotA p n st' ∧ Kp p st st' ∧ ((g = [] ∧ pu w) ∨ ∃ ws, g = [.lst ws] ∧ w = .loc st.length ∧ u = .fro ws)
theorem odd_draw {p n : Nat} {st : Store} (h : PotA p n st) (hn : n + 1 ≤ 1000000) : Odd p (n + 1) st (d__law_odd [.loc p] st) := by
  have hl := h.lt
  obtain ⟨L14, h14⟩ : ∃ L, L = [W.non, .bl true, .int 7, .int (-1), .str "", .str "a", .loc st.length, .loc (st.length + 1), .tup [.str "a", .int 5], .tup [.str "a", .str "*"], .tup [.tup [.str "a"]], .tup [.str ""], .tup [.str "*", .str "*"], .str "a."] := ⟨_, rfl⟩
  obtain ⟨L9, h9⟩ : ∃ L, L = [W.tup [.str "a-"], .tup [.str "-"], .tup [.str "A"], .tup [.str "a b"], .tup [.str "a", .non], .loc (st.length + 3), .tup [.str (repS "a" 21)], .tup [.str "a", .str "", .str "b"], .tup [.str "**"]] := ⟨_, rfl⟩
  obtain ⟨S, hS⟩ : ∃ S, S = st ++ [.lst [.str "a"], .lst [], .lst L14, .lst [.tup [.str "a"]], .lst L9, .lst (L14 ++ L9)] := ⟨_, rfl⟩
  have hle : st.length + 6 = S.length := by rw [hS]; simp
  have PS : PotA p n S := by rw [hS]; exact h.app _
  obtain ⟨t, s1, e, a, b, P, K⟩ := take_ok (m := 23) PS (by omega) (by decide) (by decide)
  have get : ∀ i : Nat, p ≠ st.length + i → s1[st.length + i]? = S[st.length + i]? := fun i hi => K.keep _ (Ne.symm hi)
  have X : Ext p st s1 := ⟨by rw [K.len, ← hle]; omega, fun i hi hp => by rw [K.keep _ hp, hS, List.getElem?_append_left hi]⟩
  have gF : s1[st.length + 5]? = some (.lst (L14 ++ L9)) := by rw [get 5 (by omega), hS]; simp
  have g0 : s1[st.length]? = some (.lst [.str "a"]) := by have := get 0 (by omega); rw [Nat.add_zero] at this; rw [this, hS]; simp
  have g1 : s1[st.length + 1]? = some (.lst []) := by rw [get 1 (by omega), hS]; simp
  have g3 : s1[st.length + 3]? = some (.lst [.tup [.str "a"]]) := by rw [get 3 (by omega), hS]; simp
  obtain ⟨w, wm, _, e3⟩ := ix_mem (st := s1) (a := .loc (st.length + 5)) (ws := L14 ++ L9) (i := t) (by simp [seqW, gF]) a (by rw [h14, h9]; simpa using b)
  have run : ∀ v st', gc st w s1 = .ok v st' → d__law_odd [.loc p] st = .ok v st' := fun v st' hg => by
    unfold d__law_odd; rw [fnDen_ap]; unfold b__law_odd
    have k1 : ∀ (l : List W) (st : Store), l.length ≤ 50 → kLst l st = .ok (.loc st.length) (st ++ [.lst l]) := fun l st h => lst5 h
    have k2 : ∀ (l : List W) (st : Store), l.length ≤ 50 → kTup l st = .ok (.tup l) st := fun l st h => ten (by omega)
    have c1 := k1 [.str "a"] st (by simp)
    have c2 := k1 [] (st ++ [.lst [.str "a"]]) (by simp)
    have c3 := k1 L14 (st ++ [.lst [.str "a"], .lst []]) (by rw [h14]; simp)
    have c4 := k1 [.tup [.str "a"]] (st ++ [.lst [.str "a"], .lst [], .lst L14]) (by simp)
    have c5 := k1 L9 (st ++ [.lst [.str "a"], .lst [], .lst L14, .lst [.tup [.str "a"]]]) (by rw [h9]; simp)
    have gA : (st ++ [Ob.lst [W.str "a"], .lst [], .lst L14, .lst [.tup [.str "a"]], .lst L9])[st.length + 2]? = some (.lst L14) := by simp
    have gB : (st ++ [Ob.lst [W.str "a"], .lst [], .lst L14, .lst [.tup [.str "a"]], .lst L9])[st.length + 4]? = some (.lst L9) := by simp
    have ad := addW_l gA gB (by rw [h14, h9]; simp)
    have eS : (st ++ [Ob.lst [W.str "a"], .lst [], .lst L14, .lst [.tup [.str "a"]], .lst L9] ++ [.lst (L14 ++ L9)]) = S := by rw [hS]; simp
    have eL : (st ++ [Ob.lst [W.str "a"], .lst [], .lst L14, .lst [.tup [.str "a"]], .lst L9]).length = st.length + 5 := by simp
    rw [eS, eL] at ad
    have gS : S[st.length + 5]? = some (.lst (L14 ++ L9)) := by rw [hS]; simp
    have hlen : lenW [.loc (st.length + 5)] S = .ok (.int 23) S := by
      rw [len_seq (ws := L14 ++ L9) (by simp [seqW, gS]), h14, h9]; rfl
    have c1' := c1
    simp only [List.length_append, List.length_cons, List.length_nil, List.append_assoc, List.cons_append, List.nil_append] at c2 c3 c4 c5
    simp -implicitDefEqProofs only [sSeq_ap, sAsg_ap, dLst_ap, dCons_ap, dC_ap, Res.bind_ok, kCons1_ap, dUn_ap, negW_i, dNil_ap, kCons2_ap, dTup_ap, k2, List.length_cons, List.length_nil, Nat.reduceAdd, Nat.reduceLeDiff, c1, c2]
    rw [← h14, c3]
    simp -implicitDefEqProofs only [Res.then_ok, kAsg_n, List.map_cons, List.map_nil, List.length_cons, List.length_nil, Nat.reduceAdd, Nat.reduceSub, List.replicate_succ, List.replicate_zero, List.cons_append, List.nil_append, List.set_cons_succ, List.set_cons_zero, RsS.next_nx, sSeq_ap, sAsg_ap, dOp_ap, dVar_ap, List.getElem?_cons_zero, List.getElem?_cons_succ, Res.bind_ok, kOp1_ap, dLst_ap, dCons_ap, dTup_ap, dC_ap, kCons1_ap, dNil_ap, kCons2_ap, k2, Nat.reduceLeDiff, c4, a21]
    rw [← h9, c5]
    simp -implicitDefEqProofs only [Res.bind_ok, ad, Res.then_ok, kAsg_n, List.set_cons_succ, List.set_cons_zero, RsS.next_nx, sRet_ap, dOp_ap, dVar_ap, List.getElem?_cons_zero, List.getElem?_cons_succ, kOp1_ap, dCall_ap, dCons_ap, dApp_ap, kCons1_ap, dNil_ap, kCons2_ap, hlen, kCall_2, e, e3, kRet_ap, fnR_rt, hg]
  have pure : pu w → nameB w = false → Odd p (n + 1) st (d__law_odd [.loc p] st) := fun hp hnb => by
    obtain ⟨G1, G2, G3⟩ := gc_pot (v := w) X P hl (cl_pu _ 5 _ hp)
    exact ⟨w, w, _, [], by rw [List.append_nil]; exact run _ _ G1, .pu _ hp, hnb, G3, G2, .inl ⟨rfl, hp⟩⟩
  have list : ∀ (k : Nat) (ws : List W), w = .loc k → st.length ≤ k → s1[k]? = some (.lst ws) → ws.length ≤ 8192 → (∀ w ∈ ws, pu w) → Odd p (n + 1) st (d__law_odd [.loc p] st) := fun k ws hw hk g hl' hp => by
    subst hw
    obtain ⟨G1, G2, G3⟩ := gc_potL X P hl hk g (cls_pu _ 5 _ hp)
    refine ⟨_, .fro ws, _, [.lst ws], run _ _ G1, .ls _ ws ?_ hl' hp, rfl, G3, G2, .inr ⟨ws, rfl, rfl, rfl⟩⟩
    rw [show st.length = (List.take st.length s1).length from G2.len.symm]
    simp
  rw [h14, h9] at wm
  simp only [List.mem_append, List.mem_cons, List.not_mem_nil, or_false] at wm
  rcases wm with (rfl | rfl | rfl | rfl | rfl | rfl | rfl | rfl | rfl | rfl | rfl | rfl | rfl | rfl) | (rfl | rfl | rfl | rfl | rfl | rfl | rfl | rfl | rfl)
  · exact pure (by decide +kernel) (by decide +kernel)
  · exact pure (by decide +kernel) (by decide +kernel)
  · exact pure (by decide +kernel) (by decide +kernel)
  · exact pure (by decide +kernel) (by decide +kernel)
  · exact pure (by decide +kernel) (by decide +kernel)
  · exact pure (by decide +kernel) (by decide +kernel)
  · exact list _ _ rfl (Nat.le_refl _) g0 (by simp) (pu_one (by decide +kernel))
  · exact list _ _ rfl (by omega) g1 (by simp) (fun w hw => nomatch hw)
  · exact pure (by decide +kernel) (by decide +kernel)
  · exact pure (by decide +kernel) (by decide +kernel)
  · exact pure (by decide +kernel) (by decide +kernel)
  · exact pure (by decide +kernel) (by decide +kernel)
  · exact pure (by decide +kernel) (by decide +kernel)
  · exact pure (by decide +kernel) (by decide +kernel)
  · exact pure (by decide +kernel) (by decide +kernel)
  · exact pure (by decide +kernel) (by decide +kernel)
  · exact pure (by decide +kernel) (by decide +kernel)
  · exact pure (by decide +kernel) (by decide +kernel)
  · exact pure (by decide +kernel) (by decide +kernel)
  · exact list _ _ rfl (by omega) g3 (by simp) (pu_one (by decide +kernel))
  · exact pure (by decide +kernel) (by decide +kernel)
  · exact pure (by decide +kernel) (by decide +kernel)
  · exact pure (by decide +kernel) (by decide +kernel)
theorem pot_ok {ns : List Int} {i : Int} {st : Store} (hl : ns.length ≤ 63) (h0 : 0 ≤ i) (h1 : i ≤ 63) : ∃ st', d__law_pot [.fro (ns.map W.int), .int i] st = .ok (.loc st.length) st' ∧ PotA st.length 0 st' ∧ st'.length = st.length + 1 := by
  have m0 : mulW (.int 11) (.int i) st = .ok (.int (11 * i)) st := mul_ok (small_mul (by decide) (by decide))
  have hlen : lenW [.fro (ns.map W.int)] st = .ok (.int (ns.length : Int)) st := by rw [len_seq (ws := ns.map W.int) rfl]; simp
  obtain ⟨x, hx⟩ : ∃ x : Int, ∀ (k : EnvW → Store → RsS), (((dBool (dOp ltW (dVar 1) (dApp lenW (dCons (dVar 0) dNil)))) [some (.fro (ns.map W.int)), some (.int i), some (.int (29 + 11 * i)), none, none] st).then [some (.fro (ns.map W.int)), some (.int i), some (.int (29 + 11 * i)), none, none] (kSIf (sAsg (dOp ixW (dVar 0) (dVar 1)) (tName 2)) sNil [some (.fro (ns.map W.int)), some (.int i), some (.int (29 + 11 * i)), none, none])).next k = k [some (.fro (ns.map W.int)), some (.int i), some (.int x), none, none] st := by
    by_cases hi : i < (ns.length : Int)
    · obtain ⟨w, wm, _, e⟩ := ix_mem (st := st) (a := .fro (ns.map W.int)) (ws := ns.map W.int) (i := i) rfl h0 (by simpa using hi)
      obtain ⟨x, _, rfl⟩ := List.mem_map.mp wm
      exact ⟨x, fun k => by simp -implicitDefEqProofs [hlen, hi, e]⟩
    · exact ⟨29 + 11 * i, fun k => by simp -implicitDefEqProofs [hlen, hi]⟩
  have p33 : powW (.int 10) (.int 33) st = .ok (.int (10 ^ (33 : Int).toNat)) st := pow_ok (pow10 33 (by decide) (by decide))
  have p18 : powW (.int 10) (.int 18) st = .ok (.int (10 ^ (18 : Int).toNat)) st := pow_ok (pow10 18 (by decide) (by decide))
  have md : ∀ y, modW (.int y) (.int (10 ^ (33 : Int).toNat + 61)) st = .ok (.int (y % (10 ^ (33 : Int).toNat + 61))) st := fun y => mod_ok (by decide)
  have m1 : ∀ y, mulW (.int y) (.int 131) st = .ok (.int (y * 131)) st := fun y => mul_ok (IntMulOk.of_right (intBits_le_64 (by decide) (by decide)))
  have m2 : ∀ y, mulW (.int y) (.int 977) st = .ok (.int (y * 977)) st := fun y => mul_ok (IntMulOk.of_right (intBits_le_64 (by decide) (by decide)))
  have m3 : mulW (.int 13) (.int i) st = .ok (.int (13 * i)) st := mul_ok (small_mul (by decide) (by decide))
  have hT : (10 : Int) ^ (33 : Int).toNat + 61 ≤ 10 ^ 34 := by decide
  have hT0 : (0 : Int) < 10 ^ (33 : Int).toNat + 61 := by decide
  generalize (10 : Int) ^ (33 : Int).toNat = T at *
  generalize (10 : Int) ^ (18 : Int).toNat = T2 at *
  obtain ⟨env', st', e4, rfl, acc, v, rfl⟩ := forW_ok (chk := (ItW.mk (ns.map W.int) none).Chk) (t := tName 4) (b := sAsg (dOp modW (dApp intOfW (dCons (dOp addW (dOp mulW (dVar 3) (dC (.int 131))) (dVar 4)) dNil)) (dOp addW (dOp powW (dC (.int 10)) (dC (.int 33))) (dC (.int 61)))) (tName 3))
    (fun _ env S => S = st ∧ ∃ (acc : Int) (v : Option W), env = [some (.fro (ns.map W.int)), some (.int i), some (.int x), some (.int acc), v]) (fun _ _ _ _ => by simp) (ns.map W.int) 0 [some (.fro (ns.map W.int)), some (.int i), some (.int x), some (.int 1), none] st
    (fun j w env S hw hI => by
      obtain ⟨rfl, acc, v, rfl⟩ := hI
      obtain ⟨y, _, rfl⟩ := List.mem_map.mp (List.mem_of_getElem? hw)
      refine ⟨_, _, _, _, rfl, ?_, rfl, (acc * 131 + y) % (T + 61), some (.int y), rfl⟩
      simp -implicitDefEqProofs [m1, p33, md]) ⟨rfl, 1, none, rfl⟩
  obtain ⟨mx, hmx⟩ : ∃ q : Int, (if x - T2 > (0 : Int) then x - T2 else 0) = q := ⟨_, rfl⟩
  obtain ⟨ab, hab⟩ : ∃ q : Int, (if x < 0 then -x else x) = q := ⟨_, rfl⟩
  have hmax : maxW [.int 0, .int (x - T2)] st' = .ok (.int mx) st' := by rw [maxW_i, hmx]
  have habs : absW [.int x] st' = .ok (.int ab) st' := by rw [absW_i, hab]
  obtain ⟨c, hc⟩ : ∃ c : Int, c = (acc * 977 + ab + 13 * i) % (T + 61) := ⟨_, rfl⟩
  have c0 : 0 ≤ c := by rw [hc]; exact Int.emod_nonneg _ (by omega)
  have c1 : c < T + 61 := by rw [hc]; exact Int.emod_lt_of_pos _ hT0
  have kl : kLst [.int mx, .int c, .int 0] st' = .ok (.loc st'.length) (st' ++ [.lst [.int mx, .int c, .int 0]]) := lst5 (by simp)
  have hg : gc st' (.loc st'.length) (st' ++ [.lst [.int mx, .int c, .int 0]]) = .ok (.loc st'.length) (st' ++ [.lst [.int mx, .int c, .int 0]]) := gc_newA (Nat.le_refl _) (by simp) rfl
  refine ⟨st' ++ [.lst [.int mx, .int c, .int 0]], ?_, ⟨mx, c, 0, by simp, c0, Int.lt_of_lt_of_le c1 hT, by decide, by decide⟩, by simp⟩
  unfold d__law_pot; rw [fnDen_ap]; unfold b__law_pot
  simp -implicitDefEqProofs only [sSeq_ap, sAsg_ap, dOp_ap, dC_ap, Res.bind_ok, kOp1_ap, dVar_ap, List.map_cons, List.map_nil, List.length_cons, List.length_nil, Nat.reduceAdd, Nat.reduceSub, List.replicate_succ, List.replicate_zero, List.cons_append, List.nil_append, List.getElem?_cons_zero, List.getElem?_cons_succ, m0, addW_i, Res.then_ok, kAsg_n, List.set_cons_succ, List.set_cons_zero, RsS.next_nx, sIf_ap]
  have hx' := hx
  simp -implicitDefEqProofs only [dBool_ap, dOp_ap, dVar_ap, List.getElem?_cons_zero, List.getElem?_cons_succ, Res.bind_ok, kOp1_ap, dApp_ap, dCons_ap, kCons1_ap, dNil_ap, kCons2_ap] at hx' ⊢
  rw [hx']
  simp -implicitDefEqProofs only [sSeq_ap, sAsg_ap, dC_ap, Res.then_ok, kAsg_n, List.set_cons_succ, List.set_cons_zero, RsS.next_nx, sFor_ap, dIt_ap, dVar_ap, List.getElem?_cons_zero, List.getElem?_cons_succ, Res.bind_ok, itOf_fro, kFor]
  rw [e4]
  simp -implicitDefEqProofs only [RsS.next_nx, sRet_ap, dLst_ap, dCons_ap, dApp_ap, dC_ap, Res.bind_ok, kCons1_ap, dOp_ap, dVar_ap, List.getElem?_cons_zero, List.getElem?_cons_succ, kOp1_ap, p18, subW_i, dNil_ap, kCons2_ap, hmax, m2, habs, addW_i, m3, intOf_i, p33, md, ← hc, kl, Res.then_ok, kRet_ap, fnR_rt, hg]
/-! values of any kind: tuples may hold lists -/
inductive Gd (st : Store) : Nat → W → Prop
  | pu (n : Nat) (w : W) (h : pu w) : Gd st n w
  | ls (n k : Nat) (ws : List W) (h : st[k]? = some (.lst ws)) (hl : ws.length ≤ 8192) (hw : ∀ w ∈ ws, pu w) : Gd st n (.loc k)
  | tp (n : Nat) (ws : List W) (hl : ws.length ≤ 8192) (h : ∀ w ∈ ws, Gd st n w) : Gd st (n + 1) (.tup ws)
section
variable {st : Store} {n : Nat} {w : W} {ws : List W}
theorem Gd.ty (h : Gd st n w) : tyN st w = some (tyU w) := by
  cases h with
  | pu _ _ h => exact (Pic.pu (st := st) _ h).ty
  | ls _ k ws h hl hw => simp only [tyN, h]; rfl
  | tp _ ws hl h => rfl
theorem Gd.str {x : Str} (h : Gd st n (.str x)) : okS x = true := by
  cases h with
  | pu _ _ h => exact h
theorem Gd.mono {m : Nat} (h : Gd st n w) (hm : n ≤ m) : Gd st m w := by
  induction h generalizing m with
  | pu n w h => exact .pu m w h
  | ls n k ws h hl hw => exact .ls m k ws h hl hw
  | tp n ws hl h ih =>
    obtain ⟨m, rfl⟩ : ∃ k, m = k + 1 := ⟨m - 1, by omega⟩
    exact .tp m ws hl fun w hw => ih w hw (by omega)
theorem Gd.items (h : Gd st n (.tup ws)) : ws.length ≤ 8192 ∧ ∀ w ∈ ws, Gd st n w := by
  cases h with
  | pu _ _ h =>
    obtain ⟨hl, hi⟩ := pu_items h
    exact ⟨hl, fun w hw => .pu n w (puB_mono (hi w hw) (by decide))⟩
  | tp _ _ hl h => exact ⟨hl, fun w hw => (h w hw).mono (by omega)⟩
theorem Gd.dat (h : Gd st n w) : ∀ m, 7 + n ≤ m → ∃ d, datF st m w = some d ∧ d.canLay0 = true ∧ d.depth ≤ 7 + n := by
  induction h with
  | pu n w h => exact fun m hm => ⟨_, datF_pu 5 w h m st (by omega), can_pu 5 w h, Nat.le_trans (dep_pu 5 w h) (by omega)⟩
  | ls n k ws h hl hw =>
    intro m hm
    obtain ⟨d1, d2⟩ := (Pic.ls k ws h hl hw).shp
    exact ⟨_, (Pic.ls k ws h hl hw).dat m (by omega), d1, by omega⟩
  | tp n ws hl h ih =>
    intro m hm
    obtain ⟨m, rfl⟩ : ∃ k, m = k + 1 := ⟨m - 1, by omega⟩
    have e : ∀ w ∈ ws, datF st m w = some ((datF st m w).getD .none) := fun w hw => by
      obtain ⟨d, e, _⟩ := ih w hw m (by omega)
      rw [e]; rfl
    have g : ∀ w ∈ ws, ((datF st m w).getD .none).canLay0 = true ∧ ((datF st m w).getD .none).depth ≤ 7 + n := fun w hw => by
      obtain ⟨d, e, h1, h2⟩ := ih w hw m (by omega)
      rw [e]; exact ⟨h1, h2⟩
    refine ⟨.tuple (ws.map fun w => (datF st m w).getD .none), ?_, canAll fun w hw => (g w hw).1, ?_⟩
    · simp only [datF]
      rw [allO_of _ _ ws e]; rfl
    · rw [PyData.depth.eq_2]
      have := depAll (f := fun w => (datF st m w).getD .none) (ws := ws) (n := 7 + n) fun w hw => (g w hw).2
      omega
theorem gd_isS (h : Gd st n w) : isiW [w, .gl (.ty "str")] st = .ok (.bl (isS w)) st := isi_of h.ty (by rw [kB_str]; cases w <;> rfl)
theorem gd_isT (h : Gd st n w) : isiW [w, .gl (.ty "tuple")] st = .ok (.bl (isT w)) st := isi_of h.ty (by rw [kB_tup]; cases w <;> rfl)
def isI : W → Bool | .int _ => true | _ => false
def isB : W → Bool | .bl _ => true | _ => false
theorem gd_isI (h : Gd st n w) : isiW [w, .gl (.ty "int")] st = .ok (.bl (isI w || isB w)) st := isi_of h.ty (by rw [kB_int]; cases w <;> rfl)
theorem gd_isB (h : Gd st n w) : isiW [w, .gl (.ty "bool")] st = .ok (.bl (isB w)) st := isi_of h.ty (by rw [kB_bool]; cases w <;> rfl)
/-- the first one and a text -/
theorem gd_head {s : Str} (h : ∀ w ∈ ws, Gd st n w) (hn : n ≤ 40) (hs : okS s = true) : eqW (.tup (ws.take 1)) (.tup [.str s]) st = .ok (.bl (hdX s ws)) st ∧ neW (.tup (ws.take 1)) (.tup [.str s]) st = .ok (.bl (!hdX s ws)) st := by
  have h2 : pu (.tup [.str s]) := by
    show (decide (1 ≤ 8192) && (okS s && true)) = true
    rw [hs]; rfl
  have e2 : datF st 66 (.tup [.str s]) = some (.tuple [.str s]) := rfl
  have s2 : SeqAt.shaped (.tuple [.str s]) = true := shaped_of ⟨can_pu 5 _ h2, Nat.le_trans (dep_pu 5 _ h2) (by decide)⟩
  cases ws with
  | nil =>
    have e1 : datF st 66 (.tup []) = some (.tuple []) := rfl
    exact ⟨eqW_of e1 e2 rfl s2, neW_of e1 e2 rfl s2⟩
  | cons w r =>
    obtain ⟨d, ed, h3, h4⟩ := (h w List.mem_cons_self).dat 65 (by omega)
    have e1 : datF st 66 (.tup [w]) = some (.tuple [d]) := by
      show (allO [datF st 65 w]).map PyData.tuple = _
      rw [ed]; rfl
    have s1 : SeqAt.shaped (.tuple [d]) = true := shaped_of ⟨canAll (f := fun _ : W => d) (ws := [w]) fun _ _ => h3, by
      rw [PyData.depth.eq_2]
      have := depAll (f := fun _ : W => d) (ws := [w]) (n := 7 + n) fun _ _ => h4
      simp only [List.map_cons, List.map_nil] at this
      omega⟩
    have q : (PyData.tuple [d]).eqv (.tuple [.str s]) = hdX s (w :: r) := by
      rw [PyData.eqv.eq_8, PyData.eqvAll.eq_2, PyData.eqvAll.eq_1, Bool.and_true]
      have hw := h w List.mem_cons_self
      cases w with
      | str x => cases ed; rw [PyData.eqv.eq_6]; rfl
      | non => cases ed; rfl
      | bl _ => cases ed; rfl
      | int _ => cases ed; rfl
      | tup us =>
        simp only [datF, Option.map_eq_some_iff] at ed
        obtain ⟨l, _, rfl⟩ := ed
        rfl
      | loc k =>
        simp only [datF] at ed
        split at ed
        · simp only [Option.map_eq_some_iff] at ed
          obtain ⟨l, _, rfl⟩ := ed
          rfl
        · cases ed
      | fro us =>
        simp only [datF, Option.map_eq_some_iff] at ed
        obtain ⟨l, _, rfl⟩ := ed
        rfl
      | gl _ => simp [datF] at ed
      | rng _ _ => simp [datF] at ed
    have E1 := eqW_of e1 e2 s1 s2
    have E2 := neW_of e1 e2 s1 s2
    rw [q] at E1 E2
    exact ⟨E1, E2⟩
end
section
variable {st : Store} {n : Nat} {w : W} {ws : List W}
theorem gd_drop (h : Gd st n (.tup ws)) (k : Nat) : Gd st (n + 1) (.tup (ws.drop k)) := by
  obtain ⟨hl, hi⟩ := h.items
  exact .tp n _ (by rw [List.length_drop]; omega) fun w hw => hi w (List.mem_of_mem_drop hw)
theorem askedG (h : Gd st n w) : d_is_asked [w] st = .ok (.bl (askB w)) st := by
  unfold d_is_asked; rw [fnDen_ap]; unfold b_is_asked
  cases w with
  | tup ws =>
    obtain ⟨hl, hi⟩ := h.items
    have kl := kLc_mapB (env := [some (.tup ws), none]) (i := 1) (e := dAndV (dApp isiW (dCons (dVar 1) (dCons (dC (.gl (.ty "str"))) dNil))) (dCall 1 d__is_plain (dCons (dVar 1) dNil))) (st := st) (src := none) (fun w : W => w) (fun w => W.bl (plS w)) ws (by simp) (fun b hb => by
      have hp := hi b hb
      simp [gd_isS hp]
      cases b with
      | str x => simp [isS, plain_ok (x := x) hp.str, plS]
      | _ => simp [isS, plS]) (Nat.le_trans hl (by decide))
    have hal := all_here (st := st) (l := ws) (g := plS)
    rw [List.map_id'] at kl
    simp [gd_isT h, isT, wipeW, kl, hal]
    rfl
  | _ => simp [gd_isT h, isT, askB]
theorem nameG (h : Gd st n w) (hn : n ≤ 30) : d_is_name [w] st = .ok (.bl (nameB w)) st := by
  unfold d_is_name; rw [fnDen_ap]; unfold b_is_name
  cases w with
  | tup ws =>
    obtain ⟨hl, hi⟩ := h.items
    have hh : eqW (.tup (ws.take 1)) (.tup [.str c_WILD]) st = .ok (.bl (hdS ws)) st := by
      rw [(gd_head hi (by omega) ok_wild).1]; congr 2
    have a1 := askedG (gd_drop h 1)
    have a2 := askedG h
    have hnm : nameB (.tup ws) = (if hdS ws = true then ws.drop 1 else ws).all plS := rfl
    rw [hnm]
    simp [-List.drop_one, gd_isT h, isT, tup_one, hh]
    cases hdS ws with
    | true => simp [-List.drop_one, a1]; rfl
    | false => simp [-List.drop_one, a2]; rfl
  | _ => simp [gd_isT h, isT, nameB]
theorem star_ask (ws : List W) : (nameB (.tup ws) && !hdX "*" ws) = askB (.tup ws) := by
  show ((if hdS ws = true then ws.drop 1 else ws).all plS && !hdX "*" ws) = ws.all plS
  have e : hdX "*" ws = hdS ws := by
    cases ws with
    | nil => rfl
    | cons w r => cases w <;> rfl
  rw [e]
  cases hh : hdS ws with
  | false => simp
  | true =>
    rw [if_pos rfl, Bool.not_true, Bool.and_false]
    cases ws with
    | nil => exact nomatch (show false = true from hh)
    | cons w r =>
      cases w with
      | str x =>
        have hx : (x == ("*" : Str)) = true := hh
        have : x = ("*" : Str) := by simpa using hx
        subst this
        rw [List.all_cons, show plS (.str "*") = false from star_plain]; rfl
      | _ => exact nomatch (show false = true from hh)
end
section
variable {st : Store} {n : Nat} {w : W} {ws : List W} {k : Str}
theorem Gd.app {v : W} (g : Store) (h : Gd st n v) : Gd (st ++ g) n v := by
  induction h with
  | pu n w h => exact .pu n w h
  | ls n k ws h hl hw => exact .ls n k ws (get_app _ h) hl hw
  | tp n ws hl h ih => exact .tp n ws hl fun w hw => ih w hw
theorem seq_go {a b : DS} {env env' : EnvW} {st st' : Store} {r : RsS} (h : a env st = .go .nx env' st') (h2 : b env' st' = r) : sSeq a b env st = r := by
  rw [sSeq_ap, h, RsS.next_nx]; exact h2
theorem seq_rt {a b : DS} {env env' : EnvW} {st st' : Store} {v : W} (h : a env st = .go (.rt v) env' st') : sSeq a b env st = .go (.rt v) env' st' := by
  rw [sSeq_ap, h]; rfl
theorem gc_flags {b : Bool} {g : Store} : gc st (.bl b) (st ++ g) = .ok (.bl b) st := gc_app rfl
end
section
variable {st : Store} {n : Nat} {w : W} {ws : List W} {k : Str}
theorem if_f {c : D Bool} {a : DS} {env : EnvW} {st st' : Store} (h : c env st = .ok false st') : sIf c a sNil env st = .go .nx env st' := by
  rw [sIf_ap, h, Res.then_ok, kSIf_f, sNil_ap]
theorem if_t {c : D Bool} {a b : DS} {env : EnvW} {st st' : Store} {r : RsS} (h : c env st = .ok true st') (h2 : a env st' = r) : sIf c a b env st = r := by
  rw [sIf_ap, h, Res.then_ok, kSIf_t]; exact h2
def tlB : DS := (sSeq (sAsg (dAndV (dApp isiW (dCons (dVar 1) (dCons (dC (.gl (.ty "str"))) dNil))) (dOp leW (dApp lenW (dCons (dVar 1) dNil)) (dC (.int 60)))) (tName 3))
    (sRet (dAndV (dVar 3) (dApp allW (dCons (dLc (dIt (dVar 1)) [5] (tName 5) dYes (dAndV (dChain leW leW (dC (.int 32)) (dApp ordFW (dCons (dVar 5) dNil)) (dC (.int 126))) (dOp neW (dApp ordFW (dCons (dVar 5) dNil)) (dC (.int 37))))) dNil)))))
end
/-- the signs of a label that is not the star -/
structure PL (cs : List Nat) : Prop where
  l1 : 1 ≤ cs.length
  l2 : cs.length ≤ 20
  inn : ∀ c ∈ cs, c ∈ IN
  fst : cs.getD 0 0 ∈ EN
  lst : cs.getD (cs.length - 1) 0 ∈ EN
theorem PL.plain {cs : List Nat} (h : PL cs) : plainB (txt cs) = true := by
  have hl : (txt cs).length = cs.length := by show (txt cs).cps.size = _; rw [← Array.length_toList]; show (cl (txt cs)).length = _; rw [cl_txt]
  have ht : (txt cs).cps.toList = cs := cl_txt cs
  have h1 := h.l1
  have e1 : fst0 (txt cs) = cs.getD 0 0 := fst0_of (by rw [ht]; show cs[0]? = _; rw [List.getD_eq_getElem?_getD, List.getElem?_eq_getElem (by omega)]; rfl)
  have e2 : lst0 (txt cs) = cs.getD (cs.length - 1) 0 := lst0_of (by rw [ht, hl, List.getD_eq_getElem?_getD, List.getElem?_eq_getElem (by omega)]; rfl)
  unfold plainB
  rw [hl, ht, e1, e2, decide_eq_true h.l1, decide_eq_true h.l2, decide_eq_true h.fst, decide_eq_true h.lst]
  simp only [Bool.and_true, Bool.true_and, List.all_eq_true, decide_eq_true_eq]
  exact h.inn
theorem in_AL : ∀ c ∈ (AL : Str).cps.toList, c ∈ EN := by decide +kernel
theorem in_AL1 : ∀ c ∈ (AL1 : Str).cps.toList, c ∈ IN := by decide +kernel
theorem in_128 : ∀ c ∈ IN, c < 128 := by decide +kernel
theorem en_128 : ∀ c ∈ EN, c < 128 := by decide +kernel
theorem en_in' : ∀ c ∈ EN, c ∈ IN := by decide +kernel
theorem label_plain {p n : Nat} {st : Store} (h : PotA p n st) (hn : n + 30 ≤ 1000000) :
    ∃ (cs : List Nat) (st' : Store), d__law_label [.loc p] st = .ok (.str (txt cs)) st' ∧ PL cs ∧ PotA p (n + 30) st' ∧ Kp p st st' := by
  have hl := h.lt
  obtain ⟨t1, s1, e1, a1, b1, P1, K1⟩ := take_ok (m := 20) h (by omega) (by decide) (by decide)
  obtain ⟨L1, hL1⟩ : ∃ L, L = [W.int 1, .int 2, .int 3, .int (1 + t1), .int 20] := ⟨_, rfl⟩
  obtain ⟨t2, s2, e2, a2, b2, P2, K2⟩ := take_ok (m := 5) (P1.app [.lst L1]) (by omega) (by decide) (by decide)
  have hp1 : p ≠ s1.length := by have := P1.lt; omega
  have g2 : s2[s1.length]? = some (.lst L1) := by rw [K2.keep _ (Ne.symm hp1)]; simp
  obtain ⟨w, wm, _, e3⟩ := ix_mem (st := s2) (a := .loc s1.length) (ws := L1) (i := t2) (by simp [seqW, g2]) a2 (by rw [hL1]; simpa using b2)
  obtain ⟨k, rfl, k1, k2⟩ : ∃ k : Int, w = .int k ∧ 1 ≤ k ∧ k ≤ 20 := by
    rw [hL1] at wm
    simp only [List.mem_cons, List.not_mem_nil, or_false] at wm
    rcases wm with rfl | rfl | rfl | rfl | rfl
    · exact ⟨1, rfl, by decide, by decide⟩
    · exact ⟨2, rfl, by decide, by decide⟩
    · exact ⟨3, rfl, by decide, by decide⟩
    · exact ⟨1 + t1, rfl, by omega, by omega⟩
    · exact ⟨20, rfl, by decide, by decide⟩
  have hr := kR1_ok (st := s2) (j := k) (Int.le_trans (by decide) k1) (Int.lt_of_le_of_lt k2 (by decide))
  obtain ⟨l, s3, e4, hll, P3, X3, cs, rfl, hcs⟩ := kLc_ok (env := [some (.loc p), some (.str AL), some (.int k), none, none]) (i := 4) (e := dOp ixW (dOp addW (dC (.str "-")) (dVar 1)) (dCall 2 d__law_take (dCons (dVar 0) (dCons (dC (.int 37)) dNil)))) (st := s2) (ws := intsW 0 k.toNat)
    (fun i acc S => PotA p (n + 2 + i) S ∧ Ext p s2 S ∧ ∃ cs : List Nat, acc = cs.map sgn ∧ ∀ c ∈ cs, c ∈ IN) (fun i w acc S hw hJ => by
      obtain ⟨hP, hX, cs, rfl, hS⟩ := hJ
      have hi : i < k.toNat := by rw [← ints_len]; exact (List.getElem?_eq_some_iff.mp hw).1
      obtain ⟨t, s', e, a, b, P, Kq⟩ := take_ok (m := 37) hP (by omega) (by decide) (by decide)
      obtain ⟨c, _, hc, ey⟩ := ix_str (x := AL1) (i := t) (by decide +kernel) a (by rw [al1_len]; exact b)
      refine ⟨sgn c, s', ?_, P, hX.trans Kq.ext, cs ++ [c], by simp, fun z hz => by
        rcases List.mem_append.mp hz with h | h
        · exact hS z h
        · rw [List.mem_singleton.mp h]; exact in_AL1 c hc⟩
      simp -implicitDefEqProofs [al1_add, e, ey, sgn]) (by rw [ints_len]; exact line8 (by omega)) ⟨P2, .refl, [], rfl, by simp⟩
  rw [ints_len] at hll
  have hlk : cs.length = k.toNat := by simpa using hll
  have P4 := (P3.mono (m := n + 25) (by rw [ints_len]; omega)).app [.lst (cs.map sgn)]
  obtain ⟨t5, s5, e5, a5, b5, P5, K5⟩ := take_ok (m := 36) P4 (by omega) (by decide) (by decide)
  have hle : st.length ≤ s3.length := by
    have := X3.le; rw [K2.len] at this; simp at this; rw [K1.len] at this; omega
  have hp3 : s3.length ≠ p := by omega
  have g5 : s5[s3.length]? = some (.lst (cs.map sgn)) := by rw [K5.keep _ hp3]; simp
  obtain ⟨y5, _, hy5, ey5⟩ := ix_str (x := AL) (i := t5) (by decide +kernel) a5 (by rw [al_len]; exact b5)
  have st5 := setW_of (v := .str ⟨#[y5]⟩) (i := 0) (j := 0) g5 (by unfold ixN; rw [if_pos (by decide), if_pos (by rw [List.length_map]; omega)]; rfl)
  have k5 := kAsg_sub (env := [some (.loc p), some (.str AL), some (.int k), some (.loc s3.length), none]) (st := s5) (mo := dVar 3) (mi := dC (.int 0)) (v := .str ⟨#[y5]⟩) rfl rfl st5
  have P5' := P5.set (k := s3.length) (o := .lst ((cs.map sgn).set 0 (.str ⟨#[y5]⟩))) (Ne.symm hp3)
  obtain ⟨t6, s6, e6, a6, b6, P6, K6⟩ := take_ok (m := 36) P5' (by omega) (by decide) (by decide)
  have hl5 : s3.length < s5.length := (List.getElem?_eq_some_iff.mp g5).1
  have g6 : s6[s3.length]? = some (.lst ((cs.map sgn).set 0 (.str ⟨#[y5]⟩))) := by rw [K6.keep _ hp3, List.getElem?_set_self hl5]
  obtain ⟨y6, _, hy6, ey6⟩ := ix_str (x := AL) (i := t6) (by decide +kernel) a6 (by rw [al_len]; exact b6)
  have st6 := setW_of (v := .str ⟨#[y6]⟩) (i := -1) (j := cs.length - 1) g6 (by unfold ixN; rw [if_neg (by decide), if_pos (by rw [List.length_set, List.length_map]; omega)]; congr 1; rw [List.length_set, List.length_map]; omega)
  have k6 := kAsg_sub (env := [some (.loc p), some (.str AL), some (.int k), some (.loc s3.length), none]) (st := s6) (mo := dVar 3) (mi := dUn negW (dC (.int 1))) (v := .str ⟨#[y6]⟩) rfl rfl st6
  have hl6 : s3.length < s6.length := (List.getElem?_eq_some_iff.mp g6).1
  obtain ⟨LL, hLL⟩ : ∃ LL : List Nat, LL = (cs.set 0 y5).set (cs.length - 1) y6 := ⟨_, rfl⟩
  have hLW : ((cs.map sgn).set 0 (.str ⟨#[y5]⟩)).set (cs.length - 1) (.str ⟨#[y6]⟩) = LL.map sgn := by
    rw [hLL, List.map_set, List.map_set]; rfl
  rw [hLW] at k6
  have hlL : LL.length = k.toNat := by rw [hLL]; simp [hlk]
  have hPL : PL LL := by
    have hk : 1 ≤ cs.length := by omega
    refine ⟨by omega, by omega, ?_, ?_, ?_⟩
    · intro c hc
      rw [hLL] at hc
      rcases List.mem_or_eq_of_mem_set hc with hc | rfl
      · rcases List.mem_or_eq_of_mem_set hc with hc | rfl
        · exact hcs c hc
        · exact en_in' _ (in_AL _ hy5)
      · exact en_in' _ (in_AL _ hy6)
    · rw [hLL, List.getD_eq_getElem?_getD]
      by_cases q : cs.length - 1 = 0
      · rw [q, List.getElem?_set_self (by simp; omega)]; exact in_AL _ hy6
      · rw [List.getElem?_set_ne q, List.getElem?_set_self (by omega)]; exact in_AL _ hy5
    · have hle : LL.length - 1 = cs.length - 1 := by omega
      rw [hle, hLL, List.getD_eq_getElem?_getD, List.getElem?_set_self (by simp; omega)]; exact in_AL _ hy6
  have P7 := P6.set (k := s3.length) (o := .lst (LL.map sgn)) (Ne.symm hp3)
  have ex := sgn_join (S := s6.set s3.length (.lst (LL.map sgn))) (q := s3.length) (l := LL) (by rw [List.getElem?_set_self hl6]) (by omega)
  have X : Ext p st (s6.set s3.length (.lst (LL.map sgn))) := by
    have x1 : Ext p st s2 := (K1.ext.trans (.app [.lst L1])).trans K2.ext
    have x2 : Ext p st s5 := ((x1.trans X3).trans (.app [.lst (cs.map sgn)])).trans K5.ext
    exact (((x2.set hle).trans K6.ext).set hle)
  obtain ⟨G1, G2, G3⟩ := gc_pot (v := .str (txt LL)) X P7 hl rfl
  refine ⟨LL, _, ?_, hPL, G3.mono (by omega), G2⟩
  unfold d__law_label; rw [fnDen_ap]; unfold b__law_label
  rw [show ("0123456789abcdefghijklmnopqrstuvwxyz" : Str) = AL from rfl]
  have lst1 : kLst [W.int 1, .int 2, .int 3, .int (1 + t1), .int 20] s1 = .ok (.loc s1.length) (s1 ++ [.lst L1]) := by rw [hL1]; exact lst5 (by simp)
  simp -implicitDefEqProofs [e1, lst1, e2, e3, hr, wipeW]
  rw [e4]
  simp -implicitDefEqProofs only [Res.then_ok, kAsg_n, List.set_cons_succ, List.set_cons_zero, RsS.next_nx, sSeq_ap, sAsg_ap, dOp_ap, dVar_ap, List.getElem?_cons_zero, List.getElem?_cons_succ, Res.bind_ok, kOp1_ap, dCall_ap, dCons_ap, kCons1_ap, dC_ap, dNil_ap, kCons2_ap, kCall_2, e5, ey5, k5, e6, ey6, k6, sRet_ap, dBm_ap, kBm_s, ex, kRet_ap, fnR_rt, G1]
theorem cut_take {l : List Nat} {k : Nat} : cutS (txt l) none (some (k : Int)) = txt (l.take k) := by
  apply str_ext
  show List.take _ (List.drop _ l) = _
  have e1 : HT.sIx (txt l).length 0 none = 0 := rfl
  have e2 : HT.sIx (txt l).length (txt l).length (some (k : Int)) = min k l.length := by
    unfold HT.sIx
    simp only
    rw [if_neg (by omega), txt_len, Int.toNat_natCast]
  rw [e1, e2, Nat.sub_zero, List.drop_zero, ← List.take_take, List.take_length]
  rfl
theorem txt_add (a b : List Nat) : txt a ++ txt b = txt (a ++ b) := by
  show (⟨a.toArray ++ b.toArray⟩ : Str) = ⟨(a ++ b).toArray⟩
  simp
theorem nodup_le {α : Type} [DecidableEq α] : ∀ (l m : List α), l.Nodup → (∀ x ∈ l, x ∈ m) → l.length ≤ m.length
  | [], m, _, _ => Nat.zero_le _
  | a :: l, m, hn, h => by
    rw [List.nodup_cons] at hn
    have ih := nodup_le l (m.erase a) hn.2 fun x hx => (List.mem_erase_of_ne (fun e => hn.1 (by rw [← e]; exact hx))).mpr (h x (List.mem_cons_of_mem _ hx))
    have ha := h a List.mem_cons_self
    have := List.length_erase_of_mem ha
    have hp := List.length_pos_of_mem ha
    rw [List.length_cons]
    omega
theorem spare_ok : ∀ i : Nat, i < 4 → Str.ofString (toString (i : Int)) = txt [48 + i] := by
  intro i hi
  match i, hi with
  | 0, _ => decide +kernel
  | 1, _ => decide +kernel
  | 2, _ => decide +kernel
  | 3, _ => decide +kernel
theorem PL.ok {cs : List Nat} (h : PL cs) : okS (txt cs) = true := okS_iff.mpr ⟨by rw [txt_len]; have := h.l2; omega, fun c hc => in_128 c (h.inn c hc)⟩
theorem pl_spare {i : Nat} (hi : i < 4) : PL [120, 48 + i] := by
  match i, hi with
  | 0, _ => exact ⟨by decide, by decide, by decide +kernel, by decide +kernel, by decide +kernel⟩
  | 1, _ => exact ⟨by decide, by decide, by decide +kernel, by decide +kernel, by decide +kernel⟩
  | 2, _ => exact ⟨by decide, by decide, by decide +kernel, by decide +kernel, by decide +kernel⟩
  | 3, _ => exact ⟨by decide, by decide, by decide +kernel, by decide +kernel, by decide +kernel⟩
theorem pl_more {cs : List Nat} {c : Nat} (h : PL cs) (hc : c ∈ EN) : PL (cs.take 19 ++ [c]) := by
  have h1 := h.l1
  have h2 := h.l2
  have hl : (cs.take 19).length = min 19 cs.length := List.length_take
  refine ⟨by simp, by simp; omega, ?_, ?_, ?_⟩
  · intro z hz
    rcases List.mem_append.mp hz with hz | hz
    · exact h.inn z (List.mem_of_mem_take hz)
    · rw [List.mem_singleton.mp hz]; exact en_in' c hc
  · have e : (cs.take 19 ++ [c]).getD 0 0 = cs.getD 0 0 := by
      rw [List.getD_eq_getElem?_getD, List.getD_eq_getElem?_getD, List.getElem?_append_left (by omega), List.getElem?_take, if_pos (by decide)]
    rw [e]; exact h.fst
  · have e : (cs.take 19 ++ [c]).length - 1 = (cs.take 19).length := by simp
    rw [e, List.getD_eq_getElem?_getD, List.getElem?_append_right (Nat.le_refl _), Nat.sub_self]; exact hc
theorem pu_tW {x : List Nat} (h : PL x) : pu (tW x) := h.ok
theorem ne_nilT {st : Store} {w q : Nat} {l : List (List Nat)} (h : st[w]? = some (.lst (l.map tW))) (h' : st[q]? = some (.lst [])) (hl : l.length ≤ 8192) (hp : ∀ x ∈ l, PL x) : neW (.loc w) (.loc q) st = .ok (.bl (decide (l ≠ []))) st := by
  have p1 : ∀ w ∈ l.map tW, pu w := fun w hw => by obtain ⟨z, hz, rfl⟩ := List.mem_map.mp hw; exact pu_tW (hp z hz)
  have P := Pic.ls w _ h (by simpa using hl) p1
  have P' : Pic st (.loc q) (.fro []) := Pic.ls q _ h' (by simp) (by simp)
  rw [pic_ne P P']
  simp only [dU]
  rw [PyData.eqv.eq_7]
  cases l with
  | nil => simp [PyData.eqvAll]
  | cons a l => simp [PyData.eqvAll]
def SP : List (List Nat) := [[120, 48], [120, 49], [120, 50], [120, 51]]
theorem sp_pl : ∀ x ∈ SP, PL x := fun x hx => by
  unfold SP at hx
  simp only [List.mem_cons, List.not_mem_nil, or_false] at hx
  rcases hx with rfl | rfl | rfl | rfl
  · exact pl_spare (i := 0) (by decide)
  · exact pl_spare (i := 1) (by decide)
  · exact pl_spare (i := 2) (by decide)
  · exact pl_spare (i := 3) (by decide)
theorem fresh_ex {xs : List (List Nat)} {c : List Nat} (h : xs.length < 4) (hc : PL c) : ∃ x, (((c :: SP).filter fun z => !decide (z ∈ xs)).map tW)[0]? = some (tW x) ∧ PL x := by
  cases q : (c :: SP).filter fun z => !decide (z ∈ xs) with
  | nil =>
    rw [List.filter_eq_nil_iff] at q
    have := nodup_le SP xs (by unfold SP; decide) fun x hx => by
      have := q x (List.mem_cons_of_mem _ hx)
      simpa using this
    have e : SP.length = 4 := rfl
    omega
  | cons x l =>
    refine ⟨x, rfl, ?_⟩
    have hx : x ∈ (c :: SP).filter fun z => !decide (z ∈ xs) := by rw [q]; exact List.mem_cons_self
    rcases List.mem_cons.mp (List.mem_filter.mp hx).1 with rfl | hx
    · exact hc
    · exact sp_pl x hx
section
variable {p n F : Nat} {S : Store} {xs : List (List Nat)} {b3 a5 : Option W} {cs : List Nat}
end
section
variable {p n F : Nat} {S : Store} {xs : List (List Nat)} {b3 a4 a5 : Option W} {cs : List Nat}
end
theorem tuple_loc {T : Store} {w : Nat} {ws : List W} (h : T[w]? = some (.lst ws)) : tupleW [.loc w] T = .ok (.tup ws) T := by
  unfold tupleW lstW
  simp only [h]
/-- a name without a star -/
def NM (w : W) : Prop := ∃ l : List (List Nat), w = .tup (l.map tW) ∧ (∀ x ∈ l, PL x) ∧ l.length ≤ 12
theorem NM.pu {w : W} (h : NM w) : pu w := by
  obtain ⟨l, rfl, hl, h2⟩ := h
  show (decide ((l.map tW).length ≤ 8192) && (l.map tW).all (puB 4)) = true
  rw [Bool.and_eq_true, decide_eq_true_iff, List.all_eq_true]
  exact ⟨by simp; omega, fun a ha => by
    obtain ⟨x, hx, rfl⟩ := List.mem_map.mp ha
    exact (hl x hx).ok⟩
theorem NM.ask {w : W} (h : NM w) : askB w = true := by
  obtain ⟨l, rfl, hl, h2⟩ := h
  show (l.map tW).all plS = true
  rw [List.all_map, List.all_eq_true]
  exact fun x hx => (hl x hx).plain
theorem NM.cl {w : W} (h : NM w) (k : Nat) : clB k w = true := cl_pu k 5 w h.pu
theorem nms_cl {nl : List W} (h : ∀ w ∈ nl, NM w) (k : Nat) : clBs k nl = true := cls_pu k 5 nl fun w hw => (h w hw).pu
def nB : DS := (sExpr (dBm tyL appendW (dVar 2) (dCons (dApp tupleW (dCons (dLc (dRange1 (dCons (dCall 2 d__law_take (dCons (dVar 0) (dCons (dC (.int 5)) dNil))) dNil)) [4] (tName 4) dYes (dOp ixW (dVar 1) (dCall 2 d__law_take (dCons (dVar 0) (dCons (dC (.int 4)) dNil))))) dNil)) dNil)))
section
variable {p n F q : Nat} {S : Store} {xs : List (List Nat)} {nl : List W} {b3 : Option W}
theorem nB_ok (P : PotA p n S) (hF : S[F]? = some (.lst nl)) (hq : S[q]? = some (.lst (xs.map tW))) (hpF : p ≠ F) (hpq : p ≠ q) (hx : xs.length = 4) (hpl : ∀ x ∈ xs, PL x) (hnl : nl.length ≤ 10) (hn : n + 10 ≤ 1000000) : ∃ (w : W) (T : Store), nB [some (.loc p), some (.loc q), some (.loc F), b3, none] S = .go .nx [some (.loc p), some (.loc q), some (.loc F), b3, none] (T.set F (.lst (nl ++ [w]))) ∧ NM w ∧ F < T.length ∧ PotA p (n + 6) T ∧ Ext p S T := by
  have kb : ∀ r env, kBm tyL appendW r env (.loc F) S = (r env S).bind (appendW (.loc F)) := fun r env => kBm_l appendW hF
  obtain ⟨r, s1, e1, r0, r1, P1, K1⟩ := take_ok (m := 5) P (by omega) (by decide) (by decide)
  have hr := kR1_ok (st := s1) (j := r) (Int.le_trans (by decide) r0) (Int.lt_trans r1 (by decide))
  have hql : q < S.length := (List.getElem?_eq_some_iff.mp hq).1
  have q1 : s1[q]? = some (.lst (xs.map tW)) := by rw [K1.keep _ (Ne.symm hpq)]; exact hq
  obtain ⟨acc, s2, e2, hn2, P2, X2, l, rfl, hl⟩ := kLc_ok (env := [some (.loc p), some (.loc q), some (.loc F), b3, none]) (i := 4) (e := (dOp ixW (dVar 1) (dCall 2 d__law_take (dCons (dVar 0) (dCons (dC (.int 4)) dNil))))) (st := s1) (ws := intsW 0 r.toNat)
    (fun i acc S => PotA p (n + 1 + i) S ∧ Kp p s1 S ∧ ∃ l : List (List Nat), acc = l.map tW ∧ ∀ x ∈ l, PL x) (fun i w acc S hw hJ => by
      obtain ⟨hP, hX, l, rfl, hl⟩ := hJ
      have hi : i < r.toNat := by rw [← ints_len]; exact (List.getElem?_eq_some_iff.mp hw).1
      obtain ⟨t, s', e, t0, t1, P, Kq⟩ := take_ok (m := 4) hP (by omega) (by decide) (by decide)
      obtain ⟨j, rfl⟩ : ∃ j : Nat, t = (j : Int) := ⟨t.toNat, by omega⟩
      have hj : j < xs.length := by omega
      have q' : s'[q]? = some (.lst (xs.map tW)) := by rw [Kq.keep _ (Ne.symm hpq), hX.keep _ (Ne.symm hpq)]; exact q1
      have ix := ix_tW q' hj
      have hxj : PL (xs.getD j []) := by
        rw [List.getD_eq_getElem?_getD, List.getElem?_eq_getElem hj]; exact hpl _ (List.getElem_mem _)
      refine ⟨tW (xs.getD j []), s', ?_, P, hX.trans Kq, l ++ [xs.getD j []], by simp, fun z hz => by
        rcases List.mem_append.mp hz with h | h
        · exact hl z h
        · rw [List.mem_singleton.mp h]; exact hxj⟩
      generalize xs.getD j [] = y at *
      generalize (j : Int) = J at *
      simp -implicitDefEqProofs only [dOp_ap, dVar_ap, dCall_ap, dCons_ap, dC_ap, dNil_ap, List.set_cons_succ, List.set_cons_zero, List.getElem?_cons_zero, List.getElem?_cons_succ, Res.bind_ok, kOp1_ap, kCons1_ap, kCons2_ap, kCall_2, e, ix]) (by rw [ints_len]; exact line8 (by omega)) ⟨P1, .refl, [], rfl, by simp⟩
  rw [ints_len] at hn2 P2
  have hll : l.length ≤ 5 := by have : l.length = r.toNat := by simpa using hn2
                                omega
  obtain ⟨T, hT⟩ : ∃ T, T = s2 ++ [Ob.lst (l.map tW)] := ⟨_, rfl⟩
  rw [← hT] at e2
  have tu : tupleW [.loc s2.length] T = .ok (.tup (l.map tW)) T := tuple_loc (by rw [hT]; simp)
  have FT : T[F]? = some (.lst nl) := by rw [hT]; refine get_app _ ?_; rw [X2.keep _ (Ne.symm hpF), K1.keep _ (Ne.symm hpF)]; exact hF
  have ap := app_nums (w := .tup (l.map tW)) FT (Nat.lt_of_le_of_lt hnl (by decide))
  refine ⟨.tup (l.map tW), T, ?_, ⟨l, rfl, hl, by omega⟩, (List.getElem?_eq_some_iff.mp FT).1, by rw [hT]; exact (P2.mono (by omega)).app _, by rw [hT]; exact (K1.ext.trans X2.ext).trans (.app _)⟩
  unfold nB
  simp -implicitDefEqProofs only [sExpr_ap, dBm_ap, dVar_ap, List.getElem?_cons_zero, List.getElem?_cons_succ, Res.bind_ok, kb, dCons_ap, dApp_ap, dLc_ap, dRange1_ap, dCall_ap, dC_ap, dNil_ap, kCons1_ap, kCons2_ap, kCall_2, e1, hr, wipeW, List.set_cons_succ, List.set_cons_zero]
  rw [e2]
  simp -implicitDefEqProofs only [Res.bind_ok, kCons1_ap, dNil_ap, kCons2_ap, tu, ap, Res.then_ok, kExpr_ap]
end
/-- what data of a kind are ordered by -/
def revV : W → W
  | .tup ws => .tup ws.reverse
  | w => w
theorem ask_tup {w : W} (h : askB w = true) : ∃ ws, w = .tup ws ∧ ∀ x ∈ ws, ∃ s : Str, x = .str s ∧ plainB s = true := by
  cases w with
  | tup ws =>
    refine ⟨ws, rfl, fun x hx => ?_⟩
    have := List.all_eq_true.mp (show ws.all plS = true from h) x hx
    cases x with
    | str s => exact ⟨s, rfl, this⟩
    | _ => exact nomatch (show false = true from this)
  | _ => exact nomatch (show false = true from h)
section
variable {st : Store} {n : Nat} {w : W} {ws : List W} {k : Str}
theorem pu_tup {ws : List W} (hl : ws.length ≤ 8192) (h : ∀ w ∈ ws, puB 4 w = true) : pu (.tup ws) := by
  show (decide (ws.length ≤ 8192) && ws.all (puB 4)) = true
  rw [Bool.and_eq_true, decide_eq_true_iff, List.all_eq_true]
  exact ⟨hl, h⟩
theorem pu_rev (h : pu (.tup ws)) : pu (.tup ws.reverse) := by
  obtain ⟨hl, hi⟩ := pu_items h
  exact pu_tup (by simpa using hl) fun w hw => hi w (List.mem_reverse.mp hw)
theorem place_ok (h : pu (.tup ws)) : d_place [.tup ws] st = .ok (.tup ws.reverse) st := by
  have g : gc st (.tup ws.reverse) st = .ok (.tup ws.reverse) st := gc_same (cl_pu _ 5 _ (pu_rev h))
  have r : rev2W (.tup ws) st = .ok (.tup ws.reverse) st := rfl
  unfold d_place; rw [fnDen_ap]; unfold b_place
  simp -implicitDefEqProofs only [List.map_cons, List.map_nil, List.length_cons, List.length_nil, Nat.reduceAdd, Nat.reduceSub, List.replicate_zero, List.append_nil, sRet_ap, dUn_ap, dVar_ap, List.getElem?_cons_zero, Res.bind_ok, r, Res.then_ok, kRet_ap, fnR_rt, g]
theorem puB4 {w : W} (h : puB 4 w = true) : pu w := puB_mono h (by decide)
end
/-! ### an order of nested tuples -/
def lexL : List (Bool × Bool) → Bool → Bool
  | [], z => z
  | (e, r) :: ps, z => if e = true then lexL ps z else r
theorem lex_at (z : Bool) : ∀ (ps qs : List (Bool × Bool)), Ob.lexAt (fun j => ((qs ++ ps).getD j (false, false)).1) (fun j => ((qs ++ ps).getD j (false, false)).2) z qs.length ps.length = lexL ps z
  | [], qs => rfl
  | (e, r) :: ps, qs => by
    have g : (qs ++ (e, r) :: ps).getD qs.length (false, false) = (e, r) := by simp
    have ih := lex_at z ps (qs ++ [(e, r)])
    rw [List.length_append, List.append_assoc] at ih
    rw [List.length_cons, Ob.lexAt_succ, g]
    show (if e = true then _ else r) = if e = true then _ else r
    cases e with
    | true => rw [if_pos rfl, if_pos rfl]; exact ih
    | false => rfl
theorem lex_here (ps : List (Bool × Bool)) (z : Bool) : Ob.lexAt (fun j => (ps.getD j (false, false)).1) (fun j => (ps.getD j (false, false)).2) z 0 ps.length = lexL ps z := lex_at z ps []
def sn : Nat → W → Bool
  | 0, _ => false
  | n + 1, w => match w with
    | .int _ => true
    | .str x => okS x
    | .tup ws => decide (ws.length ≤ 8192) && ws.all (sn n)
    | _ => false
theorem sn_items {n : Nat} {ws : List W} (h : sn (n + 1) (.tup ws) = true) : ws.length ≤ 8192 ∧ ∀ w ∈ ws, sn n w = true := by
  have h' : (decide (ws.length ≤ 8192) && ws.all (sn n)) = true := h
  rw [Bool.and_eq_true, decide_eq_true_iff, List.all_eq_true] at h'
  exact h'
theorem sn_tup {n : Nat} {ws : List W} (h : ws.length ≤ 8192) (h2 : ∀ w ∈ ws, sn n w = true) : sn (n + 1) (.tup ws) = true := by
  show (decide (ws.length ≤ 8192) && ws.all (sn n)) = true
  rw [Bool.and_eq_true, decide_eq_true_iff, List.all_eq_true]
  exact ⟨h, h2⟩
theorem sn_pu : ∀ (n : Nat) (w : W), sn n w = true → puB n w = true
  | 0, _, h => nomatch h
  | n + 1, w, h => by
    cases w with
    | int _ => rfl
    | str x => exact h
    | tup ws =>
      obtain ⟨h1, h2⟩ := sn_items h
      show (decide (ws.length ≤ 8192) && ws.all (puB n)) = true
      rw [Bool.and_eq_true, decide_eq_true_iff, List.all_eq_true]
      exact ⟨h1, fun w hw => sn_pu n w (h2 w hw)⟩
    | _ => exact nomatch (show false = true from h)
theorem eqv_sn : ∀ (n : Nat) (a b : W), sn n a = true → sn n b = true → ((dat n a).eqv (dat n b) = true ↔ a = b)
  | 0, _, _, h, _ => nomatch h
  | n + 1, a, b, h, h' => by
    have key : ∀ (xs ys : List W), (∀ w ∈ xs, sn n w = true) → (∀ w ∈ ys, sn n w = true) → (PyData.eqvAll (xs.map (dat n)) (ys.map (dat n)) = true ↔ xs = ys) := by
      intro xs
      induction xs with
      | nil =>
        intro ys _ _
        cases ys with
        | nil => exact ⟨fun _ => rfl, fun _ => rfl⟩
        | cons y ys => exact ⟨fun e => (nomatch e), fun e => (nomatch e)⟩
      | cons x xs ih =>
        intro ys hx hy
        cases ys with
        | nil => exact ⟨fun e => (nomatch e), fun e => (nomatch e)⟩
        | cons y ys =>
          rw [List.map_cons, List.map_cons, PyData.eqvAll.eq_2, Bool.and_eq_true, eqv_sn n x y (hx x List.mem_cons_self) (hy y List.mem_cons_self), ih ys (fun w hw => hx w (List.mem_cons_of_mem _ hw)) (fun w hw => hy w (List.mem_cons_of_mem _ hw))]
          constructor
          · rintro ⟨rfl, rfl⟩; rfl
          · intro e; cases e; exact ⟨rfl, rfl⟩
    cases a with
    | int i =>
      cases b with
      | int j =>
        show (PyData.int i).eqv (.int j) = true ↔ _
        rw [PyData.eqv.eq_5]
        constructor
        · intro e; rw [eq_of_beq e]
        · intro e; cases e; exact beq_self_eq_true _
      | str y => exact ⟨fun e => (nomatch (show false = true from e)), fun e => (nomatch e)⟩
      | tup ys => exact ⟨fun e => (nomatch (show false = true from e)), fun e => (nomatch e)⟩
      | _ => exact nomatch (show false = true from h')
    | str x =>
      cases b with
      | int j => exact ⟨fun e => (nomatch (show false = true from e)), fun e => (nomatch e)⟩
      | str y =>
        show (PyData.str x).eqv (.str y) = true ↔ _
        rw [PyData.eqv.eq_6]
        constructor
        · intro e; rw [eq_of_beq e]
        · intro e; cases e; exact beq_self_eq_true _
      | tup ys => exact ⟨fun e => (nomatch (show false = true from e)), fun e => (nomatch e)⟩
      | _ => exact nomatch (show false = true from h')
    | tup xs =>
      cases b with
      | int j => exact ⟨fun e => (nomatch (show false = true from e)), fun e => (nomatch e)⟩
      | str y => exact ⟨fun e => (nomatch (show false = true from e)), fun e => (nomatch e)⟩
      | tup ys =>
        show (PyData.tuple (xs.map (dat n))).eqv (.tuple (ys.map (dat n))) = true ↔ _
        rw [PyData.eqv.eq_8, key xs ys (sn_items h).2 (sn_items h').2]
        constructor
        · rintro rfl; rfl
        · intro e; cases e; rfl
      | _ => exact nomatch (show false = true from h')
    | _ => exact nomatch (show false = true from h)
def Cmp : Nat → W → W → Prop
  | 0, _, _ => False
  | _ + 1, .int _, .int _ => True
  | _ + 1, .str _, .str _ => True
  | n + 1, .tup xs, .tup ys => ∀ (j : Nat) (x y : W), xs[j]? = some x → ys[j]? = some y → Cmp n x y
  | _ + 1, _, _ => False
theorem str_turn {x y : Str} (h : x ≠ y) : decide (y.cps.toList < x.cps.toList) = !decide (x.cps.toList < y.cps.toList) := by
  have hn : x.cps.toList ≠ y.cps.toList := fun e => h (str_ext e)
  by_cases q : x.cps.toList < y.cps.toList
  · rw [decide_eq_true q, decide_eq_false (List.lt_asymm q)]; rfl
  · rw [decide_eq_false q]
    rcases List.le_iff_lt_or_eq.mp (List.not_lt.mp q) with h' | h'
    · rw [decide_eq_true h']; rfl
    · exact absurd h'.symm hn
theorem ord_tot (st : Store) : ∀ (n m : Nat) (a b : W), n ≤ m → m ≤ 8 → sn n a = true → sn n b = true → Cmp n a b → ∃ r, ordUW st m a b = some r ∧ ∃ r', ordUW st m b a = some r' ∧ (a ≠ b → r' = !r)
  | 0, _, _, _, _, _, h, _, _ => nomatch h
  | n + 1, 0, _, _, h, _, _, _, _ => by omega
  | n + 1, m + 1, a, b, hm, h8, ha, hb, hc => by
    have key : ∀ (xs ys : List W), (∀ w ∈ xs, sn n w = true) → (∀ w ∈ ys, sn n w = true) → (∀ (j : Nat) (x y : W), xs[j]? = some x → ys[j]? = some y → Cmp n x y) →
        ∃ ps qs, ordsUW st m xs ys = some ps ∧ ordsUW st m ys xs = some qs ∧ ps.length = min xs.length ys.length ∧ qs.length = min ys.length xs.length ∧ (xs ≠ ys → lexL qs (decide (ys.length < xs.length)) = !lexL ps (decide (xs.length < ys.length))) := by
      intro xs
      induction xs with
      | nil =>
        intro ys _ _ _
        cases ys with
        | nil => exact ⟨[], [], by simp [ordsUW], by simp [ordsUW], rfl, rfl, fun e => absurd rfl e⟩
        | cons y ys =>
          refine ⟨[], [], by simp [ordsUW], by simp [ordsUW], by simp, by simp, fun _ => ?_⟩
          show decide ((y :: ys).length < 0) = !decide (0 < (y :: ys).length)
          simp
      | cons x xs ih =>
        intro ys hx hy hxy
        cases ys with
        | nil =>
          refine ⟨[], [], by simp [ordsUW], by simp [ordsUW], by simp, by simp, fun _ => ?_⟩
          show decide (0 < (x :: xs).length) = !decide ((x :: xs).length < 0)
          simp
        | cons y ys =>
          obtain ⟨ps, qs, e1, e2, l1, l2, hl⟩ := ih ys (fun w hw => hx w (List.mem_cons_of_mem _ hw)) (fun w hw => hy w (List.mem_cons_of_mem _ hw)) (fun j a b h h' => hxy (j + 1) a b (by simpa using h) (by simpa using h'))
          have sx := hx x List.mem_cons_self
          have sy := hy y List.mem_cons_self
          obtain ⟨r, o1, r', o2, ho⟩ := ord_tot st n m x y (by omega) (by omega) sx sy (hxy 0 x y rfl rfl)
          have dx := datF_pu n x (sn_pu n x sx) 66 st (by omega)
          have dy := datF_pu n y (sn_pu n y sy) 66 st (by omega)
          have hsx : SeqAt.shaped (dat n x) = true := shaped_of ⟨can_pu n x (sn_pu n x sx), Nat.le_trans (dep_pu n x (sn_pu n x sx)) (by omega)⟩
          have hsy : SeqAt.shaped (dat n y) = true := shaped_of ⟨can_pu n y (sn_pu n y sy), Nat.le_trans (dep_pu n y (sn_pu n y sy)) (by omega)⟩
          have len : ∀ (u v : W) (us vs : List W), decide ((u :: us).length < (v :: vs).length) = decide (us.length < vs.length) := fun u v us vs => by
            rw [Bool.eq_iff_iff, decide_eq_true_iff, decide_eq_true_iff, List.length_cons, List.length_cons]; omega
          by_cases q : x = y
          · have v1 := (eqv_sn n x y sx sy).mpr q
            have v2 := (eqv_sn n y x sy sx).mpr q.symm
            refine ⟨(true, false) :: ps, (true, false) :: qs, ?_, ?_, by simp [l1], by simp [l2], fun hne => ?_⟩
            · unfold ordsUW; simp only [dx, dy, if_pos (And.intro hsx hsy), v1, if_true, e1]
            · unfold ordsUW; simp only [dx, dy, if_pos (And.intro hsy hsx), v2, if_true, e2]
            · rw [len, len]
              exact hl fun e => hne (by rw [q, e])
          · have v1 : (dat n x).eqv (dat n y) = false := by
              cases v : (dat n x).eqv (dat n y) with
              | true => exact absurd ((eqv_sn n x y sx sy).mp v) q
              | false => rfl
            have v2 : (dat n y).eqv (dat n x) = false := by
              cases v : (dat n y).eqv (dat n x) with
              | true => exact absurd ((eqv_sn n y x sy sx).mp v).symm q
              | false => rfl
            refine ⟨(false, r) :: ps, (false, r') :: qs, ?_, ?_, by simp [l1], by simp [l2], fun _ => ?_⟩
            · unfold ordsUW; simp only [dx, dy, if_pos (And.intro hsx hsy), v1, o1, e1]; rfl
            · unfold ordsUW; simp only [dx, dy, if_pos (And.intro hsy hsx), v2, o2, e2]; rfl
            · show r' = !r
              exact ho q
    cases a with
    | int i =>
      cases b with
      | int j =>
        refine ⟨decide (i < j), rfl, decide (j < i), rfl, fun hne => ?_⟩
        have hij : i ≠ j := fun e => hne (by rw [e])
        rw [← decide_not, Bool.eq_iff_iff, decide_eq_true_iff, decide_eq_true_iff]; omega
      | _ => exact hc.elim
    | str x =>
      cases b with
      | str y => exact ⟨_, rfl, _, rfl, fun hne => str_turn fun e => hne (by rw [e])⟩
      | _ => exact hc.elim
    | tup xs =>
      cases b with
      | tup ys =>
        obtain ⟨ps, qs, e1, e2, l1, l2, hl⟩ := key xs ys (sn_items ha).2 (sn_items hb).2 hc
        refine ⟨lexL ps (decide (xs.length < ys.length)), ?_, lexL qs (decide (ys.length < xs.length)), ?_, fun hne => hl fun e => hne (by rw [e])⟩
        · unfold ordUW; simp only [e1]; rw [← l1, lex_here]
        · unfold ordUW; simp only [e2]; rw [← l2, lex_here]
      | _ => exact hc.elim
    | _ => exact nomatch (show false = true from ha)
theorem sn_mono : ∀ {n m : Nat} {w : W}, sn n w = true → n ≤ m → sn m w = true
  | 0, _, _, h, _ => nomatch h
  | n + 1, 0, _, _, hm => by omega
  | n + 1, m + 1, w, h, hm => by
    cases w with
    | tup ws => exact sn_tup (sn_items h).1 fun a ha => sn_mono ((sn_items h).2 a ha) (by omega)
    | str x => exact h
    | int _ => rfl
    | _ => exact nomatch (show false = true from h)
def allS (us : List W) : Prop := ∀ x ∈ us, ∃ s : Str, x = .str s ∧ okS s = true
theorem ask_strs {us : List W} (h : askB (.tup us) = true) (hp : pu (.tup us)) : allS us := fun x hx => by
  obtain ⟨us', e, h2⟩ := ask_tup h
  cases e
  obtain ⟨s, rfl, _⟩ := h2 x hx
  exact ⟨s, rfl, (pu_items hp).2 _ hx⟩
theorem allS.rev {us : List W} (h : allS us) : allS us.reverse := fun x hx => h x (List.mem_reverse.mp hx)
theorem allS.sn {us : List W} (h : allS us) (hl : us.length ≤ 8192) : sn 2 (.tup us) = true := sn_tup hl fun w hw => by
  obtain ⟨s, rfl, hs⟩ := h w hw
  exact hs
theorem allS.cmp {us vs : List W} (h : allS us) (h' : allS vs) : Cmp 2 (.tup us) (.tup vs) := fun j x y hx hy => by
  obtain ⟨s, rfl, _⟩ := h x (List.mem_of_getElem? hx)
  obtain ⟨t, rfl, _⟩ := h' y (List.mem_of_getElem? hy)
  exact True.intro
section
variable {st : Store} {k : Str} {a b : W}
theorem rev_inj {us vs : List W} (h : W.tup us.reverse = .tup vs.reverse) : us = vs := by
  have := W.tup.inj h
  rw [← List.reverse_reverse us, this, List.reverse_reverse]
theorem eq_sn (ha : sn 5 a = true) (hb : sn 5 b = true) : eqW a b st = .ok (.bl (decide (a = b))) st ∧ neW a b st = .ok (.bl (!decide (a = b))) st := by
  have e : (dat 5 a).eqv (dat 5 b) = decide (a = b) := by
    rw [Bool.eq_iff_iff, eqv_sn 5 a b ha hb, decide_eq_true_iff]
  have p1 := Pic.pu (st := st) a (sn_pu 5 a ha)
  have p2 := Pic.pu (st := st) b (sn_pu 5 b hb)
  have d1 : dU a = dat 5 a := dU_pu (sn_pu 5 a ha)
  have d2 : dU b = dat 5 b := dU_pu (sn_pu 5 b hb)
  refine ⟨?_, ?_⟩
  · rw [pic_eq p1 p2, d1, d2, e]
  · rw [pic_ne p1 p2, d1, d2, e]
def ordI (a b : W) (r : Bool) : Int := if a = b then 0 else if r = true then -1 else 1
end
end
end K02
namespace K02
open PySem PySem.Spec PyProof.Rows L2 MP
open Classical
noncomputable section
theorem spare6 : ∀ i : Nat, i < 6 → Str.ofString (toString (i : Int)) = txt [48 + i] := by
  intro i hi
  match i, hi with
  | 0, _ => decide +kernel
  | 1, _ => decide +kernel
  | 2, _ => decide +kernel
  | 3, _ => decide +kernel
  | 4, _ => decide +kernel
  | 5, _ => decide +kernel
theorem pl_spare6 {i : Nat} (hi : i < 6) : PL [120, 48 + i] := by
  match i, hi with
  | 0, _ => exact ⟨by decide, by decide, by decide +kernel, by decide +kernel, by decide +kernel⟩
  | 1, _ => exact ⟨by decide, by decide, by decide +kernel, by decide +kernel, by decide +kernel⟩
  | 2, _ => exact ⟨by decide, by decide, by decide +kernel, by decide +kernel, by decide +kernel⟩
  | 3, _ => exact ⟨by decide, by decide, by decide +kernel, by decide +kernel, by decide +kernel⟩
  | 4, _ => exact ⟨by decide, by decide, by decide +kernel, by decide +kernel, by decide +kernel⟩
  | 5, _ => exact ⟨by decide, by decide, by decide +kernel, by decide +kernel, by decide +kernel⟩
def SPn (M : Nat) : List (List Nat) := (List.range M).map fun i => [120, 48 + i]
theorem spn_pl {M : Nat} (hM : M ≤ 6) : ∀ x ∈ SPn M, PL x := fun x hx => by
  obtain ⟨i, hi, rfl⟩ := List.mem_map.mp hx
  have := List.mem_range.mp hi
  exact pl_spare6 (by omega)
theorem spn_nd : ∀ M, M ≤ 6 → (SPn M).Nodup := by decide
theorem fresh6 {M : Nat} {xs : List (List Nat)} {c : List Nat} (hM : M ≤ 6) (h : xs.length < M) (hc : PL c) : ∃ x, (((c :: SPn M).filter fun z => !decide (z ∈ xs)).map tW)[0]? = some (tW x) ∧ PL x := by
  cases q : (c :: SPn M).filter fun z => !decide (z ∈ xs) with
  | nil =>
    rw [List.filter_eq_nil_iff] at q
    have := nodup_le (SPn M) xs (spn_nd M hM) fun x hx => by
      have := q x (List.mem_cons_of_mem _ hx)
      simpa using this
    have e : (SPn M).length = M := by simp [SPn]
    omega
  | cons x l =>
    refine ⟨x, rfl, ?_⟩
    have hx : x ∈ (c :: SPn M).filter fun z => !decide (z ∈ xs) := by rw [q]; exact List.mem_cons_self
    rcases List.mem_cons.mp (List.mem_filter.mp hx).1 with rfl | hx
    · exact hc
    · exact spn_pl hM x hx
def wIf : DS := (sIf (dAnd (dBool (dOp neW (dVar 2) (dLst dNil))) (dBool (dOp eqW (dCall 2 d__law_take (dCons (dVar 0) (dCons (dC (.int 3)) dNil))) (dC (.int 0)))))
    (sAsg (dOp addW (dSl (dOp ixW (dVar 2) (dCall 2 d__law_take (dCons (dVar 0) (dCons (dApp lenW (dCons (dVar 2) dNil)) dNil)))) dNoPart (dPart (dC (.int 19)))) (dOp ixW (dC (.str "0a9z")) (dCall 2 d__law_take (dCons (dVar 0) (dCons (dC (.int 4)) dNil))))) (tName 4))
    sNil)
section
variable {p n F M : Nat} {S : Store} {xs : List (List Nat)} {b3 a5 : Option W} {cs : List Nat}
theorem wIf_ok (P : PotA p n S) (hF : S[F]? = some (.lst (xs.map tW))) (hpF : p ≠ F) (hM : M ≤ 6) (hx : xs.length < M) (hpl : ∀ x ∈ xs, PL x) (hc : PL cs) (hn : n + 10 ≤ 1000000) : ∃ (c : List Nat) (T : Store), wIf [some (.loc p), some (.int (M : Int)), some (.loc F), b3, some (tW cs), a5, none, none] S = .go .nx [some (.loc p), some (.int (M : Int)), some (.loc F), b3, some (tW c), a5, none, none] T ∧ PL c ∧ PotA p (n + 5) T ∧ Ext p S T := by
  have kn : kLst [] S = .ok (.loc S.length) (S ++ [.lst []]) := lst5 (by simp)
  have nn := ne_nilT (q := S.length) (get_app [.lst []] hF) (by simp) (by omega) hpl
  obtain ⟨T1, hT1⟩ : ∃ T1, T1 = S ++ [Ob.lst []] := ⟨_, rfl⟩
  have P1 : PotA p n T1 := by rw [hT1]; exact P.app _
  have F1 : T1[F]? = some (.lst (xs.map tW)) := by rw [hT1]; exact get_app _ hF
  have X1 : Ext p S T1 := by rw [hT1]; exact .app _
  rw [← hT1] at kn nn
  by_cases q : xs = []
  · have : decide (xs ≠ []) = false := by simp [q]
    rw [this] at nn
    refine ⟨cs, T1, ?_, hc, P1.mono (by omega), X1⟩
    unfold wIf
    simp -implicitDefEqProofs only [sIf_ap, dAnd_ap, dBool_ap, dOp_ap, dVar_ap, dLst_ap, dNil_ap, List.getElem?_cons_zero, List.getElem?_cons_succ, Res.bind_ok, kOp1_ap, kn, nn, kBool_ap, kAnd_f, Res.then_ok, kSIf_f, sNil_ap]
  · have hd : decide (xs ≠ []) = true := decide_eq_true q
    rw [hd] at nn
    obtain ⟨r, T2, e2, r0, r1, P2, K2⟩ := take_ok (m := 3) P1 (by omega) (by decide) (by decide)
    by_cases qr : r = 0
    · subst qr
      have F2 : T2[F]? = some (.lst (xs.map tW)) := by rw [K2.keep _ (Ne.symm hpF)]; exact F1
      have ln : lenW [.loc F] T2 = .ok (.int (xs.length : Int)) T2 := by rw [len_seq (seq_loc F2)]; simp
      have hx1 : 1 ≤ xs.length := List.length_pos_iff.mpr q
      obtain ⟨j, T3, e3, j0, j1, P3, K3⟩ := take_ok (m := (xs.length : Int)) P2 (by omega) (by omega) (by omega)
      obtain ⟨i, rfl⟩ : ∃ i : Nat, j = (i : Int) := ⟨j.toNat, by omega⟩
      have hi : i < xs.length := by omega
      have F3 : T3[F]? = some (.lst (xs.map tW)) := by rw [K3.keep _ (Ne.symm hpF)]; exact F2
      have ix := ix_tW F3 hi
      have hxi : PL (xs.getD i []) := by
        rw [List.getD_eq_getElem?_getD, List.getElem?_eq_getElem hi]; exact hpl _ (List.getElem_mem _)
      obtain ⟨t, T4, e4, t0, t1, P4, K4⟩ := take_ok (m := 4) P3 (by omega) (by decide) (by decide)
      obtain ⟨c, _, hce, ey⟩ := ix_str (x := "0a9z") (i := t) (by decide +kernel) t0 (by rw [show (("0a9z" : Str).length : Int) = 4 from rfl]; exact t1)
      have hcE : c ∈ EN := (by decide +kernel : ∀ c ∈ ("0a9z" : Str).cps.toList, c ∈ EN) c hce
      have hm := pl_more hxi hcE
      generalize xs.getD i [] = y at *
      have sl : ∀ T, slW (tW y) none (some 19) T = .ok (.str (txt (y.take 19))) T := fun T => by
        have := sl_str (z := txt y) (lo := none) (hi := some ((19 : Nat) : Int)) (st := T) hxi.ok
        rw [cut_take] at this
        exact this
      have ad : addW (.str (txt (y.take 19))) (.str ⟨#[c]⟩) T4 = .ok (tW (y.take 19 ++ [c])) T4 := by
        rw [← txt_one, addW_s (by rw [txt_len, txt_len]; simp; exact Nat.le_trans (show min 19 y.length + 1 ≤ 8192 by omega) (by decide)), txt_add]; rfl
      refine ⟨y.take 19 ++ [c], T4, ?_, hm, P4.mono (by omega), ((X1.trans K2.ext).trans K3.ext).trans K4.ext⟩
      generalize (i : Int) = I at *
      generalize (xs.length : Int) = N at *
      unfold wIf
      simp -implicitDefEqProofs only [sIf_ap, dAnd_ap, dBool_ap, dOp_ap, dVar_ap, dLst_ap, dNil_ap, List.getElem?_cons_zero, List.getElem?_cons_succ, Res.bind_ok, kOp1_ap, kn, nn, kBool_ap, kAnd_t, dCall_ap, dCons_ap, dC_ap, kCons1_ap, kCons2_ap, kCall_2, e2, eqW_int, beq_self_eq_true, Res.then_ok, kSIf_t, sAsg_ap, dSl_ap, dApp_ap, ln, e3, ix, kSl1_ap, dNoPart_ap, kSl2_ap, dPart_ap, kPart_ap, sl, e4, ey, ad, kAsg_n, List.set_cons_succ, List.set_cons_zero]
    · have q0 : (r == 0) = false := beq_false_of_ne qr
      refine ⟨cs, T2, ?_, hc, P2.mono (by omega), X1.trans K2.ext⟩
      unfold wIf
      simp -implicitDefEqProofs only [sIf_ap, dAnd_ap, dBool_ap, dOp_ap, dVar_ap, dLst_ap, dNil_ap, List.getElem?_cons_zero, List.getElem?_cons_succ, Res.bind_ok, kOp1_ap, kn, nn, kBool_ap, kAnd_t, dCall_ap, dCons_ap, dC_ap, kCons1_ap, kCons2_ap, kCall_2, e2, eqW_int, q0, Res.then_ok, kSIf_f, sNil_ap]
end
def wB : DS := (sSeq (sAsg (dCall 1 d__law_label (dCons (dVar 0) dNil)) (tName 4))
    (sSeq wIf
    (sSeq (sAsg (dLc (dRange1 (dCons (dVar 1) dNil)) [6] (tName 6) dYes (dOp addW (dC (.str "x")) (dApp strW (dCons (dVar 6) dNil)))) (tName 5))
    (sExpr (dBm tyL appendW (dVar 2) (dCons (dOp ixW (dLc (dIt (dOp addW (dLst (dCons (dVar 4) dNil)) (dVar 5))) [7] (tName 7) (dBool (dOp (inW true) (dVar 7) (dVar 2))) (dVar 7)) (dC (.int 0))) dNil))))))
section
variable {p n F M : Nat} {S : Store} {xs : List (List Nat)} {b3 a4 a5 : Option W} {cs : List Nat}
theorem wB_ok (P : PotA p n S) (hF : S[F]? = some (.lst (xs.map tW))) (hpF : p ≠ F) (hM : M ≤ 6) (hx : xs.length < M) (hpl : ∀ x ∈ xs, PL x) (hn : n + 50 ≤ 1000000) : ∃ (x : List Nat) (c4 c5 : Option W) (T : Store), wB [some (.loc p), some (.int (M : Int)), some (.loc F), b3, a4, a5, none, none] S = .go .nx [some (.loc p), some (.int (M : Int)), some (.loc F), b3, c4, c5, none, none] (T.set F (.lst ((xs ++ [x]).map tW))) ∧ PL x ∧ F < T.length ∧ PotA p (n + 40) T ∧ Ext p S T := by
  obtain ⟨cs, s1, e1, hc1, P1, K1⟩ := label_plain P (by omega)
  have F1 : s1[F]? = some (.lst (xs.map tW)) := by rw [K1.keep _ (Ne.symm hpF)]; exact hF
  obtain ⟨c, T1, e2, hc, P2, X2⟩ := wIf_ok (b3 := b3) (a5 := a5) P1 F1 hpF hM hx hpl hc1 (by omega)
  have F2 := X2.get F1 (Ne.symm hpF)
  have hr := kR1_ok (st := T1) (j := (M : Int)) (Int.le_trans (by decide) (Int.natCast_nonneg M)) (Int.lt_of_le_of_lt (show (M : Int) ≤ 6 by omega) (by decide))
  have hz : intsW 0 ((M : Nat) : Int).toNat = (List.range M).map (fun i : Nat => W.int (0 + (i : Nat))) := by rw [Int.toNat_natCast]; rfl
  rw [hz] at hr
  have kl := kLc_mapB (env := [some (.loc p), some (.int (M : Int)), some (.loc F), b3, some (tW c), a5, none, none]) (i := 6) (e := (dOp addW (dC (.str "x")) (dApp strW (dCons (dVar 6) dNil)))) (st := T1) (src := none) (fun i : Nat => W.int (0 + (i : Nat))) (fun i => tW [120, 48 + i]) (List.range M) (by simp) (fun b hb => by
    have hb := List.mem_range.mp hb
    have sp := spare6 b (by omega)
    have hlog : ((b : Int)).natAbs.log2 < 1920 := Nat.lt_of_le_of_lt (Nat.log2_le_self _) (by omega)
    have es : strW [.int (b : Int)] T1 = .ok (.str (txt [48 + b])) T1 := by
      unfold strW; simp only [if_pos hlog]; rw [sp]
    have ad : addW (.str "x") (.str (txt [48 + b])) T1 = .ok (tW [120, 48 + b]) T1 := by
      rw [show ("x" : Str) = txt [120] from rfl, addW_s (by rw [txt_len, txt_len]; exact Nat.le_trans (show [120].length + [48 + b].length ≤ 8192 by simp) (by decide)), txt_add]; rfl
    rw [Int.zero_add]
    generalize (b : Int) = B at *
    simp -implicitDefEqProofs only [dOp_ap, dC_ap, dApp_ap, dCons_ap, dVar_ap, dNil_ap, List.set_cons_succ, List.set_cons_zero, List.getElem?_cons_zero, List.getElem?_cons_succ, Res.bind_ok, kOp1_ap, kCons1_ap, kCons2_ap, es, ad]) (by rw [List.length_range]; exact Nat.le_trans hM (by decide))
  have hSP : (List.range M).map (fun i => tW [120, 48 + i]) = (SPn M).map tW := by simp only [SPn, List.map_map]; rfl
  rw [hSP] at kl
  obtain ⟨T2, hT2⟩ : ∃ T2, T2 = T1 ++ [Ob.lst ((SPn M).map tW)] := ⟨_, rfl⟩
  rw [← hT2] at kl
  have P3 : PotA p (n + 40) T2 := by rw [hT2]; exact (P2.mono (by omega)).app _
  have F3 : T2[F]? = some (.lst (xs.map tW)) := by rw [hT2]; exact get_app _ F2
  have g3 : T2[T1.length]? = some (.lst ((SPn M).map tW)) := by rw [hT2]; simp
  have kb : ∀ r env, kBm tyL appendW r env (.loc F) T2 = (r env T2).bind (appendW (.loc F)) := fun r env => kBm_l appendW F3
  have k1 : kLst [tW c] T2 = .ok (.loc T2.length) (T2 ++ [.lst [tW c]]) := lst5 (by simp)
  obtain ⟨T3, hT3⟩ : ∃ T3, T3 = T2 ++ [Ob.lst [tW c]] := ⟨_, rfl⟩
  rw [← hT3] at k1
  have ad : addW (.loc T2.length) (.loc T1.length) T3 = .ok (.loc T3.length) (T3 ++ [.lst ((c :: SPn M).map tW)]) := addW_l (xs := [tW c]) (ys := (SPn M).map tW) (by rw [hT3]; simp) (by rw [hT3]; exact get_app _ g3) (by simp only [List.length_cons, List.length_nil, List.length_map, SPn, List.length_range]; exact Nat.le_trans (show 0 + 1 + M ≤ 7 by omega) (by decide))
  obtain ⟨T4, hT4⟩ : ∃ T4, T4 = T3 ++ [Ob.lst ((c :: SPn M).map tW)] := ⟨_, rfl⟩
  rw [← hT4] at ad
  have F4 : T4[F]? = some (.lst (xs.map tW)) := by rw [hT4, hT3]; exact get_app _ (get_app _ F3)
  have g4 : T4[T3.length]? = some (.lst ((c :: SPn M).map tW)) := by rw [hT4]; simp
  have it4 := itOf_loc g4
  have kf := kLc_filter (env := [some (.loc p), some (.int (M : Int)), some (.loc F), b3, some (tW c), some (.loc T1.length), none, none]) (i := 7) (c := (dBool (dOp (inW true) (dVar 7) (dVar 2)))) (e := dVar 7) (st := T4) (src := some T3.length) tW tW (fun z => !decide (z ∈ xs)) (c :: SPn M) (by simpa using g4) (fun z hz => by
    have e := in_txts (neg := true) (x := z) F4
    rw [if_pos rfl] at e
    refine ⟨?_, fun _ => rfl⟩
    simp -implicitDefEqProofs only [dBool_ap, dOp_ap, dVar_ap, List.set_cons_succ, List.set_cons_zero, List.getElem?_cons_zero, List.getElem?_cons_succ, Res.bind_ok, kOp1_ap, e, kBool_ap]) (by rw [List.length_cons]; simp only [SPn, List.length_map, List.length_range]; exact Nat.le_trans (show M + 1 ≤ 7 by omega) (by decide))
  obtain ⟨x, hx0, hxp⟩ := fresh6 (xs := xs) (c := c) hM hx hc
  obtain ⟨T5, hT5⟩ : ∃ T5, T5 = T4 ++ [Ob.lst (((c :: SPn M).filter fun z => !decide (z ∈ xs)).map tW)] := ⟨_, rfl⟩
  rw [← hT5] at kf
  have ix : ixW (.loc T4.length) (.int 0) T5 = .ok (tW x) T5 := by
    have g : T5[T4.length]? = some (.lst (((c :: SPn M).filter fun z => !decide (z ∈ xs)).map tW)) := by rw [hT5]; simp
    have := (List.getElem?_eq_some_iff.mp hx0).1
    unfold ixW
    simp only [seq_loc g]
    rw [show (0 : Int) = ((0 : Nat) : Int) from rfl, atI_nat this, hx0]
  have F5 : T5[F]? = some (.lst (xs.map tW)) := by rw [hT5]; exact get_app _ F4
  have ap := app_nums (w := tW x) F5 (by rw [List.length_map]; exact Nat.lt_of_lt_of_le hx (Nat.le_trans hM (by decide)))
  have hmap : xs.map tW ++ [tW x] = (xs ++ [x]).map tW := by simp
  rw [hmap] at ap
  have P5 : PotA p (n + 40) T5 := by rw [hT5, hT4, hT3]; exact ((P3.app _).app _).app _
  have X5 : Ext p S T5 := by
    have x2 : Ext p S T2 := by rw [hT2]; exact (K1.ext.trans X2).trans (.app _)
    rw [hT5, hT4, hT3]; exact ((x2.trans (.app _)).trans (.app _)).trans (.app _)
  refine ⟨x, some (tW c), some (.loc T1.length), T5, ?_, hxp, (List.getElem?_eq_some_iff.mp F5).1, P5, X5⟩
  unfold wB
  refine seq_go (env' := [some (.loc p), some (.int (M : Int)), some (.loc F), b3, some (tW cs), a5, none, none]) (st' := s1) ?_ (seq_go e2 (seq_go (env' := [some (.loc p), some (.int (M : Int)), some (.loc F), b3, some (tW c), some (.loc T1.length), none, none]) (st' := T2) ?_ ?_))
  · simp -implicitDefEqProofs only [sAsg_ap, dCall_ap, dCons_ap, dVar_ap, dNil_ap, List.getElem?_cons_zero, Res.bind_ok, kCons1_ap, kCons2_ap, kCall_1, e1, Res.then_ok, kAsg_n, List.set_cons_succ, List.set_cons_zero]
    rfl
  · simp -implicitDefEqProofs only [sAsg_ap, dLc_ap, dRange1_ap, dCons_ap, dVar_ap, dNil_ap, List.getElem?_cons_zero, List.getElem?_cons_succ, Res.bind_ok, kCons1_ap, kCons2_ap, hr, wipeW, List.set_cons_succ, List.set_cons_zero]
    rw [kl]
    simp -implicitDefEqProofs only [Res.then_ok, kAsg_n, List.set_cons_succ, List.set_cons_zero]
  · simp -implicitDefEqProofs only [sExpr_ap, dBm_ap, dVar_ap, List.getElem?_cons_zero, List.getElem?_cons_succ, Res.bind_ok, kb, dCons_ap, dOp_ap, dLc_ap, dIt_ap, dLst_ap, dNil_ap, kCons1_ap, kCons2_ap, k1, kOp1_ap, ad, it4, wipeW, List.set_cons_succ, List.set_cons_zero]
    rw [kf]
    simp -implicitDefEqProofs only [Res.bind_ok, kOp1_ap, dC_ap, ix, kCons1_ap, dNil_ap, kCons2_ap, ap, Res.then_ok, kExpr_ap]
theorem words_eq : b__law_words = sSeq (sAsg (dLst dNil) (tName 2)) (sSeq (sFor (dRange1 (dCons (dVar 1) dNil)) (tName 3) wB) (sRet (dVar 2))) := rfl
theorem words_ok (hM : M ≤ 6) (P : PotA p n S) (hn : n + 350 ≤ 1000000) : ∃ (xs : List (List Nat)) (S' : Store), d__law_words [.loc p, .int (M : Int)] S = .ok (.loc S.length) (S' ++ [.lst (xs.map tW)]) ∧ xs.length = M ∧ (∀ x ∈ xs, PL x) ∧ PotA p (n + 300) S' ∧ Kp p S S' := by
  have hl := P.lt
  have kn : kLst [] S = .ok (.loc S.length) (S ++ [.lst []]) := lst5 (by simp)
  obtain ⟨T0, hT0⟩ : ∃ T0, T0 = S ++ [Ob.lst []] := ⟨_, rfl⟩
  rw [← hT0] at kn
  have P0 : PotA p n T0 := by rw [hT0]; exact P.app _
  have g0 : T0[S.length]? = some (.lst ([].map tW)) := by rw [hT0]; simp
  have X0 : Ext p S T0 := by rw [hT0]; exact .app _
  have hr := kR1_ok (st := T0) (j := (M : Int)) (Int.le_trans (by decide) (Int.natCast_nonneg M)) (Int.lt_of_le_of_lt (show (M : Int) ≤ 6 by omega) (by decide))
  obtain ⟨env', S', e, ⟨c3, c4, c5, rfl⟩, xs, hxl, hpl, gS, PS, XS⟩ := forW_ok (chk := (ItW.mk (intsW 0 ((M : Nat) : Int).toNat) none).Chk) (t := tName 3) (b := wB)
    (fun i env T => (∃ c3 c4 c5, env = [some (.loc p), some (.int (M : Int)), some (.loc S.length), c3, c4, c5, none, none]) ∧ ∃ xs : List (List Nat), xs.length = i ∧ (∀ x ∈ xs, PL x) ∧ T[S.length]? = some (.lst (xs.map tW)) ∧ PotA p (n + 40 * i) T ∧ Ext p S T) (fun _ _ _ _ => by simp) (intsW 0 ((M : Nat) : Int).toNat) 0 [some (.loc p), some (.int (M : Int)), some (.loc S.length), none, none, none, none, none] T0
    (fun i w env T hw hI => by
      obtain ⟨⟨c3, c4, c5, rfl⟩, xs, hxl, hpl, gT, PT, XT⟩ := hI
      have hi : i < M := by have := (ints_get hw).1; simpa using this
      rw [Nat.zero_add] at *
      obtain ⟨x, d4, d5, T', e, hx, hF, P', X'⟩ := wB_ok (b3 := some w) (a4 := c4) (a5 := c5) PT gT (by omega) hM (by omega) hpl (by omega)
      exact ⟨_, _, _, _, rfl, e, ⟨_, _, _, rfl⟩, xs ++ [x], by simp [hxl], fun z hz => by
        rcases List.mem_append.mp hz with h | h
        · exact hpl z h
        · rw [List.mem_singleton.mp h]; exact hx, by rw [List.getElem?_set_self hF], (P'.set (by omega)).mono (by omega), (XT.trans X').set (Nat.le_refl _)⟩) ⟨⟨none, none, none, rfl⟩, [], rfl, by simp, g0, by simpa using P0, X0⟩
  have hlen : (intsW 0 ((M : Nat) : Int).toNat).length = M := by simp [intsW]
  rw [hlen] at hxl PS
  have hcl : clBs S.length (xs.map tW) = true := by
    have : ∀ l : List (List Nat), clBs S.length (l.map tW) = true := fun l => by
      induction l with
      | nil => rfl
      | cons a l ih => simp only [List.map_cons, clBs, Bool.and_eq_true]; exact ⟨rfl, ih⟩
    exact this xs
  obtain ⟨G1, G2, G3⟩ := gc_potL XS PS hl (Nat.le_refl _) gS hcl
  refine ⟨xs, _, ?_, by simpa using hxl, hpl, G3.mono (by omega), G2⟩
  have body : b__law_words [some (.loc p), some (.int (M : Int)), none, none, none, none, none, none] S = .go (.rt (.loc S.length)) [some (.loc p), some (.int (M : Int)), some (.loc S.length), c3, c4, c5, none, none] S' := by
    rw [words_eq]
    refine seq_go (env' := [some (.loc p), some (.int (M : Int)), some (.loc S.length), none, none, none, none, none]) (st' := T0) ?_ (seq_go (env' := [some (.loc p), some (.int (M : Int)), some (.loc S.length), c3, c4, c5, none, none]) (st' := S') ?_ ?_)
    · simp -implicitDefEqProofs only [sAsg_ap, dLst_ap, dNil_ap, Res.bind_ok, kn, Res.then_ok, kAsg_n, List.set_cons_succ, List.set_cons_zero]
    · rw [sFor_ap]
      simp -implicitDefEqProofs only [dRange1_ap, dCons_ap, dVar_ap, dNil_ap, List.getElem?_cons_zero, List.getElem?_cons_succ, Res.bind_ok, kCons1_ap, kCons2_ap, hr, Res.then_ok, kFor]
      exact e
    · simp -implicitDefEqProofs only [sRet_ap, dVar_ap, List.getElem?_cons_zero, List.getElem?_cons_succ, Res.then_ok, kRet_ap]
  unfold d__law_words; rw [fnDen_ap]
  simp -implicitDefEqProofs only [List.map_cons, List.map_nil, List.length_cons, List.length_nil, Nat.reduceAdd, Nat.reduceSub, List.replicate_succ, List.replicate_zero, List.cons_append, List.nil_append]
  rw [body, fnR_rt, G1]
end
end
end K02
namespace K02
open PySem PySem.Spec PyProof.Rows L2 MP
open PySem.W (dataLt dataLe alike alikeAll AllAlike keyToks keyToksAll)
open Classical
noncomputable section
/-! ### the order of names: by their labels from the last one on -/
abbrev Nm := List (List Nat)
def tN (l : Nm) : W := .tup (l.map tW)
def lx : Nm → Nm → Bool
  | _, [] => false
  | [], _ :: _ => true
  | a :: l, b :: m => if a = b then lx l m else decide (a < b)
theorem lx_nil (l : Nm) : lx l [] = false := by cases l <;> rfl
theorem nl_irrefl (a : List Nat) : ¬ a < a := List.lt_irrefl a
theorem nl_asymm {a b : List Nat} (h : a < b) : ¬ b < a := fun h' => nl_irrefl a (List.lt_trans h h')
theorem nl_total {a b : List Nat} (h : a ≠ b) : a < b ∨ b < a := by
  by_cases q : a < b
  · exact .inl q
  · by_cases q' : b < a
    · exact .inr q'
    · exact absurd (List.le_antisymm (List.not_lt.mp q') (List.not_lt.mp q)) h
theorem lx_irrefl : ∀ l : Nm, lx l l = false
  | [] => rfl
  | a :: l => by show (if a = a then lx l l else _) = false; rw [if_pos rfl]; exact lx_irrefl l
theorem lx_turn : ∀ {l m : Nm}, l ≠ m → lx m l = !lx l m
  | [], [], h => absurd rfl h
  | [], _ :: _, _ => rfl
  | _ :: _, [], _ => rfl
  | a :: l, b :: m, h => by
    show (if b = a then lx m l else decide (b < a)) = !(if a = b then lx l m else decide (a < b))
    by_cases q : a = b
    · subst q
      rw [if_pos rfl, if_pos rfl]
      exact lx_turn fun e => h (by rw [e])
    · rw [if_neg (Ne.symm q), if_neg q]
      rcases nl_total q with z | z
      · rw [decide_eq_true z, decide_eq_false (nl_asymm z)]; rfl
      · rw [decide_eq_true z, decide_eq_false (nl_asymm z)]; rfl
theorem lx_trans : ∀ {l m k : Nm}, lx l m = true → lx m k = true → lx l k = true
  | _, [], _, h, _ => by rw [lx_nil] at h; cases h
  | _, _ :: _, [], _, h => by rw [lx_nil] at h; cases h
  | [], _ :: _, _ :: _, _, _ => rfl
  | a :: l, b :: m, c :: k, h, h' => by
    have h1 : (if a = b then lx l m else decide (a < b)) = true := h
    have h2 : (if b = c then lx m k else decide (b < c)) = true := h'
    show (if a = c then lx l k else decide (a < c)) = true
    by_cases q : a = b
    · subst q
      rw [if_pos rfl] at h1
      by_cases r : a = c
      · subst r
        rw [if_pos rfl] at h2 ⊢
        exact lx_trans h1 h2
      · rw [if_neg r] at h2 ⊢; exact h2
    · rw [if_neg q, decide_eq_true_iff] at h1
      by_cases r : b = c
      · subst r
        rw [if_neg q]; exact decide_eq_true h1
      · rw [if_neg r, decide_eq_true_iff] at h2
        have h3 := List.lt_trans h1 h2
        by_cases s : a = c
        · subst s; exact absurd h3 (nl_irrefl a)
        · rw [if_neg s]; exact decide_eq_true h3
/-- one name stands ahead of another one -/
def ltN (l m : Nm) : Bool := lx l.reverse m.reverse
theorem ltN_irrefl (l : Nm) : ltN l l = false := lx_irrefl _
theorem rev_ne {l m : Nm} (h : l ≠ m) : l.reverse ≠ m.reverse := fun e => h (by simpa using congrArg List.reverse e)
theorem ltN_turn {l m : Nm} (h : l ≠ m) : ltN m l = !ltN l m := lx_turn (rev_ne h)
theorem ltN_trans {l m k : Nm} (h : ltN l m = true) (h' : ltN m k = true) : ltN l k = true := lx_trans h h'
theorem ltN_asymm {l m : Nm} (h : ltN l m = true) : ltN m l = false := by
  by_cases q : l = m
  · subst q; rw [ltN_irrefl] at h; cases h
  · rw [ltN_turn q, h]; rfl
theorem ltN_ne {l m : Nm} (h : ltN l m = true) : l ≠ m := fun q => by subst q; rw [ltN_irrefl] at h; cases h
/-! ### data -/
def dS (l : Nm) : List PyData := l.map fun x => .str (txt x)
theorem toks_dS : ∀ (l m : Nm), PyProof.Rows.lexLt itemOrd (keyToksAll (dS l)) (keyToksAll (dS m)) = lx l m
  | [], [] => lex_irrefl _
  | [], b :: m => by
    show PyProof.Rows.lexLt itemOrd (keyToksAll []) (keyToksAll (.str (txt b) :: dS m)) = true
    rw [PySem.W.toks_all_cons, show keyToksAll ([] : List PyData) = [Sum.inl 0] from by rw [keyToksAll], PySem.W.lex_atom (by decide), PySem.W.lex_one]
    rfl
  | a :: l, [] => by
    show PyProof.Rows.lexLt itemOrd (keyToksAll (.str (txt a) :: dS l)) (keyToksAll []) = false
    rw [PySem.W.toks_all_cons, show keyToksAll ([] : List PyData) = [Sum.inl 0] from by rw [keyToksAll], PySem.W.lex_atom (by decide), PySem.W.lex_one]
    rfl
  | a :: l, b :: m => by
    show PyProof.Rows.lexLt itemOrd (keyToksAll (.str (txt a) :: dS l)) (keyToksAll (.str (txt b) :: dS m)) = if a = b then lx l m else decide (a < b)
    have ha : alike (.str (txt a)) (.str (txt b)) = true := by simp [alike]
    by_cases q : a = b
    · subst q
      rw [if_pos rfl, PySem.W.dataLt_all_yes ha (by simp [PyData.eqv])]
      exact toks_dS l m
    · have he : PyData.eqv (.str (txt a)) (.str (txt b)) = false := by
        rw [PyData.eqv]
        exact beq_false_of_ne fun e => q (by have := congrArg (fun s : Str => s.cps.toList) e; simpa [txt] using this)
      rw [if_neg q, PySem.W.dataLt_all_no ha he, PySem.W.dataLt_str]
      rfl
theorem dataLt_dS (l m : Nm) : dataLt (.tuple (dS l)) (.tuple (dS m)) = lx l m := by rw [PySem.W.dataLt_tuple, toks_dS]
theorem alike_dS : ∀ (l m : Nm), alikeAll (dS l) (dS m) = true
  | [], m => by simp [dS, alikeAll]
  | _ :: _, [] => by simp [dS, alikeAll]
  | a :: l, b :: m => by
    show alikeAll (.str (txt a) :: dS l) (.str (txt b) :: dS m) = true
    rw [alikeAll, Bool.and_eq_true]
    exact ⟨by simp [alike], alike_dS l m⟩
theorem alike_tS (l m : Nm) : alike (.tuple (dS l)) (.tuple (dS m)) = true := by rw [alike]; exact alike_dS l m
/-- the key of a least name: its weight, its place -/
def dZ (l : Nm) (n : Int) : PyData := .tuple [.int n, .tuple (dS l.reverse)]
theorem eqv_dS : ∀ (l m : Nm), PyData.eqvAll (dS l) (dS m) = true → l = m
  | [], [], _ => rfl
  | [], b :: m, h => by
    have h : PyData.eqvAll [] (.str (txt b) :: dS m) = true := h
    simp [PyData.eqvAll] at h
  | a :: l, [], h => by
    have h : PyData.eqvAll (.str (txt a) :: dS l) [] = true := h
    simp [PyData.eqvAll] at h
  | a :: l, b :: m, h => by
    have h : PyData.eqvAll (.str (txt a) :: dS l) (.str (txt b) :: dS m) = true := h
    rw [PySem.W.eqv_all_cons, Bool.and_eq_true] at h
    have h1 : (txt a == txt b) = true := by have := h.1; rw [PyData.eqv] at this; exact this
    have e : a = b := by have := congrArg (fun s : Str => s.cps.toList) (eq_of_beq h1); simpa [txt] using this
    rw [e, eqv_dS l m h.2]
theorem dataLt_dZ (l m : Nm) (a b : Int) : dataLt (dZ l a) (dZ m b) = if a = b then ltN l m else decide (a < b) := by
  unfold dZ
  rw [PySem.W.dataLt_tuple]
  have ha : alike (.int a) (.int b) = true := by simp [alike]
  by_cases q : a = b
  · subst q
    rw [if_pos rfl, PySem.W.dataLt_all_yes ha (by simp [PyData.eqv])]
    by_cases r : l = m
    · subst r; rw [ltN_irrefl]; exact lex_irrefl _
    · rw [PySem.W.dataLt_all_no (alike_tS _ _), dataLt_dS]
      · rfl
      · rw [PyData.eqv]
        cases h : PyData.eqvAll (dS l.reverse) (dS m.reverse) with
        | false => rfl
        | true => exact absurd (eqv_dS _ _ h) (rev_ne r)
  · rw [if_neg q, PySem.W.dataLt_all_no ha (by rw [PyData.eqv]; exact beq_false_of_ne q), PySem.W.dataLt_int]
theorem alike_dZ (l m : Nm) (a b : Int) : alike (dZ l a) (dZ m b) = true := by
  unfold dZ
  rw [alike, alikeAll, alikeAll, alikeAll]
  simp only [Bool.and_true, Bool.and_eq_true]
  exact ⟨by simp [alike], alike_tS _ _⟩
/-! ### lists of names in order -/
def Srt (l : List Nm) : Prop := l.Pairwise fun a b => ltN a b = true
theorem srt_eq : ∀ {l m : List Nm}, Srt l → Srt m → (∀ x, x ∈ l ↔ x ∈ m) → l = m
  | [], [], _, _, _ => rfl
  | [], b :: m, _, _, h => absurd ((h b).mpr List.mem_cons_self) (by simp)
  | a :: l, [], _, _, h => absurd ((h a).mp List.mem_cons_self) (by simp)
  | a :: l, b :: m, hl, hm, h => by
    obtain ⟨la, ll⟩ := List.pairwise_cons.mp hl
    obtain ⟨mb, mm⟩ := List.pairwise_cons.mp hm
    have e : a = b := by
      rcases List.mem_cons.mp ((h a).mp List.mem_cons_self) with e | ha
      · exact e
      · rcases List.mem_cons.mp ((h b).mpr List.mem_cons_self) with e | hb
        · exact e.symm
        · have := ltN_asymm (la b hb)
          rw [mb a ha] at this; cases this
    subst e
    rw [srt_eq ll mm fun x => ⟨fun hx => by
      rcases List.mem_cons.mp ((h x).mp (List.mem_cons_of_mem _ hx)) with e | q
      · subst e; exact absurd (la x hx) (by rw [ltN_irrefl]; simp)
      · exact q, fun hx => by
      rcases List.mem_cons.mp ((h x).mpr (List.mem_cons_of_mem _ hx)) with e | q
      · subst e; exact absurd (mb x hx) (by rw [ltN_irrefl]; simp)
      · exact q⟩]
/-- a name goes into its place -/
def insN (l : List Nm) (x : Nm) : List Nm := if x ∈ l then l else l.take (l.filter fun a => ltN a x).length ++ [x] ++ l.drop (l.filter fun a => ltN a x).length
theorem insN_mem {l : List Nm} {x y : Nm} : y ∈ insN l x ↔ y = x ∨ y ∈ l := by
  unfold insN
  split
  · rename_i h
    constructor
    · exact .inr
    · rintro (rfl | h'); exact h; exact h'
  · generalize (l.filter fun a => ltN a x).length = k
    constructor
    · intro h
      rcases List.mem_append.mp h with h | h
      · rcases List.mem_append.mp h with h | h
        · exact .inr (List.mem_of_mem_take h)
        · exact .inl (List.mem_singleton.mp h)
      · exact .inr (List.mem_of_mem_drop h)
    · rintro (rfl | h)
      · simp
      · rw [← List.take_append_drop k l] at h
        rcases List.mem_append.mp h with h | h
        · exact List.mem_append_left _ (List.mem_append_left _ h)
        · exact List.mem_append_right _ h
theorem ins_srt {x : Nm} : ∀ {l : List Nm}, Srt l → x ∉ l → Srt (l.take (l.filter fun a => ltN a x).length ++ [x] ++ l.drop (l.filter fun a => ltN a x).length)
  | [], _, _ => by simp [Srt]
  | a :: l, h, hx => by
    obtain ⟨la, ll⟩ := List.pairwise_cons.mp h
    have hxa : x ≠ a := fun e => hx (by rw [e]; exact List.mem_cons_self)
    have hxl : x ∉ l := fun e => hx (List.mem_cons_of_mem _ e)
    by_cases q : ltN a x = true
    · rw [List.filter_cons_of_pos (by simpa using q), List.length_cons, List.take_succ_cons, List.drop_succ_cons, List.cons_append, List.cons_append]
      have ih := ins_srt ll hxl
      refine List.pairwise_cons.mpr ⟨fun b hb => ?_, ih⟩
      rcases List.mem_append.mp hb with hb | hb
      · rcases List.mem_append.mp hb with hb | hb
        · exact la b (List.mem_of_mem_take hb)
        · rw [List.mem_singleton.mp hb]; exact q
      · exact la b (List.mem_of_mem_drop hb)
    · have q' : ltN x a = true := by rw [ltN_turn (Ne.symm hxa), Bool.not_eq_true] at *; simp [q]
      have hb : ∀ b ∈ a :: l, ltN x b = true := fun b hb => by
        rcases List.mem_cons.mp hb with e | hb
        · rw [e]; exact q'
        · exact ltN_trans q' (la b hb)
      have hf : (a :: l).filter (fun a => ltN a x) = [] := List.filter_eq_nil_iff.mpr fun b hb' => by rw [ltN_asymm (hb b hb')]; simp
      rw [hf]
      exact List.pairwise_cons.mpr ⟨hb, h⟩
theorem insN_srt {l : List Nm} {x : Nm} (h : Srt l) : Srt (insN l x) := by
  unfold insN
  split
  · exact h
  · exact ins_srt h (by assumption)
/-- all names in order, each once -/
def ordN (l : List Nm) : List Nm := l.foldl insN []
theorem fold_mem : ∀ (l acc : List Nm) (y : Nm), y ∈ l.foldl insN acc ↔ y ∈ acc ∨ y ∈ l
  | [], acc, y => by simp
  | x :: l, acc, y => by
    rw [List.foldl_cons, fold_mem l, insN_mem, List.mem_cons]
    constructor
    · rintro ((h | h) | h)
      · exact .inr (.inl h)
      · exact .inl h
      · exact .inr (.inr h)
    · rintro (h | h | h)
      · exact .inl (.inr h)
      · exact .inl (.inl h)
      · exact .inr h
theorem fold_srt : ∀ (l acc : List Nm), Srt acc → Srt (l.foldl insN acc)
  | [], _, h => h
  | _ :: l, _, h => fold_srt l _ (insN_srt h)
theorem ordN_mem {l : List Nm} {y : Nm} : y ∈ ordN l ↔ y ∈ l := by unfold ordN; rw [fold_mem]; simp
theorem ordN_srt (l : List Nm) : Srt (ordN l) := fold_srt l [] List.Pairwise.nil
/-! ### sorted by place -/
def leN (a b : Nm) : Bool := !ltN b a
theorem leN_trans (a b c : Nm) (h : leN a b = true) (h' : leN b c = true) : leN a c = true := by
  unfold leN at *
  simp only [Bool.not_eq_true'] at *
  cases q : ltN c a with
  | false => rfl
  | true =>
    by_cases e : a = b
    · subst e; rw [q] at h'; cases h'
    · have : ltN a b = true := by have := ltN_turn e; rw [h] at this; simpa using this.symm
      rw [ltN_trans q this] at h'; cases h'
theorem leN_total (a b : Nm) : (leN a b || leN b a) = true := by
  unfold leN
  cases h : ltN b a with
  | false => rfl
  | true => rw [ltN_asymm h]; rfl
theorem sort_eq {l : List Nm} {k : List Nm} (hn : k.Nodup) (hk : ∀ y, y ∈ k ↔ y ∈ l) : k.mergeSort leN = ordN l := by
  have hp := List.mergeSort_perm k leN
  have hs := List.pairwise_mergeSort (le := leN) (fun a b c => leN_trans a b c) leN_total k
  have hn' : (k.mergeSort leN).Nodup := hp.nodup_iff.mpr hn
  refine srt_eq ?_ (ordN_srt l) fun x => by rw [hp.mem_iff, hk, ordN_mem]
  refine (hs.and hn').imp fun {a b} h => ?_
  have h1 : leN a b = true := h.1
  have h2 := ltN_turn h.2
  unfold leN at h1
  rw [Bool.not_eq_true'] at h1
  rw [h1] at h2
  simpa using h2.symm
end
end K02
namespace K02
open PySem PySem.Spec PyProof.Rows L2 MP
open PySem.W (dataLt dataLe alike alikeAll AllAlike)
open Classical
noncomputable section
theorem check_good {w u : W} {st : Store} (h : Pic st w u) (hn : nameB u = true) : d_check_name [w] st = .ok .non st := by
  unfold d_check_name; rw [fnDen_ap]; unfold b_check_name
  simp [name_ok h, hn]
theorem check_bad {w u : W} {st : Store} (h : Pic st w u) (hn : nameB u = false) : ∃ w' g, d_check_name [w] st = .err "InvalidName" w' (st ++ g) ∧ Pic (st ++ g) w' u ∧ (∀ ws, u = .fro ws → w' = .loc st.length ∧ g = [.lst ws]) := by
  obtain ⟨w', g, e, hP, hf⟩ := rebuilt_ok h
  refine ⟨w', g, ?_, hP, hf⟩
  unfold d_check_name; rw [fnDen_ap]; unfold b_check_name
  simp [name_ok h, hn, e]

theorem nil_ap {env : EnvW} {st : Store} : sNil env st = .go .nx env st := rfl
/-- a tuple of texts -/
structure SOk (l : Nm) : Prop where
  len : l.length ≤ 12
  ok : ∀ x ∈ l, okS (txt x) = true
/-- a name -/
structure NOk (l : Nm) : Prop where
  s : SOk l
  nm : nameB (tN l) = true
theorem tW_inj {a b : List Nat} (h : tW a = tW b) : a = b := txt_inj (by simpa [tW] using h)
theorem tWs_inj : ∀ {l m : Nm}, l.map tW = m.map tW → l = m
  | [], [], _ => rfl
  | [], _ :: _, h => by simp at h
  | _ :: _, [], h => by simp at h
  | a :: l, b :: m, h => by
    simp only [List.map_cons, List.cons.injEq] at h
    rw [tW_inj h.1, tWs_inj h.2]
theorem tN_inj {l m : Nm} (h : tN l = tN m) : l = m := tWs_inj (by unfold tN at h; injection h)
theorem SOk.rev {l : Nm} (h : SOk l) : SOk l.reverse := ⟨by rw [List.length_reverse]; exact h.len, fun x hx => h.ok x (List.mem_reverse.mp hx)⟩
theorem SOk.drop {l : Nm} (h : SOk l) (k : Nat) : SOk (l.drop k) := ⟨by rw [List.length_drop]; have := h.len; omega, fun x hx => h.ok x (List.mem_of_mem_drop hx)⟩
theorem SOk.take {l : Nm} (h : SOk l) (k : Nat) : SOk (l.take k) := ⟨by rw [List.length_take]; have := h.len; omega, fun x hx => h.ok x (List.mem_of_mem_take hx)⟩
theorem SOk.all {l : Nm} (h : SOk l) : allS (l.map tW) := fun w hw => by
  obtain ⟨x, hx, rfl⟩ := List.mem_map.mp hw
  exact ⟨txt x, rfl, h.ok x hx⟩
theorem SOk.sn2 {l : Nm} (h : SOk l) : sn 2 (tN l) = true := h.all.sn (by rw [List.length_map]; have := h.len; omega)
theorem SOk.sn5 {l : Nm} (h : SOk l) : sn 5 (tN l) = true := sn_mono h.sn2 (by decide)
theorem SOk.pu {l : Nm} (h : SOk l) : pu (tN l) := sn_pu 5 _ h.sn5
theorem SOk.pic {l : Nm} (h : SOk l) {st : Store} : Pic st (tN l) (tN l) := .pu _ h.pu
theorem SOk.gd {l : Nm} (h : SOk l) {st : Store} {n : Nat} : Gd st n (tN l) := .pu _ _ h.pu
theorem eqN {l m : Nm} {st : Store} (h : SOk l) (h' : SOk m) : eqW (tN l) (tN m) st = .ok (.bl (decide (l = m))) st ∧ neW (tN l) (tN m) st = .ok (.bl (!decide (l = m))) st := by
  have e : decide (tN l = tN m) = decide (l = m) := by
    by_cases q : l = m
    · subst q; simp
    · rw [decide_eq_false q, decide_eq_false fun z => q (tN_inj z)]
  have := eq_sn (st := st) h.sn5 h'.sn5
  rw [e] at this
  exact this
theorem eqX {a b : List Nat} {st : Store} (h : okS (txt a) = true) (h' : okS (txt b) = true) : eqW (tW a) (tW b) st = .ok (.bl (decide (a = b))) st ∧ neW (tW a) (tW b) st = .ok (.bl (!decide (a = b))) st := by
  have e : decide (tW a = tW b) = decide (a = b) := by
    by_cases q : a = b
    · subst q; simp
    · rw [decide_eq_false q, decide_eq_false fun z => q (tW_inj z)]
  have := eq_sn (st := st) (show sn 5 (tW a) = true from h) (show sn 5 (tW b) = true from h')
  rw [e] at this
  exact this
theorem datX {x : List Nat} {st : Store} : datF st 65 (tW x) = some (.str (txt x)) := rfl
theorem dat_ws {st : Store} : ∀ l : Nm, allO ((l.map tW).map (datF st 65)) = some (dS l)
  | [] => rfl
  | a :: l => by
    show (allO ((l.map tW).map (datF st 65))).map (PyData.str (txt a) :: ·) = _
    rw [dat_ws l]; rfl
theorem datN {l : Nm} {st : Store} : datF st 66 (tN l) = some (.tuple (dS l)) := by
  show (allO ((l.map tW).map (datF st 65))).map PyData.tuple = _
  rw [dat_ws l]; rfl
theorem lt_nil (a : List Nat) : ¬ a < [] := by simp
/-! ### <= and < of places -/
theorem pairs_le : ∀ (l m : Nm), ∃ ps, pairsW (l.map tW) (m.map tW) = some ps ∧ ps.length = min l.length m.length ∧ lexL ps (decide (l.length ≤ m.length)) = !lx m l
  | [], m => ⟨[], by cases m <;> rfl, by simp, by rw [lx_nil]; simp [lexL]⟩
  | a :: l, [] => ⟨[], rfl, by simp, by simp [lexL, lx]⟩
  | a :: l, b :: m => by
    obtain ⟨ps, e, hl, hx⟩ := pairs_le l m
    refine ⟨(txt a == txt b, !decide (b < a)) :: ps, ?_, by simp only [List.length_cons]; omega, ?_⟩
    · show (match pairW (tW a) (tW b), pairsW (l.map tW) (m.map tW) with
        | some p, some ps => some (p :: ps)
        | _, _ => none) = _
      rw [e]; rfl
    · have ez : decide ((a :: l).length ≤ (b :: m).length) = decide (l.length ≤ m.length) := by simp
      rw [ez]
      show (if (txt a == txt b) = true then lexL ps (decide (l.length ≤ m.length)) else !decide (b < a)) = !(if b = a then lx m l else decide (b < a))
      by_cases q : a = b
      · subst q
        rw [if_pos (beq_self_eq_true _), if_pos rfl, hx]
      · rw [if_neg (fun z => q (txt_inj (eq_of_beq z))), if_neg (Ne.symm q)]
theorem leN_ok {l m : Nm} {st : Store} : leTW (tN l) (tN m) st = .ok (.bl (!lx m l)) st := by
  obtain ⟨ps, e, hl, hx⟩ := pairs_le l m
  unfold leTW tN
  simp only [e]
  rw [List.length_map, List.length_map, ← hl, lex_here, hx]
theorem ords_lt {st : Store} (k : Nat) : ∀ (l m : Nm), (∀ x ∈ l, okS (txt x) = true) → (∀ x ∈ m, okS (txt x) = true) → ∃ ps, ordsUW st (k + 1) (l.map tW) (m.map tW) = some ps ∧ ps.length = min l.length m.length ∧ lexL ps (decide (l.length < m.length)) = lx l m
  | [], m, _, _ => ⟨[], by simp [ordsUW], by simp, by cases m <;> simp [lexL, lx]⟩
  | a :: l, [], _, _ => ⟨[], by simp [ordsUW], by simp, by simp [lexL, lx]⟩
  | a :: l, b :: m, h, h' => by
    obtain ⟨ps, e, hl, hx⟩ := ords_lt (st := st) k l m (fun x hx => h x (List.mem_cons_of_mem _ hx)) (fun x hx => h' x (List.mem_cons_of_mem _ hx))
    have ha : Pic st (tW a) (tW a) := .pu _ (show pu (tW a) from h a List.mem_cons_self)
    have hb : Pic st (tW b) (tW b) := .pu _ (show pu (tW b) from h' b List.mem_cons_self)
    have sa : SeqAt.shaped (.str (txt a)) = true := shaped_of ⟨ha.shp.1, by have := ha.shp.2; exact Nat.le_trans this (by decide)⟩
    have sb : SeqAt.shaped (.str (txt b)) = true := shaped_of ⟨hb.shp.1, by have := hb.shp.2; exact Nat.le_trans this (by decide)⟩
    have ee : (PyData.str (txt a)).eqv (.str (txt b)) = (txt a == txt b) := by rw [PyData.eqv]
    have d1 : datF st 66 (tW a) = some (.str (txt a)) := rfl
    have d2 : datF st 66 (tW b) = some (.str (txt b)) := rfl
    by_cases q : a = b
    · subst q
      refine ⟨(true, false) :: ps, ?_, by simp only [List.length_cons]; omega, ?_⟩
      · simp only [List.map_cons, ordsUW, d1, sa, and_self, if_true, ee, beq_self_eq_true, e]
      · have ez : decide ((a :: l).length < (a :: m).length) = decide (l.length < m.length) := by simp
        rw [ez]
        show (if true = true then lexL ps (decide (l.length < m.length)) else false) = (if a = a then lx l m else decide (a < a))
        rw [if_pos rfl, if_pos rfl, hx]
    · have q' : (txt a == txt b) = false := beq_false_of_ne fun z => q (txt_inj z)
      have oo : ordUW st (k + 1) (tW a) (tW b) = some (decide (a < b)) := by simp only [tW, ordUW]; rfl
      refine ⟨(false, decide (a < b)) :: ps, ?_, by simp only [List.length_cons]; omega, ?_⟩
      · simp only [List.map_cons, ordsUW, d1, d2, sa, sb, and_self, if_true, ee, q', Bool.false_eq_true, if_false, oo, e]
      · show (if false = true then lexL ps _ else decide (a < b)) = (if a = b then lx l m else decide (a < b))
        rw [if_neg (by decide), if_neg q]
theorem ltN_ok {l m : Nm} {st : Store} (h : SOk l) (h' : SOk m) : ltUW (tN l) (tN m) st = .ok (.bl (lx l m)) st := by
  obtain ⟨ps, e, hl, hx⟩ := ords_lt (st := st) 6 l m h.ok h'.ok
  unfold ltUW tN
  have oo : ordUW st 8 (.tup (l.map tW)) (.tup (m.map tW)) = some (lx l m) := by
    rw [show (8 : Nat) = 7 + 1 from rfl, ordUW]
    simp only [e]
    rw [List.length_map, List.length_map, ← hl, lex_here, hx]
  simp only [oo]
theorem ltI_ok {i j : Int} {st : Store} : ltUW (.int i) (.int j) st = .ok (.bl (decide (i < j))) st := by
  unfold ltUW
  rw [show (8 : Nat) = 7 + 1 from rfl, ordUW]
/-! ### places, weights -/
theorem placeN {l : Nm} {st : Store} (h : SOk l) : d_place [tN l] st = .ok (tN l.reverse) st := by
  have g : gc st (tN l.reverse) st = .ok (tN l.reverse) st := gc_same (cl_pu _ 5 _ h.rev.pu)
  have r : rev2W (tN l) st = .ok (tN l.reverse) st := by unfold tN rev2W; rw [List.map_reverse]
  unfold d_place; rw [fnDen_ap]; unfold b_place
  simp [r, g]
def wgt (l : Nm) : Nat := 1 + (l.map fun x => x.length + 1).sum
theorem sumN : ∀ l : Nm, ((l.map fun x => ((x.length : Int) + 1)).sum : Int) = ((l.map fun x => x.length + 1).sum : Nat)
  | [] => rfl
  | a :: l => by
    simp only [List.map_cons, List.sum_cons, sumN l, Int.natCast_add]
    rfl
theorem weight_ok {l : Nm} {st : Store} (h : SOk l) : d_weight [tN l] st = .ok (.int (wgt l : Int)) st := by
  have it : itOf (tN l) st = .ok ⟨l.map tW, none⟩ st := rfl
  have kl := kLc_mapB (env := [some (tN l), none]) (i := 1) (e := (dOp addW (dApp lenW (dCons (dVar 1) dNil)) (dC (.int 1)))) (st := st) (src := none) tW (fun x : List Nat => W.int ((x.length : Int) + 1)) l (by simp) (fun b hb => by
    have hl := txt_lenW (l := b) (st := st) (h.ok b hb)
    simp [tW, hl]) (by have := h.len; exact Nat.le_trans this (by decide))
  have em : (l.map fun x : List Nat => W.int ((x.length : Int) + 1)) = (l.map fun x => ((x.length : Int) + 1)).map W.int := by rw [List.map_map]; rfl
  rw [em] at kl
  have sm := sum_at (S := st ++ [Ob.lst ((l.map fun x => ((x.length : Int) + 1)).map W.int)]) (q := st.length) (l := l.map fun x => ((x.length : Int) + 1)) (by simp)
  rw [sumN] at sm
  have g : ∀ g : Store, gc st (.int (wgt l : Int)) (st ++ g) = .ok (.int (wgt l : Int)) st := fun g => gc_app rfl
  have ad : addW (.int 1) (.int ((l.map fun x => x.length + 1).sum : Nat)) (st ++ [Ob.lst ((l.map fun x => ((x.length : Int) + 1)).map W.int)]) = .ok (.int (wgt l : Int)) (st ++ [Ob.lst ((l.map fun x => ((x.length : Int) + 1)).map W.int)]) := by
    show Res.ok (W.int (1 + ((l.map fun x => x.length + 1).sum : Nat))) _ = _
    unfold wgt; rw [Int.natCast_add]; rfl
  unfold d_weight; rw [fnDen_ap]; unfold b_weight
  simp -implicitDefEqProofs only [List.map_cons, List.map_nil, List.length_cons, List.length_nil, Nat.reduceAdd, Nat.reduceSub, List.replicate_succ, List.replicate_zero, List.cons_append, List.nil_append, sRet_ap, dOp_ap, dC_ap, dApp_ap, dCons_ap, dNil_ap, dLc_ap, dIt_ap, dVar_ap, List.getElem?_cons_zero, List.getElem?_cons_succ, Res.bind_ok, it, wipeW, List.set_cons_succ, List.set_cons_zero, kOp1_ap, kCons1_ap, kCons2_ap, kl, sm, ad, Res.then_ok, kRet_ap, fnR_rt, g]
theorem sized_ok {l : Nm} {st : Store} (h : SOk l) : d_sized_place [tN l] st = .ok (.tup [.int (wgt l : Int), tN l.reverse]) st := by
  have k : kTup [.int (wgt l : Int), tN l.reverse] st = .ok (.tup [.int (wgt l : Int), tN l.reverse]) st := ten (by simp)
  have g : gc st (.tup [.int (wgt l : Int), tN l.reverse]) st = .ok (.tup [.int (wgt l : Int), tN l.reverse]) st := gc_same (by
    have := cl_pu st.length 5 _ h.rev.pu
    simp [clB, clBs, this])
  unfold d_sized_place; rw [fnDen_ap]; unfold b_sized_place
  simp [weight_ok h, placeN h, k, g]
theorem dat_sized {l : Nm} {n : Int} {st : Store} : datF st 66 (.tup [.int n, tN l.reverse]) = some (dZ l n) := by
  have e : datF st 65 (tN l.reverse) = some (.tuple (dS l.reverse)) := by
    show (allO ((l.reverse.map tW).map (datF st 64))).map PyData.tuple = _
    have : ∀ m : Nm, allO ((m.map tW).map (datF st 64)) = some (dS m) := fun m => by
      induction m with
      | nil => rfl
      | cons a m ih =>
        show (allO ((m.map tW).map (datF st 64))).map (PyData.str (txt a) :: ·) = _
        rw [ih]; rfl
    rw [this]; rfl
  show (allO ([W.int n, tN l.reverse].map (datF st 65))).map PyData.tuple = _
  simp only [List.map_cons, List.map_nil, e]
  rfl
end
end K02
namespace K02
open PySem PySem.Spec PyProof.Rows L2 MP
open Classical
noncomputable section
theorem slf {l : Nm} {i : Nat} {st : Store} : slW (tN l) (some (i : Int)) none st = .ok (tN (l.drop i)) st := by
  show Res.ok (W.tup (cutW (l.map tW) (some (i : Int)) none)) st = _
  rw [cut_from, ← List.map_drop]; rfl
theorem slt {l : Nm} {i : Nat} {st : Store} : slW (tN l) none (some (i : Int)) st = .ok (tN (l.take i)) st := by
  show Res.ok (W.tup (cutW (l.map tW) none (some (i : Int)))) st = _
  rw [cut_to, ← List.map_take]; rfl
theorem slL_f {S : Store} {k n : Nat} {ws : List W} (h : S[k]? = some (.lst ws)) : slW (.loc k) (some (n : Int)) none S = .ok (.loc S.length) (S ++ [.lst (ws.drop n)]) := by
  unfold slW lstW
  simp only [h]
  rw [cut_from]
theorem ixT {ws : List W} {j : Nat} {v : W} {st : Store} (h : ws[j]? = some v) : ixW (.tup ws) (.int (j : Int)) st = .ok v st := by
  have hj := (List.getElem?_eq_some_iff.mp h).1
  unfold ixW
  have s : seqW st (.tup ws) = some ws := rfl
  simp only [s]
  rw [atI_nat hj, h]
theorem ixL {S : Store} {q j : Nat} {ws : List W} {v : W} (h : S[q]? = some (.lst ws)) (hv : ws[j]? = some v) : ixW (.loc q) (.int (j : Int)) S = .ok v S := by
  have hj := (List.getElem?_eq_some_iff.mp hv).1
  unfold ixW
  simp only [seq_loc h]
  rw [atI_nat hj, hv]
theorem ixN {l : Nm} {j : Nat} {x : List Nat} {st : Store} (h : l[j]? = some x) : ixW (tN l) (.int (j : Int)) st = .ok (tW x) st := ixT (by rw [List.getElem?_map, h]; rfl)
theorem lenN {l : Nm} {st : Store} : lenW [tN l] st = .ok (.int (l.length : Int)) st := by
  have := len_seq (st := st) (a := tN l) (ws := l.map tW) rfl
  rw [List.length_map] at this
  exact this
theorem lenL {S : Store} {q : Nat} {ws : List W} (h : S[q]? = some (.lst ws)) : lenW [.loc q] S = .ok (.int (ws.length : Int)) S := len_seq (seq_loc h)
theorem tN_cl {l : Nm} {k : Nat} (h : SOk l) : clB k (tN l) = true := cl_pu k 5 _ h.pu
theorem gcN {l : Nm} {st g : Store} (h : SOk l) : gc st (tN l) (st ++ g) = .ok (tN l) st := gc_app (tN_cl h)
theorem gcN0 {l : Nm} {st : Store} (h : SOk l) : gc st (tN l) st = .ok (tN l) st := gc_same (tN_cl h)
theorem subN {a b : Nat} (h : b ≤ a) {st : Store} : subW (.int (a : Int)) (.int (b : Int)) st = .ok (.int ((a - b : Nat) : Int)) st := by
  show Res.ok (W.int ((a : Int) - (b : Int))) st = _
  rw [Int.ofNat_sub h]
theorem geN {a b : Nat} {st : Store} : geW (.int (a : Int)) (.int (b : Int)) st = .ok (.bl (decide (b ≤ a))) st := by
  show Res.ok (W.bl (decide ((b : Int) ≤ (a : Int)))) st = _
  congr 2
  simp
/-- ends with -/
def sfx (l m : Nm) : Bool := decide (m.length ≤ l.length) && decide (l.drop (l.length - m.length) = m)
theorem ends_ok {l m : Nm} {st : Store} (h : SOk l) (h' : SOk m) : d_ends_with [tN l, tN m] st = .ok (.bl (sfx l m)) st := by
  have g : ∀ b : Bool, gc st (.bl b) st = .ok (.bl b) st := fun b => gc_same rfl
  have ge := geN (a := l.length) (b := m.length) (st := st)
  have ll := lenN (l := l) (st := st)
  have lm := lenN (l := m) (st := st)
  unfold d_ends_with; rw [fnDen_ap]; unfold b_ends_with
  by_cases q : m.length ≤ l.length
  · have sb := subN q (st := st)
    have sl := slf (l := l) (i := l.length - m.length) (st := st)
    have eq := (eqN (st := st) (h.drop (l.length - m.length)) h').1
    have sx : sfx l m = decide (l.drop (l.length - m.length) = m) := by unfold sfx; rw [decide_eq_true q]; rfl
    rw [decide_eq_true q] at ge
    rw [sx]
    generalize decide (l.drop (l.length - m.length) = m) = b at *
    generalize ((l.length - m.length : Nat) : Int) = D at *
    generalize tN (l.drop (l.length - m.length)) = dr at *
    generalize (l.length : Int) = L at *
    generalize (m.length : Int) = M at *
    generalize tN l = A at *
    generalize tN m = B at *
    simp -implicitDefEqProofs only [List.map_cons, List.map_nil, List.length_cons, List.length_nil, Nat.reduceAdd, Nat.reduceSub, List.replicate_succ, List.replicate_zero, List.cons_append, List.nil_append, sRet_ap, dAndV_ap, dOp_ap, dApp_ap, dCons_ap, dNil_ap, dVar_ap, List.getElem?_cons_zero, List.getElem?_cons_succ, Res.bind_ok, kOp1_ap, kCons1_ap, kCons2_ap, ll, lm, ge, kAndV_t, dSl_ap, kSl1_ap, dPart_ap, sb, kPart_ap, kSl2_ap, dNoPart_ap, sl, eq, Res.then_ok, kRet_ap, fnR_rt, g]
  · have sx : sfx l m = false := by unfold sfx; rw [decide_eq_false q]; rfl
    rw [decide_eq_false q] at ge
    rw [sx]
    generalize (l.length : Int) = L at *
    generalize (m.length : Int) = M at *
    generalize tN l = A at *
    generalize tN m = B at *
    simp -implicitDefEqProofs only [List.map_cons, List.map_nil, List.length_cons, List.length_nil, Nat.reduceAdd, Nat.reduceSub, List.replicate_succ, List.replicate_zero, List.cons_append, List.nil_append, sRet_ap, dAndV_ap, dOp_ap, dApp_ap, dCons_ap, dNil_ap, dVar_ap, List.getElem?_cons_zero, List.getElem?_cons_succ, Res.bind_ok, kOp1_ap, kCons1_ap, kCons2_ap, ll, lm, ge, kAndV_f, Res.then_ok, kRet_ap, fnR_rt, g]
/-! ### the law's order of names -/
theorem forW_rt {chk : Store → Prop} {t : DT} {b : DS} (I : Nat → EnvW → Store → Prop) (J : W → Store → Prop) (hc : ∀ i env st, I i env st → chk st) : ∀ (ws : List W) (k : Nat) (env : EnvW) (st : Store),
    (∀ i w env st, ws[i]? = some w → I (k + i) env st → ∃ env1 st1, t w env st = some (env1, st1) ∧ ((∃ env2 st2, b env1 st1 = .go .nx env2 st2 ∧ I (k + i + 1) env2 st2) ∨ ∃ v env2 st2, b env1 st1 = .go (.rt v) env2 st2 ∧ J v st2)) → I k env st →
    (∃ env' st', forW chk t b ws env st = .go .nx env' st' ∧ I (k + ws.length) env' st') ∨ ∃ v env' st', forW chk t b ws env st = .go (.rt v) env' st' ∧ J v st'
  | [], k, env, st, _, h => .inl ⟨env, st, by unfold forW; rw [if_pos (hc _ _ _ h)], h⟩
  | w :: ws, k, env, st, hs, h => by
    obtain ⟨env1, st1, e1, e⟩ := hs 0 w env st rfl h
    rcases e with ⟨env2, st2, e2, h2⟩ | ⟨v, env2, st2, e2, h2⟩
    · rcases forW_rt I J hc ws (k + 1) env2 st2 (fun i w env st hw hI => by
        have := hs (i + 1) w env st (by simpa using hw) (by rwa [show k + (i + 1) = k + 1 + i by omega])
        rwa [show k + (i + 1) + 1 = k + 1 + i + 1 by omega] at this) h2 with ⟨env', st', e3, h3⟩ | ⟨v, env', st', e3, h3⟩
      · refine .inl ⟨env', st', ?_, by rwa [List.length_cons, show k + (ws.length + 1) = k + 1 + ws.length by omega]⟩
        unfold forW
        rw [if_pos (hc _ _ _ h), e1]; simp only [e2]; exact e3
      · refine .inr ⟨v, env', st', ?_, h3⟩
        unfold forW
        rw [if_pos (hc _ _ _ h), e1]; simp only [e2]; exact e3
    · refine .inr ⟨v, env2, st2, ?_, h2⟩
      unfold forW
      rw [if_pos (hc _ _ _ h), e1]; simp only [e2]
def aB : DS := (sSeq (sPar 3 4 (dCons (dOp ixW (dVar 0) (dOp subW (dOp subW (dApp lenW (dCons (dVar 0) dNil)) (dC (.int 1))) (dVar 2))) (dCons (dOp ixW (dVar 1) (dOp subW (dOp subW (dApp lenW (dCons (dVar 1) dNil)) (dC (.int 1))) (dVar 2))) dNil)))
    (sIf (dBool (dOp neW (dVar 3) (dVar 4)))
    (sRet (dOp ltW (dVar 3) (dVar 4)))
    sNil))
theorem ahead_eq : b__law_ahead = sSeq (sFor (dRange1 (dCons (dApp minW (dCons (dApp lenW (dCons (dVar 0) dNil)) (dCons (dApp lenW (dCons (dVar 1) dNil)) dNil))) dNil)) (tName 2) aB) (sRet (dOp ltUW (dApp lenW (dCons (dVar 0) dNil)) (dApp lenW (dCons (dVar 1) dNil)))) := rfl
theorem lx_drop {l m : Nm} {i : Nat} {a b : List Nat} (ha : l[i]? = some a) (hb : m[i]? = some b) : lx (l.drop i) (m.drop i) = if a = b then lx (l.drop (i + 1)) (m.drop (i + 1)) else decide (a < b) := by
  obtain ⟨h1, e1⟩ := List.getElem?_eq_some_iff.mp ha
  obtain ⟨h2, e2⟩ := List.getElem?_eq_some_iff.mp hb
  rw [List.drop_eq_getElem_cons h1, List.drop_eq_getElem_cons h2, e1, e2]
  rfl
theorem min_ok {a b : Nat} {st : Store} : minW [.int (a : Int), .int (b : Int)] st = .ok (.int ((min a b : Nat) : Int)) st := by
  rw [minW_i]
  congr 2
  split
  · congr 1; omega
  · congr 1; omega
theorem ltx {a b : List Nat} {st : Store} : ltW (tW a) (tW b) st = .ok (.bl (decide (a < b))) st := rfl
theorem aB_ok {l m : Nm} {st : Store} {c3 c4 : Option W} (h : SOk l) (h' : SOk m) {i : Nat} (hi : i < min l.length m.length) : ∃ a b, l.reverse[i]? = some a ∧ m.reverse[i]? = some b ∧
    aB [some (tN l), some (tN m), some (.int (i : Int)), c3, c4] st = if a = b then .go .nx [some (tN l), some (tN m), some (.int (i : Int)), some (tW a), some (tW b)] st else .go (.rt (.bl (decide (a < b)))) [some (tN l), some (tN m), some (.int (i : Int)), some (tW a), some (tW b)] st := by
  have hl : i < l.length := by omega
  have hm : i < m.length := by omega
  obtain ⟨a, ha⟩ : ∃ a, l.reverse[i]? = some a := ⟨_, List.getElem?_eq_getElem (by rw [List.length_reverse]; exact hl)⟩
  obtain ⟨b, hb⟩ : ∃ b, m.reverse[i]? = some b := ⟨_, List.getElem?_eq_getElem (by rw [List.length_reverse]; exact hm)⟩
  refine ⟨a, b, ha, hb, ?_⟩
  have xa : l[l.length - 1 - i]? = some a := by rw [← List.getElem?_reverse hl]; exact ha
  have xb : m[m.length - 1 - i]? = some b := by rw [← List.getElem?_reverse hm]; exact hb
  have i1 := ixN (st := st) xa
  have i2 := ixN (st := st) xb
  have oka : okS (txt a) = true := h.ok a (List.mem_of_getElem? xa)
  have okb : okS (txt b) = true := h'.ok b (List.mem_of_getElem? xb)
  have ne := (eqX (st := st) oka okb).2
  have s1 : subW (.int (l.length : Int)) (.int 1) st = .ok (.int ((l.length - 1 : Nat) : Int)) st := subN (a := l.length) (b := 1) (by omega)
  have s2 := subN (a := l.length - 1) (b := i) (st := st) (by omega)
  have s3 : subW (.int (m.length : Int)) (.int 1) st = .ok (.int ((m.length - 1 : Nat) : Int)) st := subN (a := m.length) (b := 1) (by omega)
  have s4 := subN (a := m.length - 1) (b := i) (st := st) (by omega)
  have ll := lenN (l := l) (st := st)
  have lm := lenN (l := m) (st := st)
  have lt := ltx (a := a) (b := b) (st := st)
  by_cases q : a = b
  · rw [if_pos q]
    rw [decide_eq_true q] at ne
    generalize ((l.length - 1 - i : Nat) : Int) = D1 at *
    generalize ((m.length - 1 - i : Nat) : Int) = D2 at *
    generalize ((l.length - 1 : Nat) : Int) = D3 at *
    generalize ((m.length - 1 : Nat) : Int) = D4 at *
    generalize (l.length : Int) = L at *
    generalize (m.length : Int) = M at *
    generalize (i : Int) = I at *
    generalize tN l = A at *
    generalize tN m = B at *
    unfold aB
    refine seq_go (env' := [some A, some B, some (.int I), some (tW a), some (tW b)]) (st' := st) ?_ ?_
    · simp -implicitDefEqProofs only [sPar_ap, dCons_ap, dNil_ap, dOp_ap, dApp_ap, dVar_ap, dC_ap, List.getElem?_cons_zero, List.getElem?_cons_succ, Res.bind_ok, kOp1_ap, kCons1_ap, kCons2_ap, ll, lm, s1, s2, s3, s4, i1, i2, Res.then_ok, kPar_ap, List.set_cons_succ, List.set_cons_zero]
    · simp -implicitDefEqProofs only [dOp_ap, dVar_ap, List.getElem?_cons_zero, List.getElem?_cons_succ, Res.bind_ok, kOp1_ap, Res.then_ok, sIf_ap, dBool_ap, ne, kBool_ap, Bool.not_true, kSIf_f, sNil_ap]
  · rw [if_neg q]
    rw [decide_eq_false q] at ne
    generalize ((l.length - 1 - i : Nat) : Int) = D1 at *
    generalize ((m.length - 1 - i : Nat) : Int) = D2 at *
    generalize ((l.length - 1 : Nat) : Int) = D3 at *
    generalize ((m.length - 1 : Nat) : Int) = D4 at *
    generalize (l.length : Int) = L at *
    generalize (m.length : Int) = M at *
    generalize (i : Int) = I at *
    generalize tN l = A at *
    generalize tN m = B at *
    unfold aB
    refine seq_go (env' := [some A, some B, some (.int I), some (tW a), some (tW b)]) (st' := st) ?_ ?_
    · simp -implicitDefEqProofs only [sPar_ap, dCons_ap, dNil_ap, dOp_ap, dApp_ap, dVar_ap, dC_ap, List.getElem?_cons_zero, List.getElem?_cons_succ, Res.bind_ok, kOp1_ap, kCons1_ap, kCons2_ap, ll, lm, s1, s2, s3, s4, i1, i2, Res.then_ok, kPar_ap, List.set_cons_succ, List.set_cons_zero]
    · simp -implicitDefEqProofs only [dOp_ap, dVar_ap, List.getElem?_cons_zero, List.getElem?_cons_succ, Res.bind_ok, kOp1_ap, Res.then_ok, sIf_ap, dBool_ap, ne, kBool_ap, Bool.not_false, kSIf_t, sRet_ap, lt, kRet_ap]
theorem ahead_ok {l m : Nm} {st : Store} (h : SOk l) (h' : SOk m) : d__law_ahead [tN l, tN m] st = .ok (.bl (ltN l m)) st := by
  have hr := kR1_ok (st := st) (j := ((min l.length m.length : Nat) : Int)) (Int.le_trans (by decide) (Int.natCast_nonneg _)) (Int.lt_of_le_of_lt (show ((min l.length m.length : Nat) : Int) ≤ 12 by have := h.len; omega) (by decide))
  rw [Int.toNat_natCast] at hr
  have ll := lenN (l := l) (st := st)
  have lm := lenN (l := m) (st := st)
  have mn := min_ok (a := l.length) (b := m.length) (st := st)
  have g : ∀ b : Bool, gc st (.bl b) st = .ok (.bl b) st := fun b => gc_same rfl
  have key := forW_rt (chk := (ItW.mk (intsW 0 (min l.length m.length)) none).Chk) (t := tName 2) (b := aB)
    (fun i env T => (∃ c2 c3 c4, env = [some (tN l), some (tN m), c2, c3, c4]) ∧ T = st ∧ lx (l.reverse.drop i) (m.reverse.drop i) = ltN l m) (fun v T => v = .bl (ltN l m) ∧ T = st) (fun _ _ _ _ => by simp)
    (intsW 0 (min l.length m.length)) 0 [some (tN l), some (tN m), none, none, none] st (fun i w env T hw hI => by
      obtain ⟨⟨c2, c3, c4, rfl⟩, rfl, hx⟩ := hI
      obtain ⟨hi, rfl⟩ := ints_get hw
      rw [Nat.zero_add] at *
      obtain ⟨a, b, ha, hb, e⟩ := aB_ok (st := T) (c3 := c3) (c4 := c4) h h' hi
      refine ⟨_, _, rfl, ?_⟩
      rw [lx_drop ha hb] at hx
      rw [Int.zero_add]
      simp only [List.set_cons_succ, List.set_cons_zero]
      by_cases q : a = b
      · rw [if_pos q] at e hx
        exact .inl ⟨_, _, e, ⟨_, _, _, rfl⟩, rfl, hx⟩
      · rw [if_neg q] at e hx
        exact .inr ⟨_, _, _, e, by rw [hx], rfl⟩) ⟨⟨none, none, none, rfl⟩, rfl, rfl⟩
  unfold d__law_ahead; rw [fnDen_ap, ahead_eq]
  simp -implicitDefEqProofs only [List.map_cons, List.map_nil, List.length_cons, List.length_nil, Nat.reduceAdd, Nat.reduceSub, List.replicate_succ, List.replicate_zero, List.cons_append, List.nil_append]
  have hf : ∀ k, sFor (dRange1 (dCons (dApp minW (dCons (dApp lenW (dCons (dVar 0) dNil)) (dCons (dApp lenW (dCons (dVar 1) dNil)) dNil))) dNil)) (tName 2) aB [some (tN l), some (tN m), none, none, none] st = k ↔ forW (ItW.mk (intsW 0 (min l.length m.length)) none).Chk (tName 2) aB (intsW 0 (min l.length m.length)) [some (tN l), some (tN m), none, none, none] st = k := fun k => by
    rw [sFor_ap]
    generalize tN l = A at *
    generalize tN m = B at *
    simp -implicitDefEqProofs only [dRange1_ap, dCons_ap, dNil_ap, dApp_ap, dVar_ap, List.getElem?_cons_zero, List.getElem?_cons_succ, Res.bind_ok, kCons1_ap, kCons2_ap, ll, lm, mn, hr, Res.then_ok, kFor]
  rcases key with ⟨env', st', e, ⟨c2, c3, c4, rfl⟩, rfl, hx⟩ | ⟨v, env', st', e, rfl, rfl⟩
  · have e1 := (hf _).mpr e
    rw [intsW, List.length_map, List.length_range, Nat.zero_add] at hx
    have hz : decide ((l.length : Int) < (m.length : Int)) = ltN l m := by
      rw [← hx]
      by_cases q : l.length < m.length
      · rw [show min l.length m.length = l.reverse.length by rw [List.length_reverse]; omega, List.drop_length]
        have : m.reverse.drop l.reverse.length ≠ [] := by
          intro z
          have := congrArg List.length z
          simp at this; omega
        rw [decide_eq_true (by omega)]
        cases hm : m.reverse.drop l.reverse.length with
        | nil => exact absurd hm this
        | cons a r => rfl
      · rw [show min l.length m.length = m.reverse.length by rw [List.length_reverse]; omega, List.drop_length, lx_nil, decide_eq_false (by omega)]
    have lu := ltI_ok (i := (l.length : Int)) (j := (m.length : Int)) (st := st')
    rw [hz] at lu
    rw [seq_go e1 rfl]
    generalize tN l = A at *
    generalize tN m = B at *
    simp -implicitDefEqProofs only [sRet_ap, dOp_ap, dApp_ap, dCons_ap, dNil_ap, dVar_ap, List.getElem?_cons_zero, List.getElem?_cons_succ, Res.bind_ok, kOp1_ap, kCons1_ap, kCons2_ap, ll, lm, lu, Res.then_ok, kRet_ap, fnR_rt, g]
  · have e1 := (hf _).mpr e
    rw [seq_rt e1, fnR_rt, g]
end
end K02
namespace K02
open PySem PySem.Spec PyProof.Rows L2 MP
open Classical
noncomputable section
theorem eqv_refl : ∀ l : Nm, PyData.eqvAll (dS l) (dS l) = true
  | [] => by rw [dS, List.map_nil, PyData.eqvAll]
  | a :: l => by
    show PyData.eqvAll (.str (txt a) :: dS l) (.str (txt a) :: dS l) = true
    rw [PySem.W.eqv_all_cons, eqv_refl l, PyData.eqv]
    simp
theorem eqv_N (l m : Nm) : PyData.eqv (.tuple (dS l)) (.tuple (dS m)) = decide (l = m) := by
  rw [PyData.eqv]
  by_cases q : l = m
  · subst q; rw [eqv_refl]; simp
  · rw [decide_eq_false q]
    cases h : PyData.eqvAll (dS l) (dS m) with
    | false => rfl
    | true => exact absurd (eqv_dS _ _ h) q
theorem d5N {l : Nm} : d5 (tN l) = .tuple (dS l) := by
  show PyData.tuple ((l.map tW).map (dat 4)) = _
  rw [List.map_map]; rfl
/-- a list of names in the store -/
theorem picL {st : Store} {q : Nat} {L : List Nm} (h : st[q]? = some (.lst (L.map tN))) (hl : L.length ≤ 8192) (hs : ∀ l ∈ L, SOk l) : Pic st (.loc q) (.fro (L.map tN)) :=
  .ls q _ h (by rw [List.length_map]; exact hl) fun w hw => by
    obtain ⟨l, hl, rfl⟩ := List.mem_map.mp hw
    exact (hs l hl).pu
theorem notIn_ok {st : Store} {q : Nat} {L : List Nm} {x : Nm} (h : st[q]? = some (.lst (L.map tN))) (hl : L.length ≤ 8192) (hs : ∀ l ∈ L, SOk l) (hx : SOk x) : notInDW (tN x) (.loc q) st = .ok (.bl (!decide (x ∈ L))) st := by
  have P := picL h hl hs
  have X : Pic st (tN x) (tN x) := hx.pic
  have e1 := X.dat 66 (by decide)
  have e2 := P.dat 66 (by decide)
  have s1 := shaped_of ⟨X.shp.1, by have := X.shp.2; omega⟩
  have s2 := shaped_of ⟨P.shp.1, by have := P.shp.2; omega⟩
  have u1 : dU (tN x) = .tuple (dS x) := d5N
  have u2 : dU (.fro (L.map tN)) = .list (L.map fun l => .tuple (dS l)) := by
    show PyData.list ((L.map tN).map d5) = _
    rw [List.map_map]
    congr 1
    exact List.map_congr_left fun l _ => d5N
  rw [u1] at e1 s1
  rw [u2] at e2 s2
  unfold notInDW
  simp only [e1, e2, s1, s2, and_self, if_true]
  congr 3
  rw [List.any_map, Bool.eq_iff_iff, List.any_eq_true, decide_eq_true_iff]
  constructor
  · rintro ⟨y, hy, e⟩
    simp only [Function.comp, eqv_N, decide_eq_true_eq] at e
    rw [← e]; exact hy
  · intro hm
    exact ⟨x, hm, by simp only [Function.comp, eqv_N, decide_eq_true_eq]⟩
/-! ### the law's order -/
def oB : DS := (sIf (dBool (dOp notInDW (dVar 2) (dVar 1)))
    (sSeq (sAsg (dApp lenW (dCons (dLc (dIt (dVar 1)) [4] (tName 4) (dBool (dCall 2 d__law_ahead (dCons (dVar 4) (dCons (dVar 2) dNil)))) (dVar 4)) dNil)) (tName 3))
    (sAsg (dOp addW (dOp addW (dSl (dVar 1) dNoPart (dPart (dVar 3))) (dLst (dCons (dVar 2) dNil))) (dSl (dVar 1) (dPart (dVar 3)) dNoPart)) (tName 1)))
    sNil)
theorem order_eq : b__law_order = sSeq (sAsg (dLst dNil) (tName 1)) (sSeq (sFor (dIt (dVar 0)) (tName 2) oB) (sRet (dVar 1))) := rfl
theorem oB_ok {T : Store} {q F : Nat} {L : List Nm} {x : Nm} {c3 : Option W} (hF : T[F]? = some (.lst (L.map tN))) (hl : L.length ≤ 100) (hs : ∀ l ∈ L, SOk l) (hx : SOk x) :
    ∃ F' g c3', oB [some (.loc q), some (.loc F), some (tN x), c3, none] T = .go .nx [some (.loc q), some (.loc F'), some (tN x), c3', none] (T ++ g) ∧ (T ++ g)[F']? = some (.lst ((insN L x).map tN)) ∧ (F' = F ∨ T.length ≤ F') := by
  have ni := notIn_ok hF (by omega) hs hx
  by_cases q1 : x ∈ L
  · rw [decide_eq_true q1] at ni
    refine ⟨F, [], c3, ?_, by rw [List.append_nil, hF]; unfold insN; rw [if_pos q1], .inl rfl⟩
    rw [List.append_nil]
    unfold oB
    simp -implicitDefEqProofs only [sIf_ap, dBool_ap, dOp_ap, dVar_ap, List.getElem?_cons_zero, List.getElem?_cons_succ, Res.bind_ok, kOp1_ap, ni, kBool_ap, Bool.not_true, Res.then_ok, kSIf_f, sNil_ap]
  · rw [decide_eq_false q1] at ni
    have it := itOf_loc hF
    have kf := kLc_filter (env := [some (.loc q), some (.loc F), some (tN x), c3, none]) (i := 4) (c := (dBool (dCall 2 d__law_ahead (dCons (dVar 4) (dCons (dVar 2) dNil))))) (e := dVar 4) (st := T) (src := some F) tN tN (fun a => ltN a x) L (by simpa using hF) (fun b hb => by
      have e := ahead_ok (st := T) (hs b hb) hx
      refine ⟨?_, fun _ => rfl⟩
      generalize tN x = X at *
      generalize tN b = B at *
      simp -implicitDefEqProofs only [dBool_ap, dCall_ap, dCons_ap, dNil_ap, dVar_ap, List.set_cons_succ, List.set_cons_zero, List.getElem?_cons_zero, List.getElem?_cons_succ, Res.bind_ok, kCons1_ap, kCons2_ap, kCall_2, e, kBool_ap]) (Nat.le_trans hl (by decide))
    obtain ⟨T1, hT1⟩ : ∃ T1, T1 = T ++ [Ob.lst ((L.filter fun a => ltN a x).map tN)] := ⟨_, rfl⟩
    rw [← hT1] at kf
    have g1 : T1[T.length]? = some (.lst ((L.filter fun a => ltN a x).map tN)) := by rw [hT1]; simp
    have ln := lenL g1
    rw [List.length_map] at ln
    have hFl : F < T.length := (List.getElem?_eq_some_iff.mp hF).1
    have F1 : T1[F]? = some (.lst (L.map tN)) := by rw [hT1]; exact get_app _ hF
    generalize hk : (L.filter fun a => ltN a x).length = k at *
    have s1 := sl_take (n := k) F1
    obtain ⟨T2, hT2⟩ : ∃ T2, T2 = T1 ++ [Ob.lst ((L.map tN).take k)] := ⟨_, rfl⟩
    rw [← hT2] at s1
    have F2 : T2[F]? = some (.lst (L.map tN)) := by rw [hT2]; exact get_app _ F1
    have a2 : T2[T1.length]? = some (.lst ((L.map tN).take k)) := by rw [hT2]; simp
    have k1 : kLst [tN x] T2 = .ok (.loc T2.length) (T2 ++ [.lst [tN x]]) := lst5 (by simp)
    obtain ⟨T3, hT3⟩ : ∃ T3, T3 = T2 ++ [Ob.lst [tN x]] := ⟨_, rfl⟩
    rw [← hT3] at k1
    have F3 : T3[F]? = some (.lst (L.map tN)) := by rw [hT3]; exact get_app _ F2
    have a3 : T3[T1.length]? = some (.lst ((L.map tN).take k)) := by rw [hT3]; exact get_app _ a2
    have b3 : T3[T2.length]? = some (.lst [tN x]) := by rw [hT3]; simp
    have ad1 := addW_l a3 b3 (by simp <;> omega)
    obtain ⟨T4, hT4⟩ : ∃ T4, T4 = T3 ++ [Ob.lst ((L.map tN).take k ++ [tN x])] := ⟨_, rfl⟩
    rw [← hT4] at ad1
    have F4 : T4[F]? = some (.lst (L.map tN)) := by rw [hT4]; exact get_app _ F3
    have a4 : T4[T3.length]? = some (.lst ((L.map tN).take k ++ [tN x])) := by rw [hT4]; simp
    have s2 := slL_f (n := k) F4
    obtain ⟨T5, hT5⟩ : ∃ T5, T5 = T4 ++ [Ob.lst ((L.map tN).drop k)] := ⟨_, rfl⟩
    rw [← hT5] at s2
    have a5 : T5[T3.length]? = some (.lst ((L.map tN).take k ++ [tN x])) := by rw [hT5]; exact get_app _ a4
    have b5 : T5[T4.length]? = some (.lst ((L.map tN).drop k)) := by rw [hT5]; simp
    have ad2 := addW_l a5 b5 (by simp <;> omega)
    have el : (L.map tN).take k ++ [tN x] ++ (L.map tN).drop k = (insN L x).map tN := by
      unfold insN
      rw [if_neg q1, hk, List.map_append, List.map_append, List.map_take, List.map_drop]; rfl
    rw [el] at ad2
    refine ⟨T5.length, [Ob.lst ((L.filter fun a => ltN a x).map tN)] ++ [Ob.lst ((L.map tN).take k)] ++ [Ob.lst [tN x]] ++ [Ob.lst ((L.map tN).take k ++ [tN x])] ++ [Ob.lst ((L.map tN).drop k)] ++ [Ob.lst ((insN L x).map tN)], some (.int (k : Int)), ?_, ?_, .inr ?_⟩
    · have eT : T ++ ([Ob.lst ((L.filter fun a => ltN a x).map tN)] ++ [Ob.lst ((L.map tN).take k)] ++ [Ob.lst [tN x]] ++ [Ob.lst ((L.map tN).take k ++ [tN x])] ++ [Ob.lst ((L.map tN).drop k)] ++ [Ob.lst ((insN L x).map tN)]) = T5 ++ [Ob.lst ((insN L x).map tN)] := by
        rw [hT5, hT4, hT3, hT2, hT1]; simp
      rw [eT]
      unfold oB
      rw [sIf_ap]
      have nb : dBool (dOp notInDW (dVar 2) (dVar 1)) [some (.loc q), some (.loc F), some (tN x), c3, none] T = .ok true T := by
        simp -implicitDefEqProofs only [dBool_ap, dOp_ap, dVar_ap, List.getElem?_cons_zero, List.getElem?_cons_succ, Res.bind_ok, kOp1_ap, ni, kBool_ap, Bool.not_false]
      rw [nb]
      simp -implicitDefEqProofs only [Res.then_ok, kSIf_t]
      refine seq_go (env' := [some (.loc q), some (.loc F), some (tN x), some (.int (k : Int)), none]) (st' := T1) ?_ ?_
      · simp -implicitDefEqProofs only [sAsg_ap, dApp_ap, dCons_ap, dNil_ap, dLc_ap, dIt_ap, dVar_ap, List.getElem?_cons_zero, List.getElem?_cons_succ, Res.bind_ok, it, wipeW, List.set_cons_succ, List.set_cons_zero]
        rw [kf]
        simp -implicitDefEqProofs only [Res.bind_ok, kCons1_ap, dNil_ap, kCons2_ap, ln, Res.then_ok, kAsg_n, List.set_cons_succ, List.set_cons_zero]
      · simp -implicitDefEqProofs only [sAsg_ap, dOp_ap, dSl_ap, dVar_ap, dNoPart_ap, dPart_ap, dLst_ap, dCons_ap, dNil_ap, List.getElem?_cons_zero, List.getElem?_cons_succ, Res.bind_ok, kSl1_ap, kSl2_ap, kPart_ap, s1, kOp1_ap, kCons1_ap, kCons2_ap, k1, ad1, s2, ad2, Res.then_ok, kAsg_n, List.set_cons_succ, List.set_cons_zero]
    · have eT : T ++ ([Ob.lst ((L.filter fun a => ltN a x).map tN)] ++ [Ob.lst ((L.map tN).take k)] ++ [Ob.lst [tN x]] ++ [Ob.lst ((L.map tN).take k ++ [tN x])] ++ [Ob.lst ((L.map tN).drop k)] ++ [Ob.lst ((insN L x).map tN)]) = T5 ++ [Ob.lst ((insN L x).map tN)] := by
        rw [hT5, hT4, hT3, hT2, hT1]; simp
      rw [eT]; simp
    · rw [hT5, hT4, hT3, hT2, hT1]; simp <;> omega
theorem insN_len (L : List Nm) (x : Nm) : (insN L x).length ≤ L.length + 1 := by
  unfold insN
  split
  · omega
  · simp; omega
theorem order_ok {st : Store} {q : Nat} {L : List Nm} (hq : st[q]? = some (.lst (L.map tN))) (hl : L.length ≤ 60) (hs : ∀ l ∈ L, SOk l) :
    d__law_order [.loc q] st = .ok (.loc st.length) (st ++ [.lst ((ordN L).map tN)]) := by
  have kn : kLst [] st = .ok (.loc st.length) (st ++ [.lst []]) := lst5 (by simp)
  obtain ⟨T0, hT0⟩ : ∃ T0, T0 = st ++ [Ob.lst []] := ⟨_, rfl⟩
  rw [← hT0] at kn
  have q0 : T0[q]? = some (.lst (L.map tN)) := by rw [hT0]; exact get_app _ hq
  have it := itOf_loc q0
  obtain ⟨env', S', e, ⟨F, c2, c3, rfl, g, rfl, gF, hF, hs'⟩, hlen⟩ := forW_ok (chk := (ItW.mk (L.map tN) (some q)).Chk) (t := tName 2) (b := oB)
    (fun i env T => (∃ F c2 c3, env = [some (.loc q), some (.loc F), c2, c3, none] ∧ ∃ g, T = st ++ g ∧ T[F]? = some (.lst (((L.take i).foldl insN []).map tN)) ∧ st.length ≤ F ∧ ∀ l ∈ (L.take i).foldl insN [], SOk l) ∧ ((L.take i).foldl insN []).length ≤ i) (fun i env T hI => by
      obtain ⟨⟨F, c2, c3, rfl, g, rfl, gF, hF⟩, _⟩ := hI
      simpa using get_app g hq) (L.map tN) 0 [some (.loc q), some (.loc st.length), none, none, none] T0
    (fun i w env T hw hI => by
      obtain ⟨⟨F, c2, c3, rfl, g, rfl, gF, hF, hsl⟩, hil⟩ := hI
      rw [Nat.zero_add] at *
      rw [List.getElem?_map] at hw
      obtain ⟨x, hx, rfl⟩ := Option.map_eq_some_iff.mp hw
      have hi : i < L.length := (List.getElem?_eq_some_iff.mp hx).1
      have hxs := hs x (List.mem_of_getElem? hx)
      obtain ⟨F', g', c3', e, gF', hF'⟩ := oB_ok (q := q) (c3 := c3) gF (by omega) hsl hxs
      have et : (L.take (i + 1)).foldl insN [] = insN ((L.take i).foldl insN []) x := by
        rw [List.take_add_one, hx]; simp
      refine ⟨_, _, _, _, rfl, e, ⟨F', _, _, rfl, g ++ g', by rw [List.append_assoc], ?_, ?_, ?_⟩, ?_⟩
      · rw [et]; exact gF'
      · rcases hF' with rfl | h
        · exact hF
        · rw [List.length_append] at h; omega
      · rw [et]
        intro l hl
        rcases insN_mem.mp hl with rfl | hl
        · exact hxs
        · exact hsl l hl
      · rw [et]
        have := insN_len ((L.take i).foldl insN []) x
        omega) ⟨⟨st.length, none, none, rfl, [Ob.lst []], hT0, by rw [hT0]; simp, Nat.le_refl _, fun l h => (nomatch h)⟩, by simp⟩
  rw [Nat.zero_add, List.length_map, List.take_length] at gF hs'
  have hcl : clBs st.length ((ordN L).map tN) = true := cls_pu _ 5 _ fun w hw => by
    obtain ⟨l, hl, rfl⟩ := List.mem_map.mp hw
    exact (hs' l hl).pu
  have G := gc_newA (st := st) hF gF hcl
  unfold d__law_order; rw [fnDen_ap, order_eq]
  simp -implicitDefEqProofs only [List.map_cons, List.map_nil, List.length_cons, List.length_nil, Nat.reduceAdd, Nat.reduceSub, List.replicate_succ, List.replicate_zero, List.cons_append, List.nil_append]
  have body : (sSeq (sAsg (dLst dNil) (tName 1)) (sSeq (sFor (dIt (dVar 0)) (tName 2) oB) (sRet (dVar 1)))) [some (.loc q), none, none, none, none] st = .go (.rt (.loc F)) [some (.loc q), some (.loc F), c2, c3, none] (st ++ g) := by
    refine seq_go (env' := [some (.loc q), some (.loc st.length), none, none, none]) (st' := T0) ?_ (seq_go (env' := [some (.loc q), some (.loc F), c2, c3, none]) (st' := st ++ g) ?_ ?_)
    · simp -implicitDefEqProofs only [sAsg_ap, dLst_ap, dNil_ap, Res.bind_ok, kn, Res.then_ok, kAsg_n, List.set_cons_succ, List.set_cons_zero]
    · rw [sFor_ap]
      simp -implicitDefEqProofs only [dIt_ap, dVar_ap, List.getElem?_cons_zero, List.getElem?_cons_succ, Res.bind_ok, it, Res.then_ok, kFor]
      exact e
    · simp -implicitDefEqProofs only [sRet_ap, dVar_ap, List.getElem?_cons_zero, List.getElem?_cons_succ, Res.then_ok, kRet_ap]
  rw [body, fnR_rt]
  exact G
end
end K02
namespace K02
open PySem PySem.Spec PyProof.Rows L2 MP
open PySem.W (dataLt dataLe alike alikeAll AllAlike)
open Classical
noncomputable section
theorem NOk.check {l : Nm} {st : Store} (h : NOk l) : d_check_name [tN l] st = .ok .non st := check_good h.s.pic h.nm
def cB : DS := (sExpr (dCall 1 d_check_name (dCons (dVar 1) dNil)))
theorem checks_ok {st : Store} {q : Nat} {L : List Nm} (hq : st[q]? = some (.lst (L.map tN))) (hs : ∀ l ∈ L, NOk l) : d_check_names [.loc q] st = .ok .non st := by
  have it := itOf_loc hq
  obtain ⟨env', S', e, ⟨c1, rfl⟩, hst⟩ := forW_ok (chk := (ItW.mk (L.map tN) (some q)).Chk) (t := tName 1) (b := cB)
    (fun i env T => (∃ c1, env = [some (.loc q), c1]) ∧ T = st) (fun i env T hI => by rw [hI.2]; simpa using hq) (L.map tN) 0 [some (.loc q), none] st
    (fun i w env T hw hI => by
      obtain ⟨⟨c1, rfl⟩, rfl⟩ := hI
      rw [List.getElem?_map] at hw
      obtain ⟨x, hx, rfl⟩ := Option.map_eq_some_iff.mp hw
      have hc := (hs x (List.mem_of_getElem? hx)).check (st := T)
      refine ⟨_, _, _, _, rfl, ?_, ⟨some (tN x), rfl⟩, rfl⟩
      generalize tN x = X at *
      unfold cB
      simp -implicitDefEqProofs only [sExpr_ap, dCall_ap, dCons_ap, dNil_ap, dVar_ap, List.set_cons_succ, List.set_cons_zero, List.getElem?_cons_zero, List.getElem?_cons_succ, Res.bind_ok, kCons1_ap, kCons2_ap, kCall_1, hc, Res.then_ok, kExpr_ap]) ⟨⟨none, rfl⟩, rfl⟩
  rw [hst] at e
  have g : gc st .non st = .ok .non st := gc_same rfl
  unfold d_check_names; rw [fnDen_ap]
  simp -implicitDefEqProofs only [List.map_cons, List.map_nil, List.length_cons, List.length_nil, Nat.reduceAdd, Nat.reduceSub, List.replicate_succ, List.replicate_zero, List.cons_append, List.nil_append]
  have body : b_check_names [some (.loc q), none] st = .go .nx [some (.loc q), c1] st := by
    show sFor (dIt (dVar 0)) (tName 1) cB _ _ = _
    rw [sFor_ap]
    simp -implicitDefEqProofs only [dIt_ap, dVar_ap, List.getElem?_cons_zero, List.getElem?_cons_succ, Res.bind_ok, it, Res.then_ok, kFor]
    exact e
  rw [body, fnR_nx, g]
/-! ### a list of a dict of names -/
def kN (l : Nm) : List L2.Key := l.map fun x => .inr (txt x)
theorem tupK_kN (l : Nm) : tupK (kN l) = tN l := by
  unfold tupK kN tN
  rw [List.map_map]; rfl
theorem kN_inj : ∀ {l m : Nm}, kN l = kN m → l = m := fun {l m} h => tN_inj (by rw [← tupK_kN, ← tupK_kN, h])
def addN (acc : List Nm) (x : Nm) : List Nm := if x ∈ acc then acc else acc ++ [x]
theorem addK_N (acc : List Nm) (x : Nm) : addK (acc.map kN) (kN x) = (addN acc x).map kN := by
  unfold addK addN
  have e : kN x ∈ acc.map kN ↔ x ∈ acc := ⟨fun h => by
    obtain ⟨y, hy, e⟩ := List.mem_map.mp h
    rw [← kN_inj e]; exact hy, fun h => List.mem_map_of_mem h⟩
  by_cases q : x ∈ acc
  · rw [if_pos q, if_pos (e.mpr q)]
  · rw [if_neg q, if_neg (fun z => q (e.mp z)), List.map_append]; rfl
theorem addN_mem {acc : List Nm} {x y : Nm} : y ∈ addN acc x ↔ y ∈ acc ∨ y = x := by
  unfold addN
  split
  · rename_i h
    exact ⟨.inl, fun z => by rcases z with z | rfl; exact z; exact h⟩
  · simp
theorem addN_nd {acc : List Nm} {x : Nm} (h : acc.Nodup) : (addN acc x).Nodup := by
  unfold addN
  split
  · exact h
  · rename_i hk
    rw [List.nodup_append]
    exact ⟨h, by simp, fun a ha b hb e => hk (by simp at hb; rw [← hb, ← e]; exact ha)⟩
theorem addN_len (acc : List Nm) (x : Nm) : (addN acc x).length ≤ acc.length + 1 := by unfold addN; split <;> simp
def ddN (L : List Nm) : List Nm := L.foldl addN []
theorem foldA_mem : ∀ (l acc : List Nm) (y : Nm), y ∈ l.foldl addN acc ↔ y ∈ acc ∨ y ∈ l
  | [], acc, y => by simp
  | x :: l, acc, y => by
    rw [List.foldl_cons, foldA_mem l, addN_mem, List.mem_cons]
    constructor
    · rintro ((h | h) | h)
      · exact .inl h
      · exact .inr (.inl h)
      · exact .inr (.inr h)
    · rintro (h | h | h)
      · exact .inl (.inl h)
      · exact .inl (.inr h)
      · exact .inr h
theorem foldA_nd : ∀ (l acc : List Nm), acc.Nodup → (l.foldl addN acc).Nodup
  | [], _, h => h
  | _ :: l, _, h => foldA_nd l _ (addN_nd h)
theorem foldA_len : ∀ (l acc : List Nm), (l.foldl addN acc).length ≤ acc.length + l.length
  | [], acc => by simp
  | x :: l, acc => by
    have h1 := foldA_len l (addN acc x)
    have h2 := addN_len acc x
    rw [List.foldl_cons, List.length_cons]; omega
theorem ddN_mem {L : List Nm} {y : Nm} : y ∈ ddN L ↔ y ∈ L := by unfold ddN; rw [foldA_mem]; simp
theorem dk_ok {chk : Store → Prop} {st : Store} {c0 : Option W} (hc : chk st) : ∀ (L acc : List Nm), acc.length + L.length ≤ 100 → dkW chk [c0, none] (tName 1) (dVar 1) (L.map tN) (acc.map kN) st = some ((L.foldl addN acc).map kN, st)
  | [], acc, _ => by
    show (if chk st then some (acc.map kN, st) else none) = _
    rw [if_pos hc]; rfl
  | x :: L, acc, hl => by
    rw [List.length_cons] at hl
    have h2 := addN_len acc x
    have ih := dk_ok (c0 := c0) hc L (addN acc x) (by omega)
    rw [List.map_cons]
    unfold dkW
    rw [if_pos hc]
    have hk : keyW (tN x) = some (kN x) := by rw [← tupK_kN]; exact keyW_tup _
    have hz : (acc.map kN).length < sizeLine := by rw [List.length_map]; exact Nat.lt_of_le_of_lt (show acc.length ≤ 100 by omega) (by decide)
    show (match (Res.ok (tN x) st : Res W) with
      | .ok y st2 => match keyW y with
        | some k => if (acc.map kN).length < sizeLine then dkW chk [c0, none] (tName 1) (dVar 1) (L.map tN) (addK (acc.map kN) k) st2 else none
        | none => none
      | _ => none) = _
    simp only [hk, if_pos hz, addK_N]
    exact ih
theorem alike_all (L : List Nm) : AllAlike (L.map fun l => PyData.tuple (dS l.reverse)) := fun d hd d' hd' => by
  obtain ⟨l, _, rfl⟩ := List.mem_map.mp hd
  obtain ⟨m, _, rfl⟩ := List.mem_map.mp hd'
  exact alike_tS _ _
theorem depth_dS : ∀ l : Nm, PyData.depthAll (dS l) ≤ 1
  | [] => by rw [dS, List.map_nil, PyData.depthAll]; omega
  | a :: l => by
    show PyData.depthAll (.str (txt a) :: dS l) ≤ 1
    rw [PyData.depthAll]
    have h := depth_dS l
    have h2 : (PyData.str (txt a)).depth ≤ 1 := by simp [PyData.depth]
    exact Nat.max_le.mpr ⟨h2, h⟩
theorem depth_tS (l : Nm) : (PyData.tuple (dS l)).depth ≤ 2 := by
  rw [PyData.depth]
  have := depth_dS l
  omega
theorem sorted_ok {st : Store} {q : Nat} {K L : List Nm} (hq : st[q]? = some (.lst (K.map tN))) (hn : K.Nodup) (hk : ∀ y, y ∈ K ↔ y ∈ L) (hs : ∀ l ∈ K, SOk l) : sortedKW d_place [.loc q] st = .ok (.loc st.length) (st ++ [.lst ((ordN L).map tN)]) := by
  have hl : lstW st (.loc q) = some (K.map tN) := by unfold lstW; simp only [hq]
  have ha : allO ((K.map tN).map (keyO d_place st)) = some (K.map fun l => (tN l.reverse, PyData.tuple (dS l.reverse))) := by
    rw [List.map_map]
    exact allO_of _ (fun l => (tN l.reverse, PyData.tuple (dS l.reverse))) K fun l hl => by
      show keyO d_place st (tN l) = _
      unfold keyO
      rw [placeN (hs l hl)]
      simp only [if_true, datN, Option.map_some]
  have es : (K.map fun l => (tN l.reverse, PyData.tuple (dS l.reverse))).map Prod.snd = K.map fun l => PyData.tuple (dS l.reverse) := by rw [List.map_map]; rfl
  unfold sortedKW
  simp only [hl, ha]
  rw [es]
  rw [if_pos ⟨alike_all K, .inr fun d hd => by
    obtain ⟨l, _, rfl⟩ := List.mem_map.mp hd
    exact ⟨_, rfl⟩, fun p hp => by
    obtain ⟨l, _, rfl⟩ := List.mem_map.mp hp
    exact Nat.le_trans (depth_tS _) (by decide)⟩]
  have ez : (K.map tN).zip (K.map fun l => PyData.tuple (dS l.reverse)) = K.map fun l => (tN l, PyData.tuple (dS l.reverse)) := by
    rw [List.zip_map']
  have em : (K.mergeSort leN).map (fun l => (tN l, PyData.tuple (dS l.reverse))) = (K.map fun l => (tN l, PyData.tuple (dS l.reverse))).mergeSort (dataLe false Prod.snd) := by
    refine List.map_mergeSort fun a _ b _ => ?_
    show leN a b = !dataLt (.tuple (dS b.reverse)) (.tuple (dS a.reverse))
    rw [dataLt_dS]; rfl
  rw [ez, ← em, List.map_map, sort_eq hn hk]
  rfl
theorem in_order_ok {st : Store} {q : Nat} {K L : List Nm} (hq : st[q]? = some (.lst (K.map tN))) (hn : K.Nodup) (hk : ∀ y, y ∈ K ↔ y ∈ L) (hs : ∀ l ∈ K, SOk l) : d_in_order [.loc q] st = .ok (.loc st.length) (st ++ [.lst ((ordN L).map tN)]) := by
  have so := sorted_ok hq hn hk hs
  have hcl : clBs st.length ((ordN L).map tN) = true := cls_pu _ 5 _ fun w hw => by
    obtain ⟨l, hl, rfl⟩ := List.mem_map.mp hw
    exact (hs l ((hk l).mpr (ordN_mem.mp hl))).pu
  have G := gc_newA (st := st) (g := [.lst ((ordN L).map tN)]) (Nat.le_refl _) (by simp) hcl
  unfold d_in_order; rw [fnDen_ap]; unfold b_in_order
  simp -implicitDefEqProofs only [List.map_cons, List.map_nil, List.length_cons, List.length_nil, Nat.reduceAdd, Nat.reduceSub, List.replicate_succ, List.replicate_zero, List.cons_append, List.nil_append, sRet_ap, dApp_ap, dCons_ap, dNil_ap, dVar_ap, List.getElem?_cons_zero, Res.bind_ok, kCons1_ap, kCons2_ap, so, Res.then_ok, kRet_ap, fnR_rt]
  exact G
theorem ordered_ok {st : Store} {q : Nat} {L : List Nm} (hq : st[q]? = some (.lst (L.map tN))) (hl : L.length ≤ 60) (hs : ∀ l ∈ L, NOk l) : d_ordered [.loc q] st = .ok (.loc st.length) (st ++ [.lst ((ordN L).map tN)]) := by
  have ck := checks_ok hq hs
  have it := itOf_loc hq
  have dk := dk_ok (chk := (ItW.mk (L.map tN) (some q)).Chk) (st := st) (c0 := some (.loc q)) (by simpa using hq) L [] (by simp; omega)
  have hdl : (ddN L).length ≤ 60 := by have := foldA_len L []; unfold ddN; simp at this; omega
  have dd : dDk (dIt (dVar 0)) [1] (tName 1) (dVar 1) [some (.loc q), none] st = .ok (.loc st.length) (st ++ [.lst ((ddN L).map tN)]) := by
    show (((dVar 0 [some (.loc q), none] st).bind itOf).bind _) = _
    show ((itOf (.loc q) st).bind _) = _
    rw [it]
    show (match dkW (ItW.mk (L.map tN) (some q)).Chk [some (.loc q), none] (tName 1) (dVar 1) (L.map tN) [] st with
      | some (acc, st2) => if acc.length ≤ sizeLine then Res.ok (W.loc st2.length) (st2 ++ [Ob.lst (acc.map tupK)]) else .stuck
      | none => .stuck) = _
    rw [show ([] : List (List L2.Key)) = ([] : List Nm).map kN from rfl, dk]
    simp only
    rw [if_pos (by rw [List.length_map]; exact Nat.le_trans (show (L.foldl addN []).length ≤ 60 from hdl) (by decide)), List.map_map]
    congr 4
    exact List.map_congr_left fun l _ => tupK_kN l
  obtain ⟨T, hT⟩ : ∃ T, T = st ++ [Ob.lst ((ddN L).map tN)] := ⟨_, rfl⟩
  rw [← hT] at dd
  have qT : T[st.length]? = some (.lst ((ddN L).map tN)) := by rw [hT]; simp
  have io := in_order_ok (L := L) qT (foldA_nd L [] List.nodup_nil) (fun y => ddN_mem) (fun l hl => (hs l (ddN_mem.mp hl)).s)
  have hcl : clBs st.length ((ordN L).map tN) = true := cls_pu _ 5 _ fun w hw => by
    obtain ⟨l, hl, rfl⟩ := List.mem_map.mp hw
    exact (hs l (ordN_mem.mp hl)).s.pu
  have G := gc_newA (st := st) (g := [Ob.lst ((ddN L).map tN)] ++ [Ob.lst ((ordN L).map tN)]) (m := T.length) (ws := (ordN L).map tN) (by rw [hT]; simp) (by rw [← List.append_assoc, ← hT]; simp) hcl
  rw [← List.append_assoc, ← hT] at G
  unfold d_ordered; rw [fnDen_ap]; unfold b_ordered
  simp -implicitDefEqProofs only [List.map_cons, List.map_nil, List.length_cons, List.length_nil, Nat.reduceAdd, Nat.reduceSub, List.replicate_succ, List.replicate_zero, List.cons_append, List.nil_append]
  rw [seq_go (env' := [some (W.loc q), none]) (st' := st) (r := RsS.go (.rt (W.loc T.length)) [some (W.loc q), none] (T ++ [Ob.lst ((ordN L).map tN)])) ?_ ?_, fnR_rt]
  · exact G
  · simp -implicitDefEqProofs only [sExpr_ap, dCall_ap, dCons_ap, dNil_ap, dVar_ap, List.getElem?_cons_zero, Res.bind_ok, kCons1_ap, kCons2_ap, kCall_1, ck, Res.then_ok, kExpr_ap]
  · rw [sRet_ap, dCall_ap, dCons_ap, dd]
    simp -implicitDefEqProofs only [dNil_ap, Res.bind_ok, kCons1_ap, kCons2_ap, kCall_1, io, Res.then_ok, kRet_ap]
end
end K02
namespace K02
open PySem PySem.Spec PyProof.Rows L2 MP
open PySem.W (dataLt dataLe alike alikeAll AllAlike)
open Classical
noncomputable section
def optN : Option Nm → W
  | some l => tN l
  | none => .non
/-! ### neighbours -/
def gB : DS := (sIf (dBool (dOp leTW (dCall 1 d_place (dCons (dVar 2) dNil)) (dCall 1 d_place (dCons (dVar 1) dNil))))
    (sAsg (dVar 2) (tName 3))
    (sIf (dBool (dOp isNW (dVar 4) (dC .non)))
    (sAsg (dVar 2) (tName 4))
    sNil))
theorem isN_N {l : Nm} {st : Store} : isNW (tN l) .non st = .ok (.bl false) st := rfl
theorem isN_o {o : Option Nm} {st : Store} : isNW (optN o) .non st = .ok (.bl o.isNone) st := by cases o <;> rfl
def aheadF (x : Nm) (S : List Nm) : List Nm := S.filter fun o => !ltN x o
def behindF (x : Nm) (S : List Nm) : List Nm := S.filter fun o => ltN x o
theorem gB_ok {T : Store} {q : Nat} {x o : Nm} {a b : Option Nm} (hx : SOk x) (ho : SOk o) : gB [some (.loc q), some (tN x), some (tN o), some (optN a), some (optN b)] T =
    .go .nx [some (.loc q), some (tN x), some (tN o), some (optN (if ltN x o = true then a else some o)), some (optN (if ltN x o = true then (if b = none then some o else b) else b))] T := by
  have p1 := placeN (st := T) ho
  have p2 := placeN (st := T) hx
  have le := leN_ok (l := o.reverse) (m := x.reverse) (st := T)
  have e : lx x.reverse o.reverse = ltN x o := rfl
  rw [e] at le
  cases h : ltN x o with
  | false =>
    rw [h] at le
    rw [if_neg (by decide), if_neg (by decide)]
    show _ = RsS.go .nx [some (.loc q), some (tN x), some (tN o), some (tN o), some (optN b)] T
    generalize tN o.reverse = o' at *
    generalize tN x.reverse = x' at *
    generalize tN o = O at *
    generalize tN x = X at *
    generalize optN a = A at *
    generalize optN b = B at *
    unfold gB
    simp -implicitDefEqProofs only [sIf_ap, dBool_ap, dOp_ap, dCall_ap, dCons_ap, dNil_ap, dVar_ap, List.getElem?_cons_zero, List.getElem?_cons_succ, Res.bind_ok, kCons1_ap, kCons2_ap, kCall_1, p1, p2, kOp1_ap, le, Bool.not_false, kBool_ap, Res.then_ok, kSIf_t, sAsg_ap, kAsg_n, List.set_cons_succ, List.set_cons_zero]
  | true =>
    rw [h] at le
    rw [if_pos rfl, if_pos rfl]
    have is := isN_o (o := b) (st := T)
    cases b with
    | none =>
      show _ = RsS.go .nx [some (.loc q), some (tN x), some (tN o), some (optN a), some (tN o)] T
      rw [show (none : Option Nm).isNone = true from rfl] at is
      generalize tN o.reverse = o' at *
      generalize tN x.reverse = x' at *
      generalize tN o = O at *
      generalize tN x = X at *
      generalize optN a = A at *
      generalize optN none = B at *
      unfold gB
      simp -implicitDefEqProofs only [sIf_ap, dBool_ap, dOp_ap, dC_ap, dCall_ap, dCons_ap, dNil_ap, dVar_ap, List.getElem?_cons_zero, List.getElem?_cons_succ, Res.bind_ok, kCons1_ap, kCons2_ap, kCall_1, p1, p2, kOp1_ap, le, Bool.not_true, kBool_ap, Res.then_ok, kSIf_f, kSIf_t, is, sAsg_ap, kAsg_n, List.set_cons_succ, List.set_cons_zero]
    | some b =>
      rw [if_neg (by simp)]
      rw [show (some b : Option Nm).isNone = false from rfl] at is
      generalize tN o.reverse = o' at *
      generalize tN x.reverse = x' at *
      generalize tN o = O at *
      generalize tN x = X at *
      generalize optN a = A at *
      generalize optN (some b) = B at *
      unfold gB
      simp -implicitDefEqProofs only [sIf_ap, dBool_ap, dOp_ap, dC_ap, dCall_ap, dCons_ap, dNil_ap, dVar_ap, List.getElem?_cons_zero, List.getElem?_cons_succ, Res.bind_ok, kCons1_ap, kCons2_ap, kCall_1, p1, p2, kOp1_ap, le, Bool.not_true, kBool_ap, Res.then_ok, kSIf_f, is, sNil_ap]
theorem nb_eq : b_neighbours = sSeq (sExpr (dCall 1 d_check_names (dCons (dVar 0) dNil))) (sSeq (sExpr (dCall 1 d_check_name (dCons (dVar 1) dNil)))
    (sSeq (sAsg (dTup (dCons (dC .non) (dCons (dC .non) dNil))) (tTupT [(tName 3), (tName 4)]))
    (sSeq (sFor (dIt (dCall 1 d_ordered (dCons (dVar 0) dNil))) (tName 2) gB) (sRet (dTup (dCons (dVar 3) (dCons (dVar 4) dNil))))))) := rfl
theorem opt_pu {L : List Nm} (hs : ∀ l ∈ L, SOk l) {o : Option Nm} (ho : ∀ l, o = some l → l ∈ L) : MP.pu (optN o) := by
  cases o with
  | none => rfl
  | some l => exact (hs l (ho l rfl)).pu
theorem neighbours_ok {st : Store} {q : Nat} {L : List Nm} {x : Nm} (hq : st[q]? = some (.lst (L.map tN))) (hl : L.length ≤ 60) (hs : ∀ l ∈ L, NOk l) (hx : NOk x) :
    d_neighbours [.loc q, tN x] st = .ok (.tup [optN (aheadF x (ordN L)).getLast?, optN (behindF x (ordN L)).head?]) st := by
  have ck := checks_ok hq hs
  have cx := hx.check (st := st)
  have od := ordered_ok hq hl hs
  have so : ∀ l ∈ ordN L, SOk l := fun l hl => (hs l (ordN_mem.mp hl)).s
  obtain ⟨T, hT⟩ : ∃ T, T = st ++ [Ob.lst ((ordN L).map tN)] := ⟨_, rfl⟩
  rw [← hT] at od
  have qT : T[st.length]? = some (.lst ((ordN L).map tN)) := by rw [hT]; simp
  have it := itOf_loc qT
  generalize hS : ordN L = S at *
  obtain ⟨env', S', e, ⟨c2, rfl⟩, hst⟩ := forW_ok (chk := (ItW.mk (S.map tN) (some st.length)).Chk) (t := tName 2) (b := gB)
    (fun i env T' => (∃ c2, env = [some (.loc q), some (tN x), c2, some (optN (aheadF x (S.take i)).getLast?), some (optN (behindF x (S.take i)).head?)]) ∧ T' = T) (fun i env T' hI => by rw [hI.2]; simpa using qT) (S.map tN) 0 [some (.loc q), some (tN x), none, some .non, some .non] T
    (fun i w env T' hw hI => by
      obtain ⟨⟨c2, rfl⟩, rfl⟩ := hI
      rw [Nat.zero_add] at *
      rw [List.getElem?_map] at hw
      obtain ⟨o, ho, rfl⟩ := Option.map_eq_some_iff.mp hw
      have e := gB_ok (T := T') (q := q) (a := (aheadF x (S.take i)).getLast?) (b := (behindF x (S.take i)).head?) hx.s (so o (List.mem_of_getElem? ho))
      refine ⟨_, _, _, _, rfl, e, ⟨some (tN o), ?_⟩, rfl⟩
      have et : S.take (i + 1) = S.take i ++ [o] := by rw [List.take_add_one, ho]; rfl
      have e1 : (aheadF x (S.take (i + 1))).getLast? = if ltN x o = true then (aheadF x (S.take i)).getLast? else some o := by
        rw [et]; unfold aheadF
        rw [List.filter_append]
        by_cases h : ltN x o = true
        · rw [if_pos h]; simp [h]
        · rw [if_neg h]; simp [h]
      have e2 : (behindF x (S.take (i + 1))).head? = if ltN x o = true then (if (behindF x (S.take i)).head? = none then some o else (behindF x (S.take i)).head?) else (behindF x (S.take i)).head? := by
        rw [et]; unfold behindF
        rw [List.filter_append]
        by_cases h : ltN x o = true
        · rw [if_pos h]
          cases hb : (S.take i).filter fun o => ltN x o with
          | nil => simp [h]
          | cons b r => simp
        · rw [if_neg h]; simp [h]
      rw [e1, e2]) ⟨⟨none, rfl⟩, rfl⟩
  rw [Nat.zero_add, List.length_map, List.take_length] at e
  rw [hst] at e
  have m1 : ∀ l, (aheadF x S).getLast? = some l → l ∈ S := fun l h => (List.mem_filter.mp (List.mem_of_getLast? h)).1
  have m2 : ∀ l, (behindF x S).head? = some l → l ∈ S := fun l h => (List.mem_filter.mp (List.mem_of_head? h)).1
  have g : gc st (.tup [optN (aheadF x S).getLast?, optN (behindF x S).head?]) T = .ok (.tup [optN (aheadF x S).getLast?, optN (behindF x S).head?]) st := by
    rw [hT]
    refine gc_app ?_
    have c1 := cl_pu st.length 5 _ (opt_pu so m1)
    have c2 := cl_pu st.length 5 _ (opt_pu so m2)
    simp [clB, clBs, c1, c2]
  have k2 : kTup [.non, .non] st = .ok (.tup [.non, .non]) st := ten (by simp)
  have k3 : kTup [optN (aheadF x S).getLast?, optN (behindF x S).head?] T = .ok (.tup [optN (aheadF x S).getLast?, optN (behindF x S).head?]) T := ten (by simp)
  unfold d_neighbours; rw [fnDen_ap, nb_eq]
  simp -implicitDefEqProofs only [List.map_cons, List.map_nil, List.length_cons, List.length_nil, Nat.reduceAdd, Nat.reduceSub, List.replicate_succ, List.replicate_zero, List.cons_append, List.nil_append]
  generalize optN (aheadF x S).getLast? = A at *
  generalize optN (behindF x S).head? = B at *
  have h1 : sExpr (dCall 1 d_check_names (dCons (dVar 0) dNil)) [some (.loc q), some (tN x), none, none, none] st = .go .nx [some (.loc q), some (tN x), none, none, none] st := by
    simp -implicitDefEqProofs only [sExpr_ap, dCall_ap, dCons_ap, dNil_ap, dVar_ap, List.getElem?_cons_zero, Res.bind_ok, kCons1_ap, kCons2_ap, kCall_1, ck, Res.then_ok, kExpr_ap]
  have h2 : sExpr (dCall 1 d_check_name (dCons (dVar 1) dNil)) [some (.loc q), some (tN x), none, none, none] st = .go .nx [some (.loc q), some (tN x), none, none, none] st := by
    generalize tN x = X at *
    simp -implicitDefEqProofs only [sExpr_ap, dCall_ap, dCons_ap, dNil_ap, dVar_ap, List.getElem?_cons_zero, List.getElem?_cons_succ, Res.bind_ok, kCons1_ap, kCons2_ap, kCall_1, cx, Res.then_ok, kExpr_ap]
  have h3 : sAsg (dTup (dCons (dC .non) (dCons (dC .non) dNil))) (tTupT [(tName 3), (tName 4)]) [some (.loc q), some (tN x), none, none, none] st = .go .nx [some (.loc q), some (tN x), none, some .non, some .non] st := by
    rw [sAsg_ap, dTup_ap]
    simp -implicitDefEqProofs only [dCons_ap, dNil_ap, dC_ap, Res.bind_ok, kCons1_ap, kCons2_ap, k2, Res.then_ok]
    rfl
  have h4 : sFor (dIt (dCall 1 d_ordered (dCons (dVar 0) dNil))) (tName 2) gB [some (.loc q), some (tN x), none, some .non, some .non] st = .go .nx [some (.loc q), some (tN x), c2, some A, some B] T := by
    rw [sFor_ap]
    simp -implicitDefEqProofs only [dIt_ap, dCall_ap, dCons_ap, dNil_ap, dVar_ap, List.getElem?_cons_zero, List.getElem?_cons_succ, Res.bind_ok, kCons1_ap, kCons2_ap, kCall_1, od, it, Res.then_ok, kFor]
    exact e
  rw [seq_go h1 rfl, seq_go h2 rfl, seq_go h3 rfl, seq_go h4 rfl]
  simp -implicitDefEqProofs only [sRet_ap, dTup_ap, dCons_ap, dNil_ap, dVar_ap, List.getElem?_cons_zero, List.getElem?_cons_succ, Res.bind_ok, kCons1_ap, kCons2_ap, k3, Res.then_ok, kRet_ap, fnR_rt, g]
/-! ### sizes -/
theorem lsize_ok {l : Nm} {st : Store} (h : SOk l) : d__law_size [tN l] st = .ok (.int (wgt l : Int)) st := by
  obtain ⟨env', S', e, ⟨c2, rfl⟩, hst⟩ := forW_ok (chk := (ItW.mk (l.map tW) none).Chk) (t := tName 2) (b := (sAsg (dOp addW (dOp addW (dVar 1) (dApp lenW (dCons (dVar 2) dNil))) (dC (.int 1))) (tName 1)))
    (fun i env T => (∃ c2, env = [some (tN l), some (.int (wgt (l.take i) : Int)), c2]) ∧ T = st) (fun i env T hI => by simp) (l.map tW) 0 [some (tN l), some (.int 1), none] st
    (fun i w env T hw hI => by
      obtain ⟨⟨c2, rfl⟩, rfl⟩ := hI
      rw [Nat.zero_add] at *
      rw [List.getElem?_map] at hw
      obtain ⟨x, hx, rfl⟩ := Option.map_eq_some_iff.mp hw
      have hl := txt_lenW (l := x) (st := T) (h.ok x (List.mem_of_getElem? hx))
      have hw : wgt (l.take (i + 1)) = wgt (l.take i) + (x.length + 1) := by
        unfold wgt
        rw [List.take_add_one, hx]
        simp only [Option.toList_some, List.map_append, List.map_cons, List.map_nil, List.sum_append, List.sum_cons, List.sum_nil]
        omega
      have a1 : ∀ T : Store, addW (.int (wgt (l.take i) : Int)) (.int (x.length : Int)) T = .ok (.int ((wgt (l.take i) : Int) + (x.length : Int))) T := fun _ => rfl
      have a2 : ∀ T : Store, addW (.int ((wgt (l.take i) : Int) + (x.length : Int))) (.int 1) T = .ok (.int (wgt (l.take (i + 1)) : Int)) T := fun T => by
        show Res.ok (W.int ((wgt (l.take i) : Int) + (x.length : Int) + 1)) T = _
        rw [hw]
        congr 2
      refine ⟨_, _, _, _, rfl, ?_, ⟨some (tW x), rfl⟩, rfl⟩
      have hl' : lenW [tW x] T = .ok (.int (x.length : Int)) T := hl
      generalize tN l = A at *
      generalize tW x = B at *
      simp -implicitDefEqProofs only [sAsg_ap, dOp_ap, dApp_ap, dCons_ap, dNil_ap, dVar_ap, dC_ap, List.set_cons_succ, List.set_cons_zero, List.getElem?_cons_zero, List.getElem?_cons_succ, Res.bind_ok, kCons1_ap, kCons2_ap, kOp1_ap, hl', a1, a2, Res.then_ok, kAsg_n]) ⟨⟨none, rfl⟩, rfl⟩
  rw [Nat.zero_add, List.length_map, List.take_length] at e
  rw [hst] at e
  have g : gc st (.int (wgt l : Int)) st = .ok (.int (wgt l : Int)) st := gc_same rfl
  have it : itOf (tN l) st = .ok ⟨l.map tW, none⟩ st := rfl
  unfold d__law_size; rw [fnDen_ap]; unfold b__law_size
  simp -implicitDefEqProofs only [List.map_cons, List.map_nil, List.length_cons, List.length_nil, Nat.reduceAdd, Nat.reduceSub, List.replicate_succ, List.replicate_zero, List.cons_append, List.nil_append]
  have h1 : sAsg (dC (.int 1)) (tName 1) [some (tN l), none, none] st = .go .nx [some (tN l), some (.int 1), none] st := rfl
  have h2 : sFor (dIt (dVar 0)) (tName 2) (sAsg (dOp addW (dOp addW (dVar 1) (dApp lenW (dCons (dVar 2) dNil))) (dC (.int 1))) (tName 1)) [some (tN l), some (.int 1), none] st = .go .nx [some (tN l), some (.int (wgt l : Int)), c2] st := by
    rw [sFor_ap]
    simp -implicitDefEqProofs only [dIt_ap, dVar_ap, List.getElem?_cons_zero, List.getElem?_cons_succ, Res.bind_ok, it, Res.then_ok, kFor]
    exact e
  rw [seq_go h1 rfl, seq_go h2 rfl]
  simp -implicitDefEqProofs only [sRet_ap, dVar_ap, List.getElem?_cons_zero, List.getElem?_cons_succ, Res.then_ok, kRet_ap, fnR_rt, g]
end
end K02
namespace K02
open PySem PySem.Spec PyProof.Rows L2 MP
open PySem.W (dataLt dataLe alike alikeAll AllAlike)
open Classical
noncomputable section
/-! ### the first name of the least size -/
def zlt (a b : Nm) : Bool := if wgt a = wgt b then ltN a b else decide (wgt a < wgt b)
theorem zlt_irrefl (a : Nm) : zlt a a = false := by unfold zlt; rw [if_pos rfl, ltN_irrefl]
theorem zlt_trans {a b c : Nm} (h : zlt a b = true) (h' : zlt b c = true) : zlt a c = true := by
  unfold zlt at *
  by_cases p : wgt a = wgt b
  · rw [if_pos p] at h
    by_cases q : wgt b = wgt c
    · rw [if_pos q] at h'
      rw [if_pos (p.trans q)]; exact ltN_trans h h'
    · rw [if_neg q, decide_eq_true_iff] at h'
      rw [if_neg (by omega), decide_eq_true_iff]; omega
  · rw [if_neg p, decide_eq_true_iff] at h
    by_cases q : wgt b = wgt c
    · rw [if_neg (by omega), decide_eq_true_iff]; omega
    · rw [if_neg q, decide_eq_true_iff] at h'
      rw [if_neg (by omega), decide_eq_true_iff]; omega
theorem zlt_total {a b : Nm} (h : a ≠ b) (h' : zlt a b = false) : zlt b a = true := by
  unfold zlt at *
  by_cases p : wgt a = wgt b
  · rw [if_pos p] at h'
    rw [if_pos p.symm, ltN_turn h, h']; rfl
  · rw [if_neg p, decide_eq_false_iff_not] at h'
    rw [if_neg (Ne.symm p), decide_eq_true_iff]; omega
def IsFst (L : List Nm) (b : Nm) : Prop := b ∈ L ∧ ∀ y ∈ L, zlt y b = false
theorem fst_eq {L : List Nm} {a b : Nm} (ha : IsFst L a) (hb : IsFst L b) : a = b := by
  by_cases q : a = b
  · exact q
  · have := zlt_total q (hb.2 a ha.1)
    rw [ha.2 b hb.1] at this; cases this
theorem best_ok {K : List Nm} {bt : Nat → Nat → Bool} (hb : ∀ i j a b, K[i]? = some a → K[j]? = some b → bt i j = zlt a b) : ∀ j, j < K.length → ∃ b, K[argBest bt j]? = some b ∧ ∀ i a, i ≤ j → K[i]? = some a → zlt a b = false
  | 0, h => ⟨K[0], List.getElem?_eq_getElem h, fun i a hi ha => by
    have : i = 0 := by omega
    subst this
    rw [List.getElem?_eq_getElem h] at ha
    cases ha
    exact zlt_irrefl _⟩
  | j + 1, h => by
    obtain ⟨b, e, hm⟩ := best_ok hb j (by omega)
    have hj : K[j + 1]? = some K[j + 1] := List.getElem?_eq_getElem h
    have hbt := hb (j + 1) (argBest bt j) _ _ hj e
    cases q : zlt K[j + 1] b with
    | true =>
      rw [q] at hbt
      refine ⟨K[j + 1], by simp only [argBest, hbt, if_true]; exact hj, fun i a hi ha => ?_⟩
      by_cases z : i = j + 1
      · subst z
        rw [hj] at ha; cases ha
        exact zlt_irrefl _
      · cases r : zlt a K[j + 1] with
        | false => rfl
        | true =>
          have := zlt_trans r q
          rw [hm i a (by omega) ha] at this; cases this
    | false =>
      rw [q] at hbt
      refine ⟨b, by simp only [argBest, hbt, Bool.false_eq_true, if_false]; exact e, fun i a hi ha => ?_⟩
      by_cases z : i = j + 1
      · subst z
        rw [hj] at ha; cases ha
        exact q
      · exact hm i a (by omega) ha
theorem depth_dZ (l : Nm) (n : Int) : (dZ l n).depth ≤ 3 := by
  unfold dZ
  rw [PyData.depth, PyData.depthAll, PyData.depthAll, PyData.depthAll]
  have h := depth_tS l.reverse
  have h2 : (PyData.int n).depth ≤ 1 := by simp [PyData.depth]
  have := Nat.max_le.mpr ⟨Nat.le_trans h2 (by decide : 1 ≤ 2), Nat.max_le.mpr ⟨h, (by decide : 0 ≤ 2)⟩⟩
  omega
theorem first_ok {st : Store} {q : Nat} {L : List Nm} (hq : st[q]? = some (.lst (L.map tN))) (hs : ∀ l ∈ L, NOk l) : ∃ o : Option Nm, d_first [.loc q] st = .ok (optN o) st ∧ (L = [] → o = none) ∧ (L ≠ [] → ∃ b, o = some b ∧ IsFst L b) := by
  have ck := checks_ok hq hs
  have ha : allO ((L.map tN).map (keyO d_sized_place st)) = some (L.map fun l => (W.tup [.int (wgt l : Int), tN l.reverse], dZ l (wgt l))) := by
    rw [List.map_map]
    exact allO_of _ (fun l => (W.tup [.int (wgt l : Int), tN l.reverse], dZ l (wgt l))) L fun l hl => by
      show keyO d_sized_place st (tN l) = _
      unfold keyO
      rw [sized_ok (hs l hl).s]
      simp only [if_true, dat_sized, Option.map_some]
  have es : (L.map fun l => (W.tup [.int (wgt l : Int), tN l.reverse], dZ l (wgt l))).map Prod.snd = L.map fun l => dZ l (wgt l) := by rw [List.map_map]; rfl
  have cond : (∀ a ∈ (L.map fun l => (W.tup [.int (wgt l : Int), tN l.reverse], dZ l (wgt l))).map Prod.snd, ∀ b ∈ (L.map fun l => (W.tup [.int (wgt l : Int), tN l.reverse], dZ l (wgt l))).map Prod.snd, alike a b = true ∧ a ≠ .none) ∧ (∀ p ∈ (L.map fun l => (W.tup [.int (wgt l : Int), tN l.reverse], dZ l (wgt l))), p.2.depth ≤ 62) := by
    rw [es]
    refine ⟨fun a ha b hb => ?_, fun p hp => ?_⟩
    · obtain ⟨l, _, rfl⟩ := List.mem_map.mp ha
      obtain ⟨m, _, rfl⟩ := List.mem_map.mp hb
      exact ⟨alike_dZ _ _ _ _, fun z => by unfold dZ at z; cases z⟩
    · obtain ⟨l, _, rfl⟩ := List.mem_map.mp hp
      exact Nat.le_trans (depth_dZ _ _) (by decide)
  have hbt : ∀ i j a b, L[i]? = some a → L[j]? = some b → btD (L.map fun l => dZ l (wgt l)) i j = zlt a b := fun i j a b ei ej => by
    unfold btD
    have gd : ∀ {i : Nat} {a : Nm}, L[i]? = some a → (L.map fun l => dZ l (wgt l)).getD i .none = dZ a (wgt a) := fun {i a} h => by rw [List.getD_eq_getElem?_getD, List.getElem?_map, h]; rfl
    rw [gd ei, gd ej, dataLt_dZ]
    unfold zlt
    by_cases p : wgt a = wgt b
    · rw [if_pos (by rw [p]), if_pos p]
    · rw [if_neg (by omega), if_neg p]
      congr 1
      simp
  have mk : ∃ o : Option Nm, minKW d_sized_place .non [.loc q] st = .ok (optN o) st ∧ (L = [] → o = none) ∧ (L ≠ [] → ∃ b, o = some b ∧ IsFst L b) := by
    unfold minKW
    simp only [hq, ha]
    rw [if_pos cond, es]
    cases hL : L with
    | nil => exact ⟨none, rfl, fun _ => rfl, fun h => absurd rfl h⟩
    | cons x r =>
      rw [← hL]
      have hne : 0 < L.length := by rw [hL]; simp
      obtain ⟨b, e, hm⟩ := best_ok hbt (L.length - 1) (by omega)
      have e' : (L.map tN)[argBest (btD (L.map fun l => dZ l (wgt l))) ((L.map tN).length - 1)]? = some (tN b) := by rw [List.length_map, List.getElem?_map, e]; rfl
      refine ⟨some b, ?_, fun h => absurd h (by rw [hL]; simp), fun _ => ⟨b, rfl, List.mem_of_getElem? e, fun y hy => ?_⟩⟩
      · have : ∀ ws : List W, ws = L.map tN → (match ws with
            | [] => Res.ok W.non st
            | _ => match ws[argBest (btD (L.map fun l => dZ l (wgt l))) (ws.length - 1)]? with
              | some w => Res.ok w st
              | none => .stuck) = .ok (tN b) st := fun ws h => by
          cases ws with
          | nil => rw [hL] at h; simp at h
          | cons a r =>
            show (match (a :: r)[argBest (btD (L.map fun l => dZ l (wgt l))) ((a :: r).length - 1)]? with
              | some w => Res.ok w st
              | none => .stuck) = _
            rw [h, e']
        exact this _ rfl
      · obtain ⟨i, hi⟩ := List.getElem?_of_mem hy
        have := (List.getElem?_eq_some_iff.mp hi).1
        exact hm i y (by omega) hi
  obtain ⟨o, e, h1, h2⟩ := mk
  refine ⟨o, ?_, h1, h2⟩
  have hpu : MP.pu (optN o) := by
    refine opt_pu (L := L) (fun l hl => (hs l hl).s) fun l ho => ?_
    by_cases z : L = []
    · rw [h1 z] at ho; cases ho
    · obtain ⟨b, eb, hb⟩ := h2 z
      rw [ho] at eb; cases eb
      exact hb.1
  have g : gc st (optN o) st = .ok (optN o) st := gc_same (cl_pu _ 5 _ hpu)
  unfold d_first; rw [fnDen_ap]; unfold b_first
  simp -implicitDefEqProofs only [List.map_cons, List.map_nil, List.length_cons, List.length_nil, Nat.reduceAdd, Nat.reduceSub, List.replicate_succ, List.replicate_zero, List.cons_append, List.nil_append]
  have h1 : sExpr (dCall 1 d_check_names (dCons (dVar 0) dNil)) [some (.loc q)] st = .go .nx [some (.loc q)] st := by
    simp -implicitDefEqProofs only [sExpr_ap, dCall_ap, dCons_ap, dNil_ap, dVar_ap, List.getElem?_cons_zero, Res.bind_ok, kCons1_ap, kCons2_ap, kCall_1, ck, Res.then_ok, kExpr_ap]
  rw [seq_go h1 rfl]
  simp -implicitDefEqProofs only [sRet_ap, dApp_ap, dCons_ap, dNil_ap, dVar_ap, List.getElem?_cons_zero, Res.bind_ok, kCons1_ap, kCons2_ap, e, Res.then_ok, kRet_ap, fnR_rt, g]
/-! ### the law's -/
theorem eq_nilL {st : Store} {w q : Nat} {L : List Nm} (h : st[w]? = some (.lst (L.map tN))) (h' : st[q]? = some (.lst [])) (hl : L.length ≤ 8192) (hs : ∀ l ∈ L, SOk l) : eqW (.loc w) (.loc q) st = .ok (.bl (decide (L = []))) st ∧ neW (.loc w) (.loc q) st = .ok (.bl (!decide (L = []))) st := by
  have P := picL h hl hs
  have P' : Pic st (.loc q) (.fro []) := Pic.ls q _ h' (by simp) (by simp)
  have e : (dU (.fro (L.map tN))).eqv (dU (.fro [])) = decide (L = []) := by
    simp only [dU]
    rw [PyData.eqv.eq_7]
    cases L with
    | nil => simp [PyData.eqvAll]
    | cons a l => simp [PyData.eqvAll]
  rw [pic_eq P P', pic_ne P P', e]
  exact ⟨rfl, rfl⟩
theorem nums_at {S : Store} {q : Nat} {l : List Int} (h : S[q]? = some (.lst (l.map W.int))) : nums S (.loc q) = some l := by
  unfold nums lstW
  simp only [h, Option.bind_some, List.map_map]
  have e : allO (l.map (inOf ∘ W.int)) = some (l.map id) := allO_of _ id _ fun _ _ => rfl
  rw [e]
  simp
theorem head_fst {L : List Nm} {S : List Nm} {m : Nat} (hS : Srt S) (hm : ∀ y, y ∈ S ↔ y ∈ L) (h1 : ∃ b ∈ S, wgt b = m) (h2 : ∀ y ∈ S, m ≤ wgt y) : ∃ b, (S.filter fun l => decide (wgt l = m)).head? = some b ∧ IsFst L b := by
  have hf : Srt (S.filter fun l => decide (wgt l = m)) := hS.filter _
  cases q : S.filter fun l => decide (wgt l = m) with
  | nil =>
    obtain ⟨b, hb, e⟩ := h1
    rw [List.filter_eq_nil_iff] at q
    exact absurd (decide_eq_true e) (q b hb)
  | cons b r =>
    rw [q] at hf
    have hb : b ∈ S.filter fun l => decide (wgt l = m) := by rw [q]; exact List.mem_cons_self
    obtain ⟨hbS, hbm⟩ := List.mem_filter.mp hb
    have hbm : wgt b = m := by simpa using hbm
    refine ⟨b, rfl, (hm b).mp hbS, fun y hy => ?_⟩
    have hyS := (hm y).mpr hy
    have hle := h2 y hyS
    unfold zlt
    by_cases p : wgt y = wgt b
    · rw [if_pos p]
      have hy2 : y ∈ b :: r := by rw [← q]; exact List.mem_filter.mpr ⟨hyS, by rw [p, hbm]; simp⟩
      rcases List.mem_cons.mp hy2 with rfl | hy2
      · exact ltN_irrefl _
      · exact ltN_asymm ((List.pairwise_cons.mp hf).1 y hy2)
    · rw [if_neg p, decide_eq_false_iff_not]; omega
end
end K02
namespace K02
open PySem PySem.Spec PyProof.Rows L2 MP
open Classical
noncomputable section
def fA : DS := (sAsg (dCall 1 d__law_order (dCons (dVar 0) dNil)) (tName 1))
def fI : DS := (sIf (dBool (dOp eqW (dVar 1) (dLst dNil))) (sRet (dC .non)) sNil)
def fM : DS := (sAsg (dApp minLW (dCons (dLc (dIt (dVar 1)) [3] (tName 3) dYes (dCall 1 d__law_size (dCons (dVar 3) dNil))) dNil)) (tName 2))
def fR : DS := (sRet (dOp ixW (dLc (dIt (dVar 1)) [3] (tName 3) (dBool (dOp eqW (dCall 1 d__law_size (dCons (dVar 3) dNil)) (dVar 2))) (dVar 3)) (dC (.int 0))))
theorem lf_eq : b__law_first = sSeq fA (sSeq fI (sSeq fM fR)) := rfl
theorem lfirst_ok {st : Store} {q : Nat} {L : List Nm} (hq : st[q]? = some (.lst (L.map tN))) (hl : L.length ≤ 60) (hs : ∀ l ∈ L, SOk l) : ∃ o : Option Nm, d__law_first [.loc q] st = .ok (optN o) st ∧ (L = [] → o = none) ∧ (L ≠ [] → ∃ b, o = some b ∧ IsFst L b) := by
  have od := order_ok hq hl hs
  have so : ∀ l ∈ ordN L, SOk l := fun l hl => hs l (ordN_mem.mp hl)
  obtain ⟨T, hT⟩ : ∃ T, T = st ++ [Ob.lst ((ordN L).map tN)] := ⟨_, rfl⟩
  rw [← hT] at od
  have qT : T[st.length]? = some (.lst ((ordN L).map tN)) := by rw [hT]; simp
  have kn : kLst [] T = .ok (.loc T.length) (T ++ [.lst []]) := lst5 (by simp)
  obtain ⟨T1, hT1⟩ : ∃ T1, T1 = T ++ [Ob.lst []] := ⟨_, rfl⟩
  rw [← hT1] at kn
  have q1 : T1[st.length]? = some (.lst ((ordN L).map tN)) := by rw [hT1]; exact get_app _ qT
  have hol : (ordN L).length ≤ 60 := by
    have : ∀ (l acc : List Nm), (l.foldl insN acc).length ≤ acc.length + l.length := fun l => by
      induction l with
      | nil => intro acc; simp
      | cons a l ih =>
        intro acc
        have h1 := ih (insN acc a)
        have h2 := insN_len acc a
        rw [List.foldl_cons, List.length_cons]; omega
    have := this L []
    unfold ordN; simp at this; omega
  have eq := (eq_nilL q1 (show T1[T.length]? = some (.lst []) by rw [hT1]; simp) (by omega) so).1
  have hA : fA [some (.loc q), none, none, none] st = .go .nx [some (.loc q), some (.loc st.length), none, none] T := by
    unfold fA
    simp -implicitDefEqProofs only [sAsg_ap, dCall_ap, dCons_ap, dNil_ap, dVar_ap, List.getElem?_cons_zero, Res.bind_ok, kCons1_ap, kCons2_ap, kCall_1, od, Res.then_ok, kAsg_n, List.set_cons_succ, List.set_cons_zero]
  by_cases hL : L = []
  · subst hL
    refine ⟨none, ?_, fun _ => rfl, fun h => absurd rfl h⟩
    rw [show decide (ordN [] = []) = true from by simp [ordN]] at eq
    have g : gc st .non T1 = .ok .non st := by rw [hT1, hT, List.append_assoc]; exact gc_app rfl
    have hI : fI [some (.loc q), some (.loc st.length), none, none] T = .go (.rt .non) [some (.loc q), some (.loc st.length), none, none] T1 := by
      unfold fI
      simp -implicitDefEqProofs only [sIf_ap, dBool_ap, dOp_ap, dVar_ap, dLst_ap, dNil_ap, List.getElem?_cons_zero, List.getElem?_cons_succ, Res.bind_ok, kn, kOp1_ap, eq, kBool_ap, Res.then_ok, kSIf_t, sRet_ap, dC_ap, kRet_ap]
    unfold d__law_first; rw [fnDen_ap, lf_eq]
    simp -implicitDefEqProofs only [List.map_cons, List.map_nil, List.length_cons, List.length_nil, Nat.reduceAdd, Nat.reduceSub, List.replicate_succ, List.replicate_zero, List.cons_append, List.nil_append]
    rw [seq_go hA rfl, seq_rt hI, fnR_rt, g]; rfl
  · have hne : ordN L ≠ [] := fun z => by
      cases hLL : L with
      | nil => exact hL hLL
      | cons a r =>
        have : a ∈ ordN L := ordN_mem.mpr (by rw [hLL]; exact List.mem_cons_self)
        rw [z] at this; cases this
    rw [decide_eq_false hne] at eq
    have hI : fI [some (.loc q), some (.loc st.length), none, none] T = .go .nx [some (.loc q), some (.loc st.length), none, none] T1 := by
      unfold fI
      simp -implicitDefEqProofs only [sIf_ap, dBool_ap, dOp_ap, dVar_ap, dLst_ap, dNil_ap, List.getElem?_cons_zero, List.getElem?_cons_succ, Res.bind_ok, kn, kOp1_ap, eq, kBool_ap, Res.then_ok, kSIf_f, sNil_ap]
    have it1 := itOf_loc q1
    have kl := kLc_mapB (env := [some (.loc q), some (.loc st.length), none, none]) (i := 3) (e := (dCall 1 d__law_size (dCons (dVar 3) dNil))) (st := T1) (src := some st.length) tN (fun l : Nm => W.int (wgt l : Int)) (ordN L) (by simpa using q1) (fun b hb => by
      have e := lsize_ok (st := T1) (so b hb)
      generalize tN b = B at *
      simp -implicitDefEqProofs only [dCall_ap, dCons_ap, dNil_ap, dVar_ap, List.set_cons_succ, List.set_cons_zero, List.getElem?_cons_zero, List.getElem?_cons_succ, Res.bind_ok, kCons1_ap, kCons2_ap, kCall_1, e]) (Nat.le_trans hol (by decide))
    have em : ((ordN L).map fun l : Nm => W.int (wgt l : Int)) = ((ordN L).map fun l => (wgt l : Int)).map W.int := by rw [List.map_map]; rfl
    rw [em] at kl
    obtain ⟨T2, hT2⟩ : ∃ T2, T2 = T1 ++ [Ob.lst (((ordN L).map fun l => (wgt l : Int)).map W.int)] := ⟨_, rfl⟩
    rw [← hT2] at kl
    have q2 : T2[st.length]? = some (.lst ((ordN L).map tN)) := by rw [hT2]; exact get_app _ q1
    have nm := nums_at (S := T2) (q := T1.length) (l := (ordN L).map fun l => (wgt l : Int)) (by rw [hT2]; simp)
    obtain ⟨x, r, hS⟩ : ∃ x r, ordN L = x :: r := by
      cases h : ordN L with
      | nil => exact absurd h hne
      | cons x r => exact ⟨x, r, rfl⟩
    obtain ⟨m, hm, m1, m2⟩ : ∃ m : Nat, minLW [.loc T1.length] T2 = .ok (.int (m : Int)) T2 ∧ (∃ b ∈ ordN L, wgt b = m) ∧ ∀ y ∈ ordN L, m ≤ wgt y := by
      have e : minLW [.loc T1.length] T2 = .ok (.int (minZ (wgt x) (r.map fun l => (wgt l : Int)))) T2 := by
        unfold minLW
        simp only [nm]
        rw [hS]
        rfl
      have hmem : ∃ b ∈ ordN L, (wgt b : Int) = minZ (wgt x) (r.map fun l => (wgt l : Int)) := by
        rw [hS]
        rcases minZ_mem (r.map fun l => (wgt l : Int)) (wgt x) with h | h
        · exact ⟨x, List.mem_cons_self, h.symm⟩
        · obtain ⟨b, hb, e⟩ := List.mem_map.mp h
          exact ⟨b, List.mem_cons_of_mem _ hb, e⟩
      obtain ⟨b, hb, eb⟩ := hmem
      refine ⟨wgt b, by rw [eb]; exact e, ⟨b, hb, rfl⟩, fun y hy => ?_⟩
      obtain ⟨l1, l2⟩ := minZ_le (r.map fun l => (wgt l : Int)) (wgt x)
      rw [hS] at hy
      rcases List.mem_cons.mp hy with rfl | hy
      · omega
      · have := l2 _ (List.mem_map_of_mem (f := fun l : Nm => (wgt l : Int)) hy)
        omega
    have it2 := itOf_loc q2
    have hM : fM [some (.loc q), some (.loc st.length), none, none] T1 = .go .nx [some (.loc q), some (.loc st.length), some (.int (m : Int)), none] T2 := by
      unfold fM
      simp -implicitDefEqProofs only [sAsg_ap, dApp_ap, dCons_ap, dNil_ap, dLc_ap, dIt_ap, dVar_ap, List.getElem?_cons_zero, List.getElem?_cons_succ, Res.bind_ok, it1, wipeW, List.set_cons_succ, List.set_cons_zero]
      rw [kl]
      simp -implicitDefEqProofs only [Res.bind_ok, kCons1_ap, dNil_ap, kCons2_ap, hm, Res.then_ok, kAsg_n, List.set_cons_succ, List.set_cons_zero]
    have kf := kLc_filter (env := [some (.loc q), some (.loc st.length), some (.int (m : Int)), none]) (i := 3) (c := (dBool (dOp eqW (dCall 1 d__law_size (dCons (dVar 3) dNil)) (dVar 2)))) (e := dVar 3) (st := T2) (src := some st.length) tN tN (fun l => decide (wgt l = m)) (ordN L) (by simpa using q2) (fun b hb => by
      have e := lsize_ok (st := T2) (so b hb)
      have eqi : eqW (.int (wgt b : Int)) (.int (m : Int)) T2 = .ok (.bl (decide (wgt b = m))) T2 := by
        rw [eqW_int]
        congr 2
        rw [Bool.eq_iff_iff, beq_iff_eq, decide_eq_true_iff]
        omega
      refine ⟨?_, fun _ => rfl⟩
      generalize tN b = B at *
      generalize (wgt b : Int) = W1 at *
      generalize (m : Int) = M1 at *
      simp -implicitDefEqProofs only [dBool_ap, dOp_ap, dCall_ap, dCons_ap, dNil_ap, dVar_ap, List.set_cons_succ, List.set_cons_zero, List.getElem?_cons_zero, List.getElem?_cons_succ, Res.bind_ok, kCons1_ap, kCons2_ap, kCall_1, e, kOp1_ap, eqi, kBool_ap]) (Nat.le_trans hol (by decide))
    obtain ⟨b, hb, hf⟩ := head_fst (L := L) (ordN_srt L) (fun y => ordN_mem) m1 m2
    obtain ⟨T3, hT3⟩ : ∃ T3, T3 = T2 ++ [Ob.lst (((ordN L).filter fun l => decide (wgt l = m)).map tN)] := ⟨_, rfl⟩
    rw [← hT3] at kf
    have q3 : T3[T2.length]? = some (.lst (((ordN L).filter fun l => decide (wgt l = m)).map tN)) := by rw [hT3]; simp
    have ix : ixW (.loc T2.length) (.int 0) T3 = .ok (tN b) T3 := ixL (j := 0) q3 (by rw [List.getElem?_map, ← List.head?_eq_getElem?, hb]; rfl)
    have g : gc st (tN b) T3 = .ok (tN b) st := by
      rw [hT3, hT2, hT1, hT, List.append_assoc, List.append_assoc, List.append_assoc]
      exact gcN (hs b hf.1)
    refine ⟨some b, ?_, fun h => absurd h hL, fun _ => ⟨b, rfl, hf⟩⟩
    unfold d__law_first; rw [fnDen_ap, lf_eq]
    simp -implicitDefEqProofs only [List.map_cons, List.map_nil, List.length_cons, List.length_nil, Nat.reduceAdd, Nat.reduceSub, List.replicate_succ, List.replicate_zero, List.cons_append, List.nil_append]
    rw [seq_go hA rfl, seq_go hI rfl, seq_go hM rfl]
    unfold fR
    simp -implicitDefEqProofs only [sRet_ap, dOp_ap, dLc_ap, dIt_ap, dVar_ap, List.getElem?_cons_zero, List.getElem?_cons_succ, Res.bind_ok, it2, wipeW, List.set_cons_succ, List.set_cons_zero]
    rw [kf]
    simp -implicitDefEqProofs only [Res.bind_ok, kOp1_ap, dC_ap, ix, Res.then_ok, kRet_ap, fnR_rt, g]
    rfl
/-! ### names drawn -/
theorem star_ok : okS (txt [42]) = true := by decide +kernel
theorem pls_nok {l : Nm} (hl : l.length ≤ 11) (h : ∀ x ∈ l, PL x) : NOk l ∧ NOk ([42] :: l) := by
  have pa : (l.map tW).all plS = true := by
    rw [List.all_map, List.all_eq_true]
    exact fun x hx => (h x hx).plain
  refine ⟨⟨⟨by omega, fun x hx => (h x hx).ok⟩, ?_⟩, ⟨⟨by simp; omega, fun x hx => ?_⟩, ?_⟩⟩
  · show (if hdS (l.map tW) = true then (l.map tW).drop 1 else l.map tW).all plS = true
    by_cases q : hdS (l.map tW) = true
    · rw [if_pos q, List.all_eq_true]
      exact fun x hx => (List.all_eq_true.mp pa) x (List.mem_of_mem_drop hx)
    · rw [if_neg q]; exact pa
  · rcases List.mem_cons.mp hx with rfl | hx
    · exact star_ok
    · exact (h x hx).ok
  · show (if hdS (tW [42] :: l.map tW) = true then (tW [42] :: l.map tW).drop 1 else tW [42] :: l.map tW).all plS = true
    rw [if_pos (by show ((txt [42] == c_WILD) = true); decide +kernel)]
    exact pa
def nS1 : DS := (sAsg (dOp ixW (dLst (dCons (dCall 2 d__law_take (dCons (dVar 0) (dCons (dC (.int 4)) dNil))) (dCons (dCall 2 d__law_take (dCons (dVar 0) (dCons (dC (.int 12)) dNil))) (dCons (dC (.int 11)) dNil)))) (dOp fdivW (dCall 2 d__law_take (dCons (dVar 0) (dCons (dC (.int 8)) dNil))) (dC (.int 3)))) (tName 2))
def nS2 : DS := (sAsg (dLc (dRange1 (dCons (dVar 2) dNil)) [4] (tName 4) dYes (dOp ixW (dVar 1) (dCall 2 d__law_take (dCons (dVar 0) (dCons (dApp lenW (dCons (dVar 1) dNil)) dNil))))) (tName 3))
def nS3 : DS := (sIf (dBool (dOp eqW (dCall 2 d__law_take (dCons (dVar 0) (dCons (dC (.int 5)) dNil))) (dC (.int 0))))
    (sAsg (dOp addW (dLst (dCons (dC (.str "*")) dNil)) (dVar 3)) (tName 3))
    sNil)
theorem nm_eq : b__law_name = sSeq nS1 (sSeq nS2 (sSeq nS3 (sRet (dApp tupleW (dCons (dVar 3) dNil))))) := rfl
section
variable {p n q : Nat} {S : Store} {xs : List (List Nat)}
theorem tupleL {T : Store} {w : Nat} {ws : List W} (h : T[w]? = some (.lst ws)) : tupleW [.loc w] T = .ok (.tup ws) T := by
  unfold tupleW
  simp only [lstW, h]
theorem name_draw (P : PotA p n S) (hq : S[q]? = some (.lst (xs.map tW))) (hpq : p ≠ q) (h1 : 1 ≤ xs.length) (h6 : xs.length ≤ 6) (hpl : ∀ x ∈ xs, PL x) (hn : n + 30 ≤ 1000000) : ∃ (l : Nm) (S' : Store), d__law_name [.loc p, .loc q] S = .ok (tN l) S' ∧ NOk l ∧ PotA p (n + 20) S' ∧ Kp p S S' := by
  have hlt := P.lt
  obtain ⟨t1, s1, e1, a1, b1, P1, K1⟩ := take_ok (m := 4) P (by omega) (by decide) (by decide)
  obtain ⟨t2, s2, e2, a2, b2, P2, K2⟩ := take_ok (m := 12) P1 (by omega) (by decide) (by decide)
  have k0 : kLst [.int t1, .int t2, .int 11] s2 = .ok (.loc s2.length) (s2 ++ [.lst [.int t1, .int t2, .int 11]]) := lst5 (by simp)
  obtain ⟨s3, hs3⟩ : ∃ s3, s3 = s2 ++ [Ob.lst [.int t1, .int t2, .int 11]] := ⟨_, rfl⟩
  rw [← hs3] at k0
  have P3 : PotA p (n + 1 + 1) s3 := by rw [hs3]; exact P2.app _
  obtain ⟨t3, s4, e4, a3, b3, P4, K4⟩ := take_ok (m := 8) P3 (by omega) (by decide) (by decide)
  have hp2 : p ≠ s2.length := by have := P2.lt; omega
  have g4 : s4[s2.length]? = some (.lst [.int t1, .int t2, .int 11]) := by rw [K4.keep _ (Ne.symm hp2), hs3]; simp
  have fd : fdivW (.int t3) (.int 3) s4 = .ok (.int (t3 / 3)) s4 := div_ok (by decide) (by decide)
  obtain ⟨w, wm, _, ix⟩ := ix_mem (st := s4) (a := .loc s2.length) (ws := [.int t1, .int t2, .int 11]) (i := t3 / 3) (by simp [seqW, g4]) (by omega) (by simp; omega)
  obtain ⟨k, rfl, k1, k2⟩ : ∃ k : Int, w = .int k ∧ 0 ≤ k ∧ k ≤ 11 := by
    simp only [List.mem_cons, List.not_mem_nil, or_false] at wm
    rcases wm with rfl | rfl | rfl
    · exact ⟨_, rfl, by omega, by omega⟩
    · exact ⟨_, rfl, by omega, by omega⟩
    · exact ⟨_, rfl, by decide, by decide⟩
  have hr := kR1_ok (st := s4) (j := k) (Int.le_trans (by decide) k1) (Int.lt_of_le_of_lt k2 (by decide))
  have q4 : s4[q]? = some (.lst (xs.map tW)) := by
    rw [K4.keep _ (Ne.symm hpq), hs3]
    refine get_app _ ?_
    rw [K2.keep _ (Ne.symm hpq), K1.keep _ (Ne.symm hpq)]; exact hq
  obtain ⟨acc, s5, e5, hn5, P5, X5, l, rfl, hl⟩ := kLc_ok (env := [some (.loc p), some (.loc q), some (.int k), none, none]) (i := 4) (e := (dOp ixW (dVar 1) (dCall 2 d__law_take (dCons (dVar 0) (dCons (dApp lenW (dCons (dVar 1) dNil)) dNil))))) (st := s4) (ws := intsW 0 k.toNat)
    (fun i acc S => PotA p (n + 3 + i) S ∧ Kp p s4 S ∧ ∃ l : List (List Nat), acc = l.map tW ∧ ∀ x ∈ l, PL x) (fun i w acc S hw hJ => by
      obtain ⟨hP, hX, l, rfl, hl⟩ := hJ
      have hi : i < k.toNat := by rw [← ints_len]; exact (List.getElem?_eq_some_iff.mp hw).1
      have qS : S[q]? = some (.lst (xs.map tW)) := by rw [hX.keep _ (Ne.symm hpq)]; exact q4
      have ln := lenL qS
      rw [List.length_map] at ln
      obtain ⟨t, s', e, t0, t1, P, Kq⟩ := take_ok (m := (xs.length : Int)) hP (by omega) (by omega) (by omega)
      obtain ⟨j, rfl⟩ : ∃ j : Nat, t = (j : Int) := ⟨t.toNat, by omega⟩
      have hj : j < xs.length := by omega
      have q' : s'[q]? = some (.lst (xs.map tW)) := by rw [Kq.keep _ (Ne.symm hpq)]; exact qS
      have ix := ix_tW q' hj
      have hxj : PL (xs.getD j []) := by
        rw [List.getD_eq_getElem?_getD, List.getElem?_eq_getElem hj]; exact hpl _ (List.getElem_mem _)
      refine ⟨tW (xs.getD j []), s', ?_, P, hX.trans Kq, l ++ [xs.getD j []], by simp, fun z hz => by
        rcases List.mem_append.mp hz with h | h
        · exact hl z h
        · rw [List.mem_singleton.mp h]; exact hxj⟩
      generalize xs.getD j [] = y at *
      generalize (j : Int) = J at *
      generalize (xs.length : Int) = XL at *
      simp -implicitDefEqProofs only [dOp_ap, dVar_ap, dCall_ap, dCons_ap, dApp_ap, dNil_ap, List.set_cons_succ, List.set_cons_zero, List.getElem?_cons_zero, List.getElem?_cons_succ, Res.bind_ok, kOp1_ap, kCons1_ap, kCons2_ap, ln, kCall_2, e, ix]) (by rw [ints_len]; exact line8 (by omega)) ⟨P4, .refl, [], rfl, by simp⟩
  rw [ints_len] at hn5 P5
  have hll : l.length ≤ 11 := by have : l.length = k.toNat := by simpa using hn5
                                 omega
  obtain ⟨s6, hs6⟩ : ∃ s6, s6 = s5 ++ [Ob.lst (l.map tW)] := ⟨_, rfl⟩
  rw [← hs6] at e5
  have P6 : PotA p (n + 15) s6 := by rw [hs6]; exact (P5.mono (by omega)).app _
  have X6 : Ext p S s6 := by
    rw [hs6]
    refine (Ext.trans ?_ X5.ext).trans (.app _)
    refine Ext.trans ?_ K4.ext
    rw [hs3]
    exact (K1.ext.trans K2.ext).trans (.app _)
  have hp5 : p ≠ s5.length := by have := P5.lt; omega
  have hS1 : nS1 [some (.loc p), some (.loc q), none, none, none] S = .go .nx [some (.loc p), some (.loc q), some (.int k), none, none] s4 := by
    unfold nS1
    simp -implicitDefEqProofs only [sAsg_ap, dOp_ap, dLst_ap, dCons_ap, dNil_ap, dCall_ap, dVar_ap, dC_ap, List.getElem?_cons_zero, List.getElem?_cons_succ, Res.bind_ok, kCons1_ap, kCons2_ap, kCall_2, e1, e2, k0, kOp1_ap, e4, fd, ix, Res.then_ok, kAsg_n, List.set_cons_succ, List.set_cons_zero]
  have hS2 : nS2 [some (.loc p), some (.loc q), some (.int k), none, none] s4 = .go .nx [some (.loc p), some (.loc q), some (.int k), some (.loc s5.length), none] s6 := by
    unfold nS2
    simp -implicitDefEqProofs only [sAsg_ap, dLc_ap, dRange1_ap, dCons_ap, dVar_ap, dNil_ap, List.getElem?_cons_zero, List.getElem?_cons_succ, Res.bind_ok, kCons1_ap, kCons2_ap, hr, wipeW, List.set_cons_succ, List.set_cons_zero]
    rw [e5]
    simp -implicitDefEqProofs only [Res.then_ok, kAsg_n, List.set_cons_succ, List.set_cons_zero]
  obtain ⟨t7, s7, e7, a7, b7, P7, K7⟩ := take_ok (m := 5) P6 (by omega) (by decide) (by decide)
  have g7 : s7[s5.length]? = some (.lst (l.map tW)) := by rw [K7.keep _ (Ne.symm hp5), hs6]; simp
  have fin : ∀ (l' : Nm) (F : Nat) (T : Store), NOk l' → nS3 [some (.loc p), some (.loc q), some (.int k), some (.loc s5.length), none] s6 = .go .nx [some (.loc p), some (.loc q), some (.int k), some (.loc F), none] T → T[F]? = some (.lst (l'.map tW)) → PotA p (n + 20) T → Ext p S T →
      ∃ (l : Nm) (S' : Store), d__law_name [.loc p, .loc q] S = .ok (tN l) S' ∧ NOk l ∧ PotA p (n + 20) S' ∧ Kp p S S' := fun l' F T hN hS3 hF PT XT => by
    obtain ⟨G1, G2, G3⟩ := gc_pot XT PT hlt (tN_cl hN.s)
    refine ⟨l', T.take S.length, ?_, hN, G3, G2⟩
    have tu : tupleW [.loc F] T = .ok (tN l') T := tupleL hF
    unfold d__law_name; rw [fnDen_ap, nm_eq]
    simp -implicitDefEqProofs only [List.map_cons, List.map_nil, List.length_cons, List.length_nil, Nat.reduceAdd, Nat.reduceSub, List.replicate_succ, List.replicate_zero, List.cons_append, List.nil_append]
    rw [seq_go hS1 rfl, seq_go hS2 rfl, seq_go hS3 rfl]
    simp -implicitDefEqProofs only [sRet_ap, dApp_ap, dCons_ap, dNil_ap, dVar_ap, List.getElem?_cons_zero, List.getElem?_cons_succ, Res.bind_ok, kCons1_ap, kCons2_ap, tu, Res.then_ok, kRet_ap, fnR_rt, G1]
  obtain ⟨n1, n2⟩ := pls_nok hll hl
  by_cases z : t7 = 0
  · subst z
    have k1 : kLst [.str "*"] s7 = .ok (.loc s7.length) (s7 ++ [.lst [.str "*"]]) := lst5 (by simp)
    obtain ⟨s8, hs8⟩ : ∃ s8, s8 = s7 ++ [Ob.lst [W.str "*"]] := ⟨_, rfl⟩
    rw [← hs8] at k1
    have ad := addW_l (m := s7.length) (k := s5.length) (xs := [W.str "*"]) (ys := l.map tW) (st := s8) (by rw [hs8]; simp) (by rw [hs8]; exact get_app _ g7) (by simp; omega)
    refine fin ([42] :: l) s8.length (s8 ++ [.lst ([W.str "*"] ++ l.map tW)]) n2 ?_ (by simp; rfl) ?_ ?_
    · unfold nS3
      simp -implicitDefEqProofs only [sIf_ap, dBool_ap, dOp_ap, dCall_ap, dCons_ap, dNil_ap, dVar_ap, dC_ap, List.getElem?_cons_zero, List.getElem?_cons_succ, Res.bind_ok, kCons1_ap, kCons2_ap, kCall_2, e7, kOp1_ap, eqW_int, beq_self_eq_true, kBool_ap, Res.then_ok, kSIf_t, sAsg_ap, dLst_ap, k1, ad, kAsg_n, List.set_cons_succ, List.set_cons_zero]
    · rw [hs8]; exact ((P7.mono (by omega)).app _).app _
    · rw [hs8]; exact ((X6.trans K7.ext).trans (.app _)).trans (.app _)
  · have q0 : (t7 == 0) = false := beq_false_of_ne z
    refine fin l s5.length s7 n1 ?_ g7 (P7.mono (by omega)) (X6.trans K7.ext)
    unfold nS3
    simp -implicitDefEqProofs only [sIf_ap, dBool_ap, dOp_ap, dCall_ap, dCons_ap, dNil_ap, dVar_ap, dC_ap, List.getElem?_cons_zero, List.getElem?_cons_succ, Res.bind_ok, kCons1_ap, kCons2_ap, kCall_2, e7, kOp1_ap, eqW_int, q0, kBool_ap, Res.then_ok, kSIf_f, sNil_ap]
end
end
end K02
namespace K02
open PySem PySem.Spec PyProof.Rows L2 MP
open Classical
noncomputable section
def kCallP (n : Nat) (ix : List Nat) (den : List W → Store → Res W) (l : List W) (st : Store) : Res W := if l.length = n ∧ (permL ix l).length = n then den (permL ix l) st else .stuck
theorem dCallP_ap {n : Nat} {ix : List Nat} {den : List W → Store → Res W} {m : D (List W)} {env : EnvW} {st : Store} : dCallP n ix den m env st = (m env st).bind (kCallP n ix den) := rfl
theorem kCallP_10 {den : List W → Store → Res W} {a b : W} {st : Store} : kCallP 2 [1, 0] den [a, b] st = den [b, a] st := by simp [kCallP, permL]
def LR1 : DS := (sAsg (dLc (dRange1 (dCons (dOp ixW (dLst (dCons (dCall 2 d__law_take (dCons (dVar 0) (dCons (dC (.int 9)) dNil))) (dCons (dC (.int 39)) dNil))) (dOp fdivW (dCall 2 d__law_take (dCons (dVar 0) (dCons (dC (.int 8)) dNil))) (dC (.int 7)))) dNil)) [10] (tName 10) dYes (dCall 2 d__law_name (dCons (dVar 0) (dCons (dVar 1) dNil)))) (tName 2))
def LR2c : D Bool := (dBool (dOp neW (dVar 2) (dLst dNil)))
def LR2a : DS := (sAsg (dOp addW (dVar 2) (dOp mulW (dLst (dCons (dOp ixW (dVar 2) (dCall 2 d__law_take (dCons (dVar 0) (dCons (dApp lenW (dCons (dVar 2) dNil)) dNil)))) dNil)) (dCall 2 d__law_take (dCons (dVar 0) (dCons (dC (.int 2)) dNil))))) (tName 2))
def LR2 : DS := sIf LR2c LR2a sNil
def LR3 : DS := (sAsg (dApp listAW (dCons (dVar 2) dNil)) (tName 3))
def LR4 : DS := (sAsg (dCall 1 d__law_order (dCons (dVar 2) dNil)) (tName 4))
def LR5 : DS := (sAsg (dCall 2 d__law_name (dCons (dVar 0) (dCons (dVar 1) dNil))) (tName 5))
def LR6c : D Bool := (dAnd (dBool (dOp neW (dVar 2) (dLst dNil))) (dBool (dOp eqW (dCall 2 d__law_take (dCons (dVar 0) (dCons (dC (.int 2)) dNil))) (dC (.int 0)))))
def LR6a : DS := (sAsg (dOp ixW (dVar 2) (dCall 2 d__law_take (dCons (dVar 0) (dCons (dApp lenW (dCons (dVar 2) dNil)) dNil)))) (tName 5))
def LR6 : DS := sIf LR6c LR6a sNil
def LR7 : DS := (sAsg (dLc (dIt (dVar 4)) [11] (tName 11) (dOr (dBool (dOp eqW (dVar 11) (dVar 5))) (dBool (dCall 2 d__law_ahead (dCons (dVar 11) (dCons (dVar 5) dNil))))) (dVar 11)) (tName 6))
def LR8 : DS := (sAsg (dLc (dIt (dVar 4)) [11] (tName 11) (dBool (dCall 2 d__law_ahead (dCons (dVar 5) (dCons (dVar 11) dNil)))) (dVar 11)) (tName 7))
def LR9 : DS := (sAsg (dTup (dCons (dOp ixW (dOp addW (dSl (dVar 6) (dPart (dUn negW (dC (.int 1)))) dNoPart) (dLst (dCons (dC .non) dNil))) (dC (.int 0))) (dCons (dOp ixW (dOp addW (dVar 7) (dLst (dCons (dC .non) dNil))) (dC (.int 0))) dNil))) (tName 8))
def LR10c : D Bool := (dOr (dNot (dBool (dCall 2 (d__law_same 8) (dCons (dCall 1 d_ordered (dCons (dVar 3) dNil)) (dCons (dVar 4) dNil))))) (dNot (dBool (dCall 2 (d__law_same 8) (dCons (dCall 2 d_neighbours (dCons (dVar 3) (dCons (dVar 5) dNil))) (dCons (dVar 8) dNil))))))
def LR10a : DS := (sRet (dC (.bl false)))
def LR10 : DS := sIf LR10c LR10a sNil
def LR11c : D Bool := (dNot (dBool (dCall 2 (d__law_same 8) (dCons (dCall 1 d_first (dCons (dVar 3) dNil)) (dCons (dCall 1 d__law_first (dCons (dVar 2) dNil)) dNil)))))
def LR11a : DS := (sRet (dC (.bl false)))
def LR11 : DS := sIf LR11c LR11a sNil
def LR12 : DS := (sAsg (dCall 1 d_ordered (dCons (dVar 3) dNil)) (tName 9))
def LR13 : DS := (sExpr (dBm tyL appendW (dVar 9) (dCons (dTup dNil) dNil)))
def LR14c : D Bool := (dOr (dNot (dBool (dCall 2 (d__law_same 8) (dCons (dCallP 2 [1, 0] d_neighbours (dCons (dVar 5) (dCons (dVar 3) dNil))) (dCons (dVar 8) dNil))))) (dNot (dBool (dCall 2 (d__law_same 8) (dCons (dCall 1 d_first (dCons (dVar 3) dNil)) (dCons (dCall 1 d__law_first (dCons (dVar 2) dNil)) dNil))))))
def LR14a : DS := (sRet (dC (.bl false)))
def LR14 : DS := sIf LR14c LR14a sNil
def LR15 : DS := (sRet (dAndV (dOp eqW (dVar 3) (dVar 2)) (dCall 2 (d__law_same 8) (dCons (dCall 1 d_ordered (dCons (dVar 3) dNil)) (dCons (dVar 4) dNil)))))
theorem LR_eq : b__law_lists_right = (sSeq LR1 (sSeq LR2 (sSeq LR3 (sSeq LR4 (sSeq LR5 (sSeq LR6 (sSeq LR7 (sSeq LR8 (sSeq LR9 (sSeq LR10 (sSeq LR11 (sSeq LR12 (sSeq LR13 (sSeq LR14 LR15)))))))))))))) := rfl

theorem sameL {T : Store} {a b : Nat} {K : List Nm} (ha : T[a]? = some (.lst (K.map tN))) (hb : T[b]? = some (.lst (K.map tN))) (hl : K.length ≤ 8192) (hs : ∀ l ∈ K, SOk l) : d__law_same 8 [.loc a, .loc b] T = .ok (.bl true) T := same_pic (picL ha hl hs) (picL hb hl hs) (by decide)
theorem sameP {T : Store} {w : W} (h : MP.pu w) : d__law_same 8 [w, w] T = .ok (.bl true) T := same_pic (.pu _ h) (.pu _ h) (by decide)
theorem cut_last (ws : List W) : cutW ws (some (-1)) none = ws.drop (ws.length - 1) := by
  unfold cutW
  have e1 : HT.sIx ws.length 0 (some (-1)) = ws.length - 1 := by
    show (if (-1 : Int) < 0 then ((-1 : Int) + (ws.length : Int)).toNat else min ((-1 : Int).toNat) ws.length) = _
    rw [if_pos (by decide)]; omega
  have e2 : HT.sIx ws.length ws.length none = ws.length := rfl
  rw [e1, e2]
  exact List.take_of_length_le (by rw [List.length_drop]; omega)
theorem last_or (A : List Nm) : ((A.map tN).drop ((A.map tN).length - 1) ++ [W.non])[0]? = some (optN A.getLast?) := by
  cases h : A.getLast? with
  | none =>
    have : A = [] := by simpa using h
    subst this; rfl
  | some b =>
    obtain ⟨r, rfl⟩ : ∃ r, A = r ++ [b] := by
      have := List.getLast?_eq_some_iff.mp h
      obtain ⟨r, e⟩ := this
      exact ⟨r, e⟩
    rw [List.length_map, List.map_append, List.length_append]
    simp [optN]
theorem head_or (B : List Nm) : ((B.map tN) ++ [W.non])[0]? = some (optN B.head?) := by cases B <;> rfl
theorem ahead_filter (x : Nm) (S : List Nm) : (S.filter fun o => decide (o = x) || ltN o x) = aheadF x S := by
  unfold aheadF
  refine List.filter_congr fun o _ => ?_
  by_cases q : o = x
  · subst q; rw [ltN_irrefl]; simp
  · rw [decide_eq_false q, ltN_turn q]; simp
section
variable {p q F Hd R : Nat} {T : Store} {L : List Nm} {x : Nm} {c10 c11 : Option W}
theorem partB (hF : T[F]? = some (.lst (L.map tN))) (hH : T[Hd]? = some (.lst (L.map tN))) (hR : T[R]? = some (.lst ((ordN L).map tN))) (hl : L.length ≤ 60) (hs : ∀ l ∈ L, NOk l) (hx : NOk x) :
    ∃ env' g, (sSeq LR7 (sSeq LR8 (sSeq LR9 (sSeq LR10 (sSeq LR11 (sSeq LR12 (sSeq LR13 (sSeq LR14 LR15)))))))) [some (.loc p), some (.loc q), some (.loc F), some (.loc Hd), some (.loc R), some (tN x), none, none, none, none, none, none] T = .go (.rt (.bl true)) env' (T ++ g) := by
  have hS : ∀ l ∈ L, SOk l := fun l h => (hs l h).s
  have so : ∀ l ∈ ordN L, SOk l := fun l hl => hS l (ordN_mem.mp hl)
  have hol : (ordN L).length ≤ 60 := by
    have : ∀ (l acc : List Nm), (l.foldl insN acc).length ≤ acc.length + l.length := fun l => by
      induction l with
      | nil => intro acc; simp
      | cons a l ih =>
        intro acc
        have h1 := ih (insN acc a)
        have h2 := insN_len acc a
        rw [List.foldl_cons, List.length_cons]; omega
    have := this L []
    unfold ordN; simp at this; omega
  have fl : ∀ (f : Nm → Bool), ((ordN L).filter f).length ≤ 60 := fun f => Nat.le_trans (List.length_filter_le ..) hol
  -- 7
  have it := itOf_loc hR
  have k7 := kLc_filter (env := [some (.loc p), some (.loc q), some (.loc F), some (.loc Hd), some (.loc R), some (tN x), none, none, none, none, none, none]) (i := 11) (c := (dOr (dBool (dOp eqW (dVar 11) (dVar 5))) (dBool (dCall 2 d__law_ahead (dCons (dVar 11) (dCons (dVar 5) dNil)))))) (e := dVar 11) (st := T) (src := some R) tN tN (fun o => decide (o = x) || ltN o x) (ordN L) (by simpa using hR) (fun b hb => by
    have e1 := (eqN (st := T) (so b hb) hx.s).1
    have e2 := ahead_ok (st := T) (so b hb) hx.s
    refine ⟨?_, fun _ => rfl⟩
    generalize tN x = X at *
    generalize tN b = B at *
    cases h : decide (b = x) with
    | true =>
      rw [h] at e1
      simp -implicitDefEqProofs only [dOr_ap, dBool_ap, dOp_ap, dVar_ap, List.set_cons_succ, List.set_cons_zero, List.getElem?_cons_zero, List.getElem?_cons_succ, Res.bind_ok, kOp1_ap, e1, kBool_ap, kOr_t, Bool.true_or]
    | false =>
      rw [h] at e1
      simp -implicitDefEqProofs only [dOr_ap, dBool_ap, dOp_ap, dCall_ap, dCons_ap, dNil_ap, dVar_ap, List.set_cons_succ, List.set_cons_zero, List.getElem?_cons_zero, List.getElem?_cons_succ, Res.bind_ok, kOp1_ap, e1, kBool_ap, kOr_f, kCons1_ap, kCons2_ap, kCall_2, e2, Bool.false_or]) (Nat.le_trans hol (by decide))
  rw [ahead_filter] at k7
  obtain ⟨T1, hT1⟩ : ∃ T1, T1 = T ++ [Ob.lst ((aheadF x (ordN L)).map tN)] := ⟨_, rfl⟩
  rw [← hT1] at k7
  have R1 : T1[R]? = some (.lst ((ordN L).map tN)) := by rw [hT1]; exact get_app _ hR
  have a1 : T1[T.length]? = some (.lst ((aheadF x (ordN L)).map tN)) := by rw [hT1]; simp
  have h7 : LR7 [some (.loc p), some (.loc q), some (.loc F), some (.loc Hd), some (.loc R), some (tN x), none, none, none, none, none, none] T = .go .nx [some (.loc p), some (.loc q), some (.loc F), some (.loc Hd), some (.loc R), some (tN x), some (.loc T.length), none, none, none, none, none] T1 := by
    unfold LR7
    simp -implicitDefEqProofs only [sAsg_ap, dLc_ap, dIt_ap, dVar_ap, List.getElem?_cons_zero, List.getElem?_cons_succ, Res.bind_ok, it, wipeW, List.set_cons_succ, List.set_cons_zero]
    rw [k7]
    simp -implicitDefEqProofs only [Res.then_ok, kAsg_n, List.set_cons_succ, List.set_cons_zero]
  -- 8
  have it1 := itOf_loc R1
  have k8 := kLc_filter (env := [some (.loc p), some (.loc q), some (.loc F), some (.loc Hd), some (.loc R), some (tN x), some (.loc T.length), none, none, none, none, none]) (i := 11) (c := (dBool (dCall 2 d__law_ahead (dCons (dVar 5) (dCons (dVar 11) dNil))))) (e := dVar 11) (st := T1) (src := some R) tN tN (fun o => ltN x o) (ordN L) (by simpa using R1) (fun b hb => by
    have e2 := ahead_ok (st := T1) hx.s (so b hb)
    refine ⟨?_, fun _ => rfl⟩
    generalize tN x = X at *
    generalize tN b = B at *
    simp -implicitDefEqProofs only [dBool_ap, dCall_ap, dCons_ap, dNil_ap, dVar_ap, List.set_cons_succ, List.set_cons_zero, List.getElem?_cons_zero, List.getElem?_cons_succ, Res.bind_ok, kBool_ap, kCons1_ap, kCons2_ap, kCall_2, e2]) (Nat.le_trans hol (by decide))
  have ebf : ((ordN L).filter fun o => ltN x o) = behindF x (ordN L) := rfl
  rw [ebf] at k8
  obtain ⟨T2, hT2⟩ : ∃ T2, T2 = T1 ++ [Ob.lst ((behindF x (ordN L)).map tN)] := ⟨_, rfl⟩
  rw [← hT2] at k8
  have a2 : T2[T.length]? = some (.lst ((aheadF x (ordN L)).map tN)) := by rw [hT2]; exact get_app _ a1
  have b2 : T2[T1.length]? = some (.lst ((behindF x (ordN L)).map tN)) := by rw [hT2]; simp
  have h8 : LR8 [some (.loc p), some (.loc q), some (.loc F), some (.loc Hd), some (.loc R), some (tN x), some (.loc T.length), none, none, none, none, none] T1 = .go .nx [some (.loc p), some (.loc q), some (.loc F), some (.loc Hd), some (.loc R), some (tN x), some (.loc T.length), some (.loc T1.length), none, none, none, none] T2 := by
    unfold LR8
    simp -implicitDefEqProofs only [sAsg_ap, dLc_ap, dIt_ap, dVar_ap, List.getElem?_cons_zero, List.getElem?_cons_succ, Res.bind_ok, it1, wipeW, List.set_cons_succ, List.set_cons_zero]
    rw [k8]
    simp -implicitDefEqProofs only [Res.then_ok, kAsg_n, List.set_cons_succ, List.set_cons_zero]
  -- 9
  have sl : slW (.loc T.length) (some (-1)) none T2 = .ok (.loc T2.length) (T2 ++ [.lst (((aheadF x (ordN L)).map tN).drop (((aheadF x (ordN L)).map tN).length - 1))]) := by
    unfold slW lstW
    simp only [a2]
    rw [cut_last]
  obtain ⟨T3, hT3⟩ : ∃ T3, T3 = T2 ++ [Ob.lst (((aheadF x (ordN L)).map tN).drop (((aheadF x (ordN L)).map tN).length - 1))] := ⟨_, rfl⟩
  rw [← hT3] at sl
  have n3 : kLst [.non] T3 = .ok (.loc T3.length) (T3 ++ [.lst [.non]]) := lst5 (by simp)
  obtain ⟨T4, hT4⟩ : ∃ T4, T4 = T3 ++ [Ob.lst [W.non]] := ⟨_, rfl⟩
  rw [← hT4] at n3
  have ad4 := addW_l (m := T2.length) (k := T3.length) (xs := ((aheadF x (ordN L)).map tN).drop (((aheadF x (ordN L)).map tN).length - 1)) (ys := [W.non]) (st := T4) (by rw [hT4]; exact get_app _ (by rw [hT3]; simp)) (by rw [hT4]; simp) (by
    have := fl fun o => !ltN x o
    unfold aheadF
    rw [List.length_drop, List.length_map]; simp only [List.length_cons, List.length_nil]; omega)
  obtain ⟨T5, hT5⟩ : ∃ T5, T5 = T4 ++ [Ob.lst (((aheadF x (ordN L)).map tN).drop (((aheadF x (ordN L)).map tN).length - 1) ++ [W.non])] := ⟨_, rfl⟩
  rw [← hT5] at ad4
  have ix5 : ixW (.loc T4.length) (.int 0) T5 = .ok (optN (aheadF x (ordN L)).getLast?) T5 := ixL (j := 0) (ws := ((aheadF x (ordN L)).map tN).drop (((aheadF x (ordN L)).map tN).length - 1) ++ [W.non]) (by rw [hT5]; simp) (last_or _)
  have n5 : kLst [.non] T5 = .ok (.loc T5.length) (T5 ++ [.lst [.non]]) := lst5 (by simp)
  obtain ⟨T6, hT6⟩ : ∃ T6, T6 = T5 ++ [Ob.lst [W.non]] := ⟨_, rfl⟩
  rw [← hT6] at n5
  have b6 : T6[T1.length]? = some (.lst ((behindF x (ordN L)).map tN)) := by rw [hT6, hT5, hT4, hT3]; exact get_app _ (get_app _ (get_app _ (get_app _ b2)))
  have ad6 := addW_l (m := T1.length) (k := T5.length) (xs := (behindF x (ordN L)).map tN) (ys := [W.non]) (st := T6) b6 (by rw [hT6]; simp) (by
    have := fl fun o => ltN x o
    unfold behindF
    rw [List.length_map]; simp only [List.length_cons, List.length_nil]; omega)
  obtain ⟨T7, hT7⟩ : ∃ T7, T7 = T6 ++ [Ob.lst ((behindF x (ordN L)).map tN ++ [W.non])] := ⟨_, rfl⟩
  rw [← hT7] at ad6
  have ix7 : ixW (.loc T6.length) (.int 0) T7 = .ok (optN (behindF x (ordN L)).head?) T7 := ixL (j := 0) (ws := (behindF x (ordN L)).map tN ++ [W.non]) (by rw [hT7]; simp) (head_or _)
  have nbk : ∀ st : Store, ∀ q : Nat, st[q]? = some (.lst (L.map tN)) → d_neighbours [.loc q, tN x] st = .ok (.tup [optN (aheadF x (ordN L)).getLast?, optN (behindF x (ordN L)).head?]) st := fun st q h => neighbours_ok h hl hs hx
  have m1 : ∀ l, (aheadF x (ordN L)).getLast? = some l → l ∈ ordN L := fun l h => (List.mem_filter.mp (List.mem_of_getLast? h)).1
  have m2 : ∀ l, (behindF x (ordN L)).head? = some l → l ∈ ordN L := fun l h => (List.mem_filter.mp (List.mem_of_head? h)).1
  have pA := opt_pu so m1
  have pB := opt_pu so m2
  have kt : kTup [optN (aheadF x (ordN L)).getLast?, optN (behindF x (ordN L)).head?] T7 = .ok (.tup [optN (aheadF x (ordN L)).getLast?, optN (behindF x (ordN L)).head?]) T7 := ten (by simp)
  have pD : MP.pu (.tup [optN (aheadF x (ordN L)).getLast?, optN (behindF x (ordN L)).head?]) := by
    have o4 : ∀ {o : Option Nm}, (∀ l, o = some l → l ∈ ordN L) → puB 4 (optN o) = true := fun {o} h => by
      cases o with
      | none => rfl
      | some l => exact sn_pu 4 _ (sn_mono (so l (h l rfl)).sn2 (by decide))
    exact pu_tup (by simp) fun w hw => by
      simp only [List.mem_cons, List.not_mem_nil, or_false] at hw
      rcases hw with rfl | rfl
      · exact o4 m1
      · exact o4 m2
  have h9 : LR9 [some (.loc p), some (.loc q), some (.loc F), some (.loc Hd), some (.loc R), some (tN x), some (.loc T.length), some (.loc T1.length), none, none, none, none] T2 = .go .nx [some (.loc p), some (.loc q), some (.loc F), some (.loc Hd), some (.loc R), some (tN x), some (.loc T.length), some (.loc T1.length), some (.tup [optN (aheadF x (ordN L)).getLast?, optN (behindF x (ordN L)).head?]), none, none, none] T7 := by
    generalize optN (aheadF x (ordN L)).getLast? = A at *
    generalize optN (behindF x (ordN L)).head? = B at *
    unfold LR9
    simp -implicitDefEqProofs only [sAsg_ap, dTup_ap, dCons_ap, dNil_ap, dOp_ap, dSl_ap, dVar_ap, dC_ap, dUn_ap, dPart_ap, dNoPart_ap, dLst_ap, List.getElem?_cons_zero, List.getElem?_cons_succ, Res.bind_ok, kSl1_ap, kSl2_ap, kPart_ap, negW_i, sl, kOp1_ap, kCons1_ap, kCons2_ap, n3, ad4, ix5, n5, ad6, ix7, kt, Res.then_ok, kAsg_n, List.set_cons_succ, List.set_cons_zero]
  have eT7 : ∃ g, T7 = T ++ g := ⟨[Ob.lst ((aheadF x (ordN L)).map tN)] ++ [Ob.lst ((behindF x (ordN L)).map tN)] ++ [Ob.lst (((aheadF x (ordN L)).map tN).drop (((aheadF x (ordN L)).map tN).length - 1))] ++ [Ob.lst [W.non]] ++ [Ob.lst (((aheadF x (ordN L)).map tN).drop (((aheadF x (ordN L)).map tN).length - 1) ++ [W.non])] ++ [Ob.lst [W.non]] ++ [Ob.lst ((behindF x (ordN L)).map tN ++ [W.non])], by rw [hT7, hT6, hT5, hT4, hT3, hT2, hT1]; simp⟩
  obtain ⟨g7, eT7⟩ := eT7
  clear hT7 hT6 hT5 hT4 hT3 ix7 ad6 n5 ix5 ad4 n3 sl kt b6
  have H7 : T7[Hd]? = some (.lst (L.map tN)) := by rw [eT7]; exact get_app _ hH
  have F7 : T7[F]? = some (.lst (L.map tN)) := by rw [eT7]; exact get_app _ hF
  have R7 : T7[R]? = some (.lst ((ordN L).map tN)) := by rw [eT7]; exact get_app _ hR
  generalize hD : W.tup [optN (aheadF x (ordN L)).getLast?, optN (behindF x (ordN L)).head?] = Du at *
  -- 10
  have od7 := ordered_ok H7 hl hs
  obtain ⟨T8, hT8⟩ : ∃ T8, T8 = T7 ++ [Ob.lst ((ordN L).map tN)] := ⟨_, rfl⟩
  rw [← hT8] at od7
  have R8 : T8[R]? = some (.lst ((ordN L).map tN)) := by rw [hT8]; exact get_app _ R7
  have sm8 := sameL (a := T7.length) (b := R) (by rw [hT8]; simp) R8 (by omega) so
  have H8 : T8[Hd]? = some (.lst (L.map tN)) := by rw [hT8]; exact get_app _ H7
  have F8 : T8[F]? = some (.lst (L.map tN)) := by rw [hT8]; exact get_app _ F7
  have nb8 := nbk T8 Hd H8
  have sd8 := sameP (T := T8) pD
  have h10 : LR10 [some (.loc p), some (.loc q), some (.loc F), some (.loc Hd), some (.loc R), some (tN x), some (.loc T.length), some (.loc T1.length), some Du, none, none, none] T7 = .go .nx [some (.loc p), some (.loc q), some (.loc F), some (.loc Hd), some (.loc R), some (tN x), some (.loc T.length), some (.loc T1.length), some Du, none, none, none] T8 := by
    generalize tN x = X at *
    unfold LR10 LR10c
    simp -implicitDefEqProofs only [sIf_ap, dOr_ap, dNot_ap, dBool_ap, dCall_ap, dCons_ap, dNil_ap, dVar_ap, List.getElem?_cons_zero, List.getElem?_cons_succ, Res.bind_ok, kCons1_ap, kCons2_ap, kCall_1, kCall_2, od7, sm8, kBool_ap, kNot_ap, Bool.not_true, kOr_f, nb8, sd8, Res.then_ok, kSIf_f, sNil_ap]
  -- 11
  have firsts : ∀ st : Store, st[Hd]? = some (.lst (L.map tN)) → st[F]? = some (.lst (L.map tN)) → ∃ w, d_first [.loc Hd] st = .ok w st ∧ d__law_first [.loc F] st = .ok w st ∧ MP.pu w := fun st h h' => by
    obtain ⟨o, e1, z1, y1⟩ := first_ok h hs
    obtain ⟨o', e2, z2, y2⟩ := lfirst_ok h' hl hS
    by_cases hL : L = []
    · rw [z1 hL] at e1
      rw [z2 hL] at e2
      exact ⟨_, e1, e2, rfl⟩
    · obtain ⟨b, rfl, hb⟩ := y1 hL
      obtain ⟨b', rfl, hb'⟩ := y2 hL
      have := fst_eq hb hb'
      subst this
      exact ⟨_, e1, e2, (hS b hb.1).pu⟩
  obtain ⟨w8, f8, lf8, pw8⟩ := firsts T8 H8 F8
  have sw8 := sameP (T := T8) pw8
  have h11 : LR11 [some (.loc p), some (.loc q), some (.loc F), some (.loc Hd), some (.loc R), some (tN x), some (.loc T.length), some (.loc T1.length), some Du, none, none, none] T8 = .go .nx [some (.loc p), some (.loc q), some (.loc F), some (.loc Hd), some (.loc R), some (tN x), some (.loc T.length), some (.loc T1.length), some Du, none, none, none] T8 := by
    generalize tN x = X at *
    unfold LR11 LR11c
    simp -implicitDefEqProofs only [sIf_ap, dNot_ap, dBool_ap, dCall_ap, dCons_ap, dNil_ap, dVar_ap, List.getElem?_cons_zero, List.getElem?_cons_succ, Res.bind_ok, kCons1_ap, kCons2_ap, kCall_1, kCall_2, f8, lf8, sw8, kBool_ap, kNot_ap, Bool.not_true, Res.then_ok, kSIf_f, sNil_ap]
  -- 12, 13
  have od8 := ordered_ok H8 hl hs
  obtain ⟨T9, hT9⟩ : ∃ T9, T9 = T8 ++ [Ob.lst ((ordN L).map tN)] := ⟨_, rfl⟩
  rw [← hT9] at od8
  have t9 : T9[T8.length]? = some (.lst ((ordN L).map tN)) := by rw [hT9]; simp
  have h12 : LR12 [some (.loc p), some (.loc q), some (.loc F), some (.loc Hd), some (.loc R), some (tN x), some (.loc T.length), some (.loc T1.length), some Du, none, none, none] T8 = .go .nx [some (.loc p), some (.loc q), some (.loc F), some (.loc Hd), some (.loc R), some (tN x), some (.loc T.length), some (.loc T1.length), some Du, some (.loc T8.length), none, none] T9 := by
    generalize tN x = X at *
    unfold LR12
    simp -implicitDefEqProofs only [sAsg_ap, dCall_ap, dCons_ap, dNil_ap, dVar_ap, List.getElem?_cons_zero, List.getElem?_cons_succ, Res.bind_ok, kCons1_ap, kCons2_ap, kCall_1, od8, Res.then_ok, kAsg_n, List.set_cons_succ, List.set_cons_zero]
  have ap9 := app_nums (w := W.tup []) t9 (by rw [List.length_map]; exact Nat.lt_of_le_of_lt hol (by decide))
  have kb : ∀ r env, kBm tyL appendW r env (.loc T8.length) T9 = (r env T9).bind (appendW (.loc T8.length)) := fun r env => kBm_l appendW t9
  have kt0 : kTup [] T9 = .ok (.tup []) T9 := ten (by simp)
  obtain ⟨TA, hTA⟩ : ∃ TA, TA = T8 ++ [Ob.lst ((ordN L).map tN ++ [W.tup []])] := ⟨_, rfl⟩
  have eTA : T9.set T8.length (.lst ((ordN L).map tN ++ [W.tup []])) = TA := by
    rw [hT9, hTA, List.set_append_right _ _ (Nat.le_refl _), Nat.sub_self]; rfl
  rw [eTA] at ap9
  have h13 : LR13 [some (.loc p), some (.loc q), some (.loc F), some (.loc Hd), some (.loc R), some (tN x), some (.loc T.length), some (.loc T1.length), some Du, some (.loc T8.length), none, none] T9 = .go .nx [some (.loc p), some (.loc q), some (.loc F), some (.loc Hd), some (.loc R), some (tN x), some (.loc T.length), some (.loc T1.length), some Du, some (.loc T8.length), none, none] TA := by
    generalize tN x = X at *
    unfold LR13
    simp -implicitDefEqProofs only [sExpr_ap, dBm_ap, dVar_ap, List.getElem?_cons_zero, List.getElem?_cons_succ, Res.bind_ok, kb, dCons_ap, dTup_ap, dNil_ap, kt0, kCons1_ap, kCons2_ap, ap9, Res.then_ok, kExpr_ap]
  have HA : TA[Hd]? = some (.lst (L.map tN)) := by rw [hTA]; exact get_app _ H8
  have FA : TA[F]? = some (.lst (L.map tN)) := by rw [hTA]; exact get_app _ F8
  have RA : TA[R]? = some (.lst ((ordN L).map tN)) := by rw [hTA]; exact get_app _ R8
  -- 14
  have nbA := nbk TA Hd HA
  have sdA := sameP (T := TA) pD
  obtain ⟨wA, fA', lfA, pwA⟩ := firsts TA HA FA
  have swA := sameP (T := TA) pwA
  have h14 : LR14 [some (.loc p), some (.loc q), some (.loc F), some (.loc Hd), some (.loc R), some (tN x), some (.loc T.length), some (.loc T1.length), some Du, some (.loc T8.length), none, none] TA = .go .nx [some (.loc p), some (.loc q), some (.loc F), some (.loc Hd), some (.loc R), some (tN x), some (.loc T.length), some (.loc T1.length), some Du, some (.loc T8.length), none, none] TA := by
    generalize tN x = X at *
    unfold LR14 LR14c
    simp -implicitDefEqProofs only [sIf_ap, dOr_ap, dNot_ap, dBool_ap, dCall_ap, dCallP_ap, kCallP_10, dCons_ap, dNil_ap, dVar_ap, List.getElem?_cons_zero, List.getElem?_cons_succ, Res.bind_ok, kCons1_ap, kCons2_ap, kCall_1, kCall_2, nbA, sdA, fA', lfA, swA, kBool_ap, kNot_ap, Bool.not_true, kOr_f, Res.then_ok, kSIf_f, sNil_ap]
  -- 15
  have eqA : eqW (.loc Hd) (.loc F) TA = .ok (.bl true) TA := by
    have P1 := picL HA (by omega) hS
    have P2 := picL FA (by omega) hS
    rw [pic_eq P1 P2]
    congr 2
    have := sameL HA FA (by omega) hS
    show (PyData.list ((L.map tN).map d5)).eqv (PyData.list ((L.map tN).map d5)) = true
    rw [List.map_map, show (d5 ∘ tN) = fun l => PyData.tuple (dS l) from funext fun l => d5N, PyData.eqv]
    have : ∀ M : List Nm, PyData.eqvAll (M.map fun l => PyData.tuple (dS l)) (M.map fun l => PyData.tuple (dS l)) = true := fun M => by
      induction M with
      | nil => simp [PyData.eqvAll]
      | cons a M ih => rw [List.map_cons, PySem.W.eqv_all_cons, ih, eqv_N]; simp
    exact this L
  have odA := ordered_ok HA hl hs
  obtain ⟨TB, hTB⟩ : ∃ TB, TB = TA ++ [Ob.lst ((ordN L).map tN)] := ⟨_, rfl⟩
  rw [← hTB] at odA
  have RB : TB[R]? = some (.lst ((ordN L).map tN)) := by rw [hTB]; exact get_app _ RA
  have smB := sameL (a := TA.length) (b := R) (by rw [hTB]; simp) RB (by omega) so
  have h15 : LR15 [some (.loc p), some (.loc q), some (.loc F), some (.loc Hd), some (.loc R), some (tN x), some (.loc T.length), some (.loc T1.length), some Du, some (.loc T8.length), none, none] TA = .go (.rt (.bl true)) [some (.loc p), some (.loc q), some (.loc F), some (.loc Hd), some (.loc R), some (tN x), some (.loc T.length), some (.loc T1.length), some Du, some (.loc T8.length), none, none] TB := by
    generalize tN x = X at *
    unfold LR15
    simp -implicitDefEqProofs only [sRet_ap, dAndV_ap, dOp_ap, dVar_ap, List.getElem?_cons_zero, List.getElem?_cons_succ, Res.bind_ok, kOp1_ap, eqA, kAndV_t, dCall_ap, dCons_ap, dNil_ap, kCons1_ap, kCons2_ap, kCall_1, kCall_2, odA, smB, Res.then_ok, kRet_ap]
  refine ⟨[some (.loc p), some (.loc q), some (.loc F), some (.loc Hd), some (.loc R), some (tN x), some (.loc T.length), some (.loc T1.length), some Du, some (.loc T8.length), none, none], g7 ++ [Ob.lst ((ordN L).map tN)] ++ [Ob.lst ((ordN L).map tN ++ [W.tup []])] ++ [Ob.lst ((ordN L).map tN)], ?_⟩
  have eTB : T ++ (g7 ++ [Ob.lst ((ordN L).map tN)] ++ [Ob.lst ((ordN L).map tN ++ [W.tup []])] ++ [Ob.lst ((ordN L).map tN)]) = TB := by
    rw [hTB, hTA, hT8, eT7]; simp
  rw [eTB, seq_go h7 rfl, seq_go h8 rfl, seq_go h9 rfl, seq_go h10 rfl, seq_go h11 rfl, seq_go h12 rfl, seq_go h13 rfl, seq_go h14 rfl]
  exact h15
end
end
end K02
namespace K02
open PySem PySem.Spec PyProof.Rows L2 MP
open Classical
noncomputable section
section
variable {p n q : Nat} {S : Store} {xs : List (List Nat)}
/-- some names in a row -/
theorem row_ok {i : Nat} {env : EnvW} {e : D W} (he : ∀ w T, e (env.set i (some w)) T = d__law_name [.loc p, .loc q] T) (P : PotA p n S) (hq : S[q]? = some (.lst (xs.map tW))) (hpq : p ≠ q) (h1 : 1 ≤ xs.length) (h6 : xs.length ≤ 6) (hpl : ∀ x ∈ xs, PL x) {k : Int} (k1 : 0 ≤ k) (k2 : k ≤ 39) (hn : n + 900 ≤ 1000000) :
    ∃ (L : List Nm) (T : Store), kLc env (tName i) dYes e ⟨intsW 0 k.toNat, none⟩ S = .ok (.loc T.length) (T ++ [.lst (L.map tN)]) ∧ L.length = k.toNat ∧ (∀ l ∈ L, NOk l) ∧ PotA p (n + 800) T ∧ Kp p S T := by
  obtain ⟨acc, T, e, hn5, PT, XT, L, rfl, hL⟩ := kLc_ok (env := env) (i := i) (e := e) (st := S) (ws := intsW 0 k.toNat)
    (fun i acc T => PotA p (n + 20 * i) T ∧ Kp p S T ∧ ∃ L : List Nm, acc = L.map tN ∧ ∀ l ∈ L, NOk l) (fun i w acc T hw hJ => by
      obtain ⟨hP, hX, L, rfl, hL⟩ := hJ
      have hi : i < k.toNat := by rw [← ints_len]; exact (List.getElem?_eq_some_iff.mp hw).1
      have q' : T[q]? = some (.lst (xs.map tW)) := by rw [hX.keep _ (Ne.symm hpq)]; exact hq
      obtain ⟨l, T', e', hN, P', K'⟩ := name_draw hP q' hpq h1 h6 hpl (by omega)
      refine ⟨tN l, T', by rw [he]; exact e', P'.mono (by omega), hX.trans K', L ++ [l], by simp, fun z hz => ?_⟩
      rcases List.mem_append.mp hz with h | h
      · exact hL z h
      · rw [List.mem_singleton.mp h]; exact hN) (by rw [ints_len]; exact line8 (by omega)) ⟨by simpa using P, .refl, [], rfl, by simp⟩
  rw [ints_len] at hn5 PT
  refine ⟨L, T, e, by simpa using hn5, hL, PT.mono (by omega), XT⟩
theorem ext_get {p k : Nat} {A B : Store} (X : Ext p A B) {o : Ob} (h : A[k]? = some o) (hk : k ≠ p) : B[k]? = some o := X.get h hk
theorem lists_ok (P : PotA p n S) (hq : S[q]? = some (.lst (xs.map tW))) (hpq : p ≠ q) (h1 : 1 ≤ xs.length) (h6 : xs.length ≤ 6) (hpl : ∀ x ∈ xs, PL x) (hn : n + 1000 ≤ 1000000) :
    ∃ S', d__law_lists_right [.loc p, .loc q] S = .ok (.bl true) S' ∧ PotA p (n + 900) S' ∧ Kp p S S' := by
  have hlt := P.lt
  obtain ⟨t1, s1, e1, a1, b1, P1, K1⟩ := take_ok (m := 9) P (by omega) (by decide) (by decide)
  have k0 : kLst [.int t1, .int 39] s1 = .ok (.loc s1.length) (s1 ++ [.lst [.int t1, .int 39]]) := lst5 (by simp)
  obtain ⟨s2, hs2⟩ : ∃ s2, s2 = s1 ++ [Ob.lst [.int t1, .int 39]] := ⟨_, rfl⟩
  rw [← hs2] at k0
  have P2 : PotA p (n + 1) s2 := by rw [hs2]; exact P1.app _
  obtain ⟨t3, s4, e4, a3, b3, P4, K4⟩ := take_ok (m := 8) P2 (by omega) (by decide) (by decide)
  have hp1 : p ≠ s1.length := by have := P1.lt; omega
  have g4 : s4[s1.length]? = some (.lst [.int t1, .int 39]) := by rw [K4.keep _ (Ne.symm hp1), hs2]; simp
  have fd : fdivW (.int t3) (.int 7) s4 = .ok (.int (t3 / 7)) s4 := div_ok (by decide) (by decide)
  obtain ⟨w, wm, _, ix⟩ := ix_mem (st := s4) (a := .loc s1.length) (ws := [.int t1, .int 39]) (i := t3 / 7) (by simp [seqW, g4]) (by omega) (by simp; omega)
  obtain ⟨k, rfl, k1, k2⟩ : ∃ k : Int, w = .int k ∧ 0 ≤ k ∧ k ≤ 39 := by
    simp only [List.mem_cons, List.not_mem_nil, or_false] at wm
    rcases wm with rfl | rfl
    · exact ⟨_, rfl, by omega, by omega⟩
    · exact ⟨_, rfl, by decide, by decide⟩
  have hr := kR1_ok (st := s4) (j := k) (Int.le_trans (by decide) k1) (Int.lt_of_le_of_lt k2 (by decide))
  have X4 : Ext p S s4 := by
    refine Ext.trans ?_ K4.ext
    rw [hs2]; exact K1.ext.trans (.app _)
  have q4 := X4.get hq (Ne.symm hpq)
  obtain ⟨L, s5, e5, hLl, hL, P5, K5⟩ := row_ok (p := p) (q := q) (i := 10) (env := [some (.loc p), some (.loc q), none, none, none, none, none, none, none, none, none, none]) (e := (dCall 2 d__law_name (dCons (dVar 0) (dCons (dVar 1) dNil)))) (fun w T => by
    simp -implicitDefEqProofs only [dCall_ap, dCons_ap, dNil_ap, dVar_ap, List.set_cons_succ, List.set_cons_zero, List.getElem?_cons_zero, List.getElem?_cons_succ, Res.bind_ok, kCons1_ap, kCons2_ap, kCall_2]) P4 q4 hpq h1 h6 hpl k1 k2 (by omega)
  obtain ⟨s6, hs6⟩ : ∃ s6, s6 = s5 ++ [Ob.lst (L.map tN)] := ⟨_, rfl⟩
  rw [← hs6] at e5
  have P6 : PotA p (n + 1 + 1 + 800) s6 := by rw [hs6]; exact P5.app _
  have X6 : Ext p S s6 := by rw [hs6]; exact (X4.trans K5.ext).trans (.app _)
  have hp5 : p ≠ s5.length := by have := P5.lt; omega
  have F6 : s6[s5.length]? = some (.lst (L.map tN)) := by rw [hs6]; simp
  have hL1 : LR1 [some (.loc p), some (.loc q), none, none, none, none, none, none, none, none, none, none] S = .go .nx [some (.loc p), some (.loc q), some (.loc s5.length), none, none, none, none, none, none, none, none, none] s6 := by
    unfold LR1
    simp -implicitDefEqProofs only [sAsg_ap, dLc_ap, dRange1_ap, dOp_ap, dLst_ap, dCons_ap, dNil_ap, dCall_ap, dVar_ap, dC_ap, List.getElem?_cons_zero, List.getElem?_cons_succ, Res.bind_ok, kCons1_ap, kCons2_ap, kCall_2, e1, k0, kOp1_ap, e4, fd, ix, hr, wipeW, List.set_cons_succ, List.set_cons_zero]
    rw [e5]
    simp -implicitDefEqProofs only [Res.then_ok, kAsg_n, List.set_cons_succ, List.set_cons_zero]
  have hLs : ∀ l ∈ L, SOk l := fun l h => (hL l h).s
  have hL39 : L.length ≤ 39 := by omega
  have hF5 : S.length ≤ s5.length := by
    have := X4.le
    have h2 := K5.len
    omega
  -- 2
  have n2 : ∀ (T : Store) (F : Nat) (M : List Nm), T[F]? = some (.lst (M.map tN)) → M.length ≤ 60 → (∀ l ∈ M, SOk l) → ∀ env : EnvW, env[2]? = some (some (.loc F)) → dBool (dOp neW (dVar 2) (dLst dNil)) env T = .ok (!decide (M = [])) (T ++ [.lst []]) := fun T F M hF hM hs env he => by
    have kn : kLst [] T = .ok (.loc T.length) (T ++ [.lst []]) := lst5 (by simp)
    have ne := (eq_nilL (q := T.length) (get_app [.lst []] hF) (by simp) (by omega) hs).2
    simp -implicitDefEqProofs only [dBool_ap, dOp_ap, dVar_ap, he, dLst_ap, dNil_ap, Res.bind_ok, kn, kOp1_ap, ne, kBool_ap]
  obtain ⟨L', F, s7, hL2, F7, P7, X7, hL40, hL', hFS⟩ : ∃ (L' : List Nm) (F : Nat) (s7 : Store), LR2 [some (.loc p), some (.loc q), some (.loc s5.length), none, none, none, none, none, none, none, none, none] s6 = .go .nx [some (.loc p), some (.loc q), some (.loc F), none, none, none, none, none, none, none, none, none] s7 ∧ s7[F]? = some (.lst (L'.map tN)) ∧ PotA p (n + 810) s7 ∧ Ext p S s7 ∧ L'.length ≤ 40 ∧ (∀ l ∈ L', NOk l) ∧ S.length ≤ F := by
    have c2 := n2 s6 s5.length L F6 (by omega) hLs [some (.loc p), some (.loc q), some (.loc s5.length), none, none, none, none, none, none, none, none, none] rfl
    obtain ⟨u0, hu0⟩ : ∃ u, u = s6 ++ [Ob.lst []] := ⟨_, rfl⟩
    rw [← hu0] at c2
    have Pu : PotA p (n + 1 + 1 + 800) u0 := by rw [hu0]; exact P6.app _
    have Xu : Ext p S u0 := by rw [hu0]; exact X6.trans (.app _)
    have Fu : u0[s5.length]? = some (.lst (L.map tN)) := by rw [hu0]; exact get_app _ F6
    by_cases z : L = []
    · rw [decide_eq_true z] at c2
      refine ⟨L, s5.length, u0, ?_, Fu, Pu.mono (by omega), Xu, by omega, hL, hF5⟩
      unfold LR2 LR2c
      rw [sIf_ap, c2]
      simp -implicitDefEqProofs only [Bool.not_true, Res.then_ok, kSIf_f, sNil_ap]
    · rw [decide_eq_false z] at c2
      have hpos : 0 < L.length := List.length_pos_iff.mpr z
      have ln := lenL Fu
      rw [List.length_map] at ln
      obtain ⟨j, u1, f1, j0, j1, Q1, J1⟩ := take_ok (m := (L.length : Int)) Pu (by omega) (by omega) (by omega)
      obtain ⟨i, rfl⟩ : ∃ i : Nat, j = (i : Int) := ⟨j.toNat, by omega⟩
      have hi : i < L.length := by omega
      have Fu1 : u1[s5.length]? = some (.lst (L.map tN)) := by rw [J1.keep _ (Ne.symm hp5)]; exact Fu
      have ixu : ixW (.loc s5.length) (.int (i : Int)) u1 = .ok (tN L[i]) u1 := ixL Fu1 (by rw [List.getElem?_map, List.getElem?_eq_getElem hi]; rfl)
      have ku : kLst [tN L[i]] u1 = .ok (.loc u1.length) (u1 ++ [.lst [tN L[i]]]) := lst5 (by simp)
      obtain ⟨u2, hu2⟩ : ∃ u, u = u1 ++ [Ob.lst [tN L[i]]] := ⟨_, rfl⟩
      rw [← hu2] at ku
      have Q2 : PotA p (n + 1 + 1 + 800 + 1) u2 := by rw [hu2]; exact Q1.app _
      obtain ⟨r, u3, f3, r0, r1, Q3, J3⟩ := take_ok (m := 2) Q2 (by omega) (by decide) (by decide)
      have hpu : p ≠ u1.length := by have := Q1.lt; omega
      have gu3 : u3[u1.length]? = some (.lst [tN L[i]]) := by rw [J3.keep _ (Ne.symm hpu), hu2]; simp
      have mu := mulW_l (k := r) gu3 r0 (by omega) (by simp)
      obtain ⟨u4, hu4⟩ : ∃ u, u = u3 ++ [Ob.lst (List.replicate r.toNat [tN L[i]]).flatten] := ⟨_, rfl⟩
      rw [← hu4] at mu
      obtain ⟨M, hM, hMl, hMm⟩ : ∃ M : List Nm, (List.replicate r.toNat [tN L[i]]).flatten = M.map tN ∧ M.length ≤ 1 ∧ ∀ l ∈ M, l ∈ L := by
        rcases (show r = 0 ∨ r = 1 by omega) with rfl | rfl
        · exact ⟨[], rfl, by simp, by simp⟩
        · exact ⟨[L[i]], rfl, by simp, fun l hl => by rw [List.mem_singleton.mp hl]; exact List.getElem_mem _⟩
      rw [hM] at hu4
      have F4' : u4[s5.length]? = some (.lst (L.map tN)) := by
        rw [hu4]; refine get_app _ ?_
        rw [J3.keep _ (Ne.symm hp5), hu2]
        exact get_app _ Fu1
      have adu := addW_l F4' (show u4[u3.length]? = some (.lst (M.map tN)) by rw [hu4]; simp) (by simp; omega)
      rw [← List.map_append] at adu
      have Xf : Ext p S u4 := by
        rw [hu4]
        refine Ext.trans ?_ (.app _)
        refine Ext.trans ?_ J3.ext
        rw [hu2]
        exact (Xu.trans J1.ext).trans (.app _)
      refine ⟨L ++ M, u4.length, u4 ++ [.lst ((L ++ M).map tN)], ?_, by simp, ?_, Xf.trans (.app _), by simp; omega, fun l hl => ?_, Xf.le⟩
      · unfold LR2 LR2c
        rw [sIf_ap, c2]
        simp -implicitDefEqProofs only [Bool.not_false, Res.then_ok, kSIf_t]
        unfold LR2a
        generalize tN L[i] = A at *
        generalize (i : Int) = I at *
        generalize (L.length : Int) = LL at *
        simp -implicitDefEqProofs only [sAsg_ap, dOp_ap, dLst_ap, dCons_ap, dNil_ap, dCall_ap, dApp_ap, dVar_ap, dC_ap, List.getElem?_cons_zero, List.getElem?_cons_succ, Res.bind_ok, kCons1_ap, kCons2_ap, ln, kCall_2, f1, kOp1_ap, ixu, ku, f3, mu, adu, Res.then_ok, kAsg_n, List.set_cons_succ, List.set_cons_zero]
      · rw [hu4]; exact ((Q3.mono (by omega)).app _).app _
      · rcases List.mem_append.mp hl with h | h
        · exact hL l h
        · exact hL l (hMm l h)
  have hLs' : ∀ l ∈ L', SOk l := fun l h => (hL' l h).s
  have hpF : p ≠ F := by omega
  -- 3, 4
  have la := listA_loc F7
  obtain ⟨s8, hs8⟩ : ∃ s8, s8 = s7 ++ [Ob.lst (L'.map tN)] := ⟨_, rfl⟩
  rw [← hs8] at la
  have F8 : s8[F]? = some (.lst (L'.map tN)) := by rw [hs8]; exact get_app _ F7
  have H8 : s8[s7.length]? = some (.lst (L'.map tN)) := by rw [hs8]; simp
  have hL3 : LR3 [some (.loc p), some (.loc q), some (.loc F), none, none, none, none, none, none, none, none, none] s7 = .go .nx [some (.loc p), some (.loc q), some (.loc F), some (.loc s7.length), none, none, none, none, none, none, none, none] s8 := by
    unfold LR3
    simp -implicitDefEqProofs only [sAsg_ap, dApp_ap, dCons_ap, dNil_ap, dVar_ap, List.getElem?_cons_zero, List.getElem?_cons_succ, Res.bind_ok, kCons1_ap, kCons2_ap, la, Res.then_ok, kAsg_n, List.set_cons_succ, List.set_cons_zero]
  have od := order_ok F8 (by omega) hLs'
  obtain ⟨s9, hs9⟩ : ∃ s9, s9 = s8 ++ [Ob.lst ((ordN L').map tN)] := ⟨_, rfl⟩
  rw [← hs9] at od
  have F9 : s9[F]? = some (.lst (L'.map tN)) := by rw [hs9]; exact get_app _ F8
  have H9 : s9[s7.length]? = some (.lst (L'.map tN)) := by rw [hs9]; exact get_app _ H8
  have R9 : s9[s8.length]? = some (.lst ((ordN L').map tN)) := by rw [hs9]; simp
  have P9 : PotA p (n + 810) s9 := by rw [hs9, hs8]; exact (P7.app _).app _
  have X9 : Ext p S s9 := by rw [hs9, hs8]; exact (X7.trans (.app _)).trans (.app _)
  have hp7 : p ≠ s7.length := by have := P7.lt; omega
  have hp8 : p ≠ s8.length := by rw [hs8]; have := P7.lt; simp; omega
  have hL4 : LR4 [some (.loc p), some (.loc q), some (.loc F), some (.loc s7.length), none, none, none, none, none, none, none, none] s8 = .go .nx [some (.loc p), some (.loc q), some (.loc F), some (.loc s7.length), some (.loc s8.length), none, none, none, none, none, none, none] s9 := by
    unfold LR4
    simp -implicitDefEqProofs only [sAsg_ap, dCall_ap, dCons_ap, dNil_ap, dVar_ap, List.getElem?_cons_zero, List.getElem?_cons_succ, Res.bind_ok, kCons1_ap, kCons2_ap, kCall_1, od, Res.then_ok, kAsg_n, List.set_cons_succ, List.set_cons_zero]
  -- 5
  have q9 := X9.get hq (Ne.symm hpq)
  obtain ⟨x, sA, eA, hx, PA, KA⟩ := name_draw P9 q9 hpq h1 h6 hpl (by omega)
  have hL5 : LR5 [some (.loc p), some (.loc q), some (.loc F), some (.loc s7.length), some (.loc s8.length), none, none, none, none, none, none, none] s9 = .go .nx [some (.loc p), some (.loc q), some (.loc F), some (.loc s7.length), some (.loc s8.length), some (tN x), none, none, none, none, none, none] sA := by
    generalize tN x = X at *
    unfold LR5
    simp -implicitDefEqProofs only [sAsg_ap, dCall_ap, dCons_ap, dNil_ap, dVar_ap, List.getElem?_cons_zero, List.getElem?_cons_succ, Res.bind_ok, kCons1_ap, kCons2_ap, kCall_2, eA, Res.then_ok, kAsg_n, List.set_cons_succ, List.set_cons_zero]
  have FA : sA[F]? = some (.lst (L'.map tN)) := by rw [KA.keep _ (Ne.symm hpF)]; exact F9
  have HA : sA[s7.length]? = some (.lst (L'.map tN)) := by rw [KA.keep _ (Ne.symm hp7)]; exact H9
  have RA : sA[s8.length]? = some (.lst ((ordN L').map tN)) := by rw [KA.keep _ (Ne.symm hp8)]; exact R9
  have XA : Ext p S sA := X9.trans KA.ext
  -- 6
  obtain ⟨y, sB, hL6, hy, PB, XB, FB, HB, RB⟩ : ∃ (y : Nm) (sB : Store), LR6 [some (.loc p), some (.loc q), some (.loc F), some (.loc s7.length), some (.loc s8.length), some (tN x), none, none, none, none, none, none] sA = .go .nx [some (.loc p), some (.loc q), some (.loc F), some (.loc s7.length), some (.loc s8.length), some (tN y), none, none, none, none, none, none] sB ∧ NOk y ∧ PotA p (n + 850) sB ∧ Ext p S sB ∧ sB[F]? = some (.lst (L'.map tN)) ∧ sB[s7.length]? = some (.lst (L'.map tN)) ∧ sB[s8.length]? = some (.lst ((ordN L').map tN)) := by
    have c2 := n2 sA F L' FA (by omega) hLs' [some (.loc p), some (.loc q), some (.loc F), some (.loc s7.length), some (.loc s8.length), some (tN x), none, none, none, none, none, none] rfl
    obtain ⟨u0, hu0⟩ : ∃ u, u = sA ++ [Ob.lst []] := ⟨_, rfl⟩
    rw [← hu0] at c2
    have Pu : PotA p (n + 810 + 20) u0 := by rw [hu0]; exact PA.app _
    have Xu : Ext p S u0 := by rw [hu0]; exact XA.trans (.app _)
    have Xu' : Ext p sA u0 := by rw [hu0]; exact .app _
    by_cases z : L' = []
    · rw [decide_eq_true z] at c2
      refine ⟨x, u0, ?_, hx, Pu.mono (by omega), Xu, Xu'.get FA (Ne.symm hpF), Xu'.get HA (Ne.symm hp7), Xu'.get RA (Ne.symm hp8)⟩
      unfold LR6 LR6c
      rw [sIf_ap, dAnd_ap, c2]
      simp -implicitDefEqProofs only [Bool.not_true, Res.bind_ok, kAnd_f, Res.then_ok, kSIf_f, sNil_ap]
    · rw [decide_eq_false z] at c2
      have hpos : 0 < L'.length := List.length_pos_iff.mpr z
      obtain ⟨r, u1, f1, r0, r1, Q1, J1⟩ := take_ok (m := 2) Pu (by omega) (by decide) (by decide)
      have X1 : Ext p sA u1 := Xu'.trans J1.ext
      by_cases zr : r = 0
      · subst zr
        have F1 := X1.get FA (Ne.symm hpF)
        have ln := lenL F1
        rw [List.length_map] at ln
        obtain ⟨j, u2, f2, j0, j1, Q2, J2⟩ := take_ok (m := (L'.length : Int)) Q1 (by omega) (by omega) (by omega)
        obtain ⟨i, rfl⟩ : ∃ i : Nat, j = (i : Int) := ⟨j.toNat, by omega⟩
        have hi : i < L'.length := by omega
        have X2 : Ext p sA u2 := X1.trans J2.ext
        have ixu : ixW (.loc F) (.int (i : Int)) u2 = .ok (tN L'[i]) u2 := ixL (X2.get FA (Ne.symm hpF)) (by rw [List.getElem?_map, List.getElem?_eq_getElem hi]; rfl)
        refine ⟨L'[i], u2, ?_, hL' _ (List.getElem_mem _), Q2.mono (by omega), XA.trans X2, X2.get FA (Ne.symm hpF), X2.get HA (Ne.symm hp7), X2.get RA (Ne.symm hp8)⟩
        unfold LR6 LR6c
        rw [sIf_ap, dAnd_ap, c2]
        generalize tN L'[i] = A at *
        generalize (i : Int) = I at *
        generalize (L'.length : Int) = LL at *
        generalize tN x = X at *
        unfold LR6a
        simp -implicitDefEqProofs only [Bool.not_false, Res.bind_ok, kAnd_t, dBool_ap, dOp_ap, dCall_ap, dCons_ap, dNil_ap, dVar_ap, dC_ap, dApp_ap, List.getElem?_cons_zero, List.getElem?_cons_succ, kCons1_ap, kCons2_ap, kCall_2, f1, kOp1_ap, eqW_int, beq_self_eq_true, kBool_ap, Res.then_ok, kSIf_t, sAsg_ap, ln, f2, ixu, kAsg_n, List.set_cons_succ, List.set_cons_zero]
      · have q0 : (r == 0) = false := beq_false_of_ne zr
        refine ⟨x, u1, ?_, hx, Q1.mono (by omega), XA.trans X1, X1.get FA (Ne.symm hpF), X1.get HA (Ne.symm hp7), X1.get RA (Ne.symm hp8)⟩
        unfold LR6 LR6c
        rw [sIf_ap, dAnd_ap, c2]
        generalize tN x = X at *
        simp -implicitDefEqProofs only [Bool.not_false, Res.bind_ok, kAnd_t, dBool_ap, dOp_ap, dCall_ap, dCons_ap, dNil_ap, dVar_ap, dC_ap, List.getElem?_cons_zero, List.getElem?_cons_succ, kCons1_ap, kCons2_ap, kCall_2, f1, kOp1_ap, eqW_int, q0, kBool_ap, Res.then_ok, kSIf_f, sNil_ap]
  obtain ⟨env', g, eB⟩ := partB (p := p) (q := q) FB HB RB (by omega) hL' hy
  have G := gc_pot (v := .bl true) (XB.trans (.app g)) (PB.app g) hlt rfl
  refine ⟨_, ?_, G.2.2.mono (by omega), G.2.1⟩
  unfold d__law_lists_right; rw [fnDen_ap, LR_eq]
  simp -implicitDefEqProofs only [List.map_cons, List.map_nil, List.length_cons, List.length_nil, Nat.reduceAdd, Nat.reduceSub, List.replicate_succ, List.replicate_zero, List.cons_append, List.nil_append]
  rw [seq_go hL1 rfl, seq_go hL2 rfl, seq_go hL3 rfl, seq_go hL4 rfl, seq_go hL5 rfl, seq_go hL6 rfl, eB, fnR_rt]
  exact G.1
end
end
end K02
namespace K02
open PySem PySem.Spec PyProof.Rows L2 MP
open Classical
noncomputable section
/-! ### what two names share -/
def cp : Nm → Nm → Nat
  | a :: l, b :: m => if a = b then cp l m + 1 else 0
  | _, _ => 0
theorem cp_le : ∀ l m : Nm, cp l m ≤ l.length ∧ cp l m ≤ m.length
  | [], m => ⟨Nat.zero_le _, Nat.zero_le _⟩
  | _ :: _, [] => ⟨Nat.zero_le _, Nat.zero_le _⟩
  | a :: l, b :: m => by
    have h := cp_le l m
    show (if a = b then cp l m + 1 else 0) ≤ l.length + 1 ∧ (if a = b then cp l m + 1 else 0) ≤ m.length + 1
    split
    · omega
    · omega
theorem cp_comm : ∀ l m : Nm, cp l m = cp m l
  | [], [] => rfl
  | [], _ :: _ => rfl
  | _ :: _, [] => rfl
  | a :: l, b :: m => by
    show (if a = b then cp l m + 1 else 0) = if b = a then cp m l + 1 else 0
    by_cases q : a = b
    · rw [if_pos q, if_pos q.symm, cp_comm l m]
    · rw [if_neg q, if_neg (Ne.symm q)]
theorem cp_pre : ∀ (l m : Nm) (j : Nat), j ≤ l.length → ((j ≤ m.length ∧ m.take j = l.take j) ↔ j ≤ cp l m)
  | l, m, 0, _ => by simp
  | [], m, j + 1, h => by simp at h
  | a :: l, [], j + 1, h => by simp [cp]
  | a :: l, b :: m, j + 1, h => by
    have ih := cp_pre l m j (by simpa using h)
    show (j + 1 ≤ m.length + 1 ∧ b :: m.take j = a :: l.take j) ↔ j + 1 ≤ if a = b then cp l m + 1 else 0
    by_cases q : a = b
    · subst q
      rw [if_pos rfl]
      constructor
      · rintro ⟨h1, h2⟩
        have := ih.mp ⟨by omega, by simpa using h2⟩
        omega
      · intro h1
        obtain ⟨h2, h3⟩ := ih.mpr (by omega)
        exact ⟨by omega, by rw [h3]⟩
    · rw [if_neg q]
      constructor
      · rintro ⟨_, h2⟩
        simp only [List.cons.injEq] at h2
        exact absurd h2.1.symm q
      · intro h1; omega
theorem cp_at : ∀ (l m : Nm) (i : Nat), i ≤ cp l m → ∀ a b, l[i]? = some a → m[i]? = some b → (a = b ↔ i < cp l m)
  | [], _, _, _, _, _, h, _ => by simp at h
  | _ :: _, [], _, _, _, _, _, h => by simp at h
  | x :: l, y :: m, 0, hi, a, b, ha, hb => by
    simp at ha hb
    subst ha hb
    show x = y ↔ 0 < if x = y then cp l m + 1 else 0
    by_cases q : x = y
    · rw [if_pos q]; simp [q]
    · rw [if_neg q]; simp [q]
  | x :: l, y :: m, i + 1, hi, a, b, ha, hb => by
    have hi' : i + 1 ≤ if x = y then cp l m + 1 else 0 := hi
    by_cases q : x = y
    · rw [if_pos q] at hi'
      have ih := cp_at l m i (by omega) a b (by simpa using ha) (by simpa using hb)
      show a = b ↔ i + 1 < if x = y then cp l m + 1 else 0
      rw [if_pos q, ih]
      omega
    · rw [if_neg q] at hi'; omega
/-- how many labels two names share at their ends -/
def al (l m : Nm) : Nat := cp l.reverse m.reverse
theorem al_le (l m : Nm) : al l m ≤ l.length ∧ al l m ≤ m.length := by
  have := cp_le l.reverse m.reverse
  rw [List.length_reverse, List.length_reverse] at this
  exact this
theorem al_comm (l m : Nm) : al l m = al m l := cp_comm _ _
theorem sfx_al {l m : Nm} {i : Nat} (hi : i ≤ l.length) : sfx m (l.drop i) = decide (l.length - i ≤ al l m) := by
  have h := cp_pre l.reverse m.reverse (l.length - i) (by rw [List.length_reverse]; omega)
  have e1 : l.reverse.take (l.length - i) = (l.drop i).reverse := by
    rw [List.take_reverse, show l.length - (l.length - i) = i by omega]
  have e2 : m.reverse.take (l.length - i) = (m.drop (m.length - (l.length - i))).reverse := List.take_reverse
  rw [e1, e2, List.length_reverse] at h
  unfold sfx
  rw [List.length_drop, Bool.eq_iff_iff, Bool.and_eq_true, decide_eq_true_iff, decide_eq_true_iff, decide_eq_true_iff]
  constructor
  · rintro ⟨h1, h2⟩
    exact h.mp ⟨h1, by rw [h2]⟩
  · intro h1
    obtain ⟨h2, h3⟩ := h.mpr h1
    exact ⟨h2, by simpa using congrArg List.reverse h3⟩
theorem sfx_all {l m : Nm} : sfx l m = decide (al l m = m.length) := by
  have := sfx_al (l := m) (m := l) (i := 0) (Nat.zero_le _)
  rw [List.drop_zero, Nat.sub_zero, al_comm] at this
  rw [this]
  have h := (al_le l m).2
  congr 1
  rw [eq_iff_iff]
  omega
theorem NOk.drop {l : Nm} (h : NOk l) (k : Nat) : NOk (l.drop k) := by
  refine ⟨h.s.drop k, ?_⟩
  cases k with
  | zero => exact h.nm
  | succ k =>
    have h' : (if hdS (l.map tW) = true then (l.map tW).drop 1 else l.map tW).all plS = true := h.nm
    have h1 : ∀ w ∈ (l.map tW).drop 1, plS w = true := fun w hw => by
      split at h'
      · exact List.all_eq_true.mp h' w hw
      · exact List.all_eq_true.mp h' w (List.mem_of_mem_drop hw)
    have h2 : ∀ w ∈ (l.drop (k + 1)).map tW, plS w = true := fun w hw => by
      refine h1 w ?_
      rw [List.map_drop] at hw
      rw [show k + 1 = 1 + k by omega, ← List.drop_drop] at hw
      exact List.mem_of_mem_drop hw
    show (if hdS ((l.drop (k + 1)).map tW) = true then ((l.drop (k + 1)).map tW).drop 1 else (l.drop (k + 1)).map tW).all plS = true
    split
    · exact List.all_eq_true.mpr fun w hw => h2 w (List.mem_of_mem_drop hw)
    · exact List.all_eq_true.mpr h2
/-! ### the program's -/
section
variable {l m : Nm} {st : Store}
theorem chk1 {k : Nat} {env : EnvW} (he : env[k]? = some (some (tN l))) (h : NOk l) : sExpr (dCall 1 d_check_name (dCons (dVar k) dNil)) env st = .go .nx env st := by
  have c := h.check (st := st)
  generalize tN l = A at *
  simp -implicitDefEqProofs only [sExpr_ap, dCall_ap, dCons_ap, dNil_ap, dVar_ap, he, Res.bind_ok, kCons1_ap, kCons2_ap, kCall_1, c, Res.then_ok, kExpr_ap]
theorem under_ok (h : NOk l) (h' : NOk m) : d_is_under [tN l, tN m] st = .ok (.bl (sfx l m)) st := by
  have e := ends_ok (st := st) h.s h'.s
  have g : gc st (.bl (sfx l m)) st = .ok (.bl (sfx l m)) st := gc_same rfl
  unfold d_is_under; rw [fnDen_ap]; unfold b_is_under
  simp -implicitDefEqProofs only [List.map_cons, List.map_nil, List.length_cons, List.length_nil, Nat.reduceAdd, Nat.reduceSub, List.replicate_succ, List.replicate_zero, List.cons_append, List.nil_append]
  rw [seq_go (chk1 (k := 0) rfl h) rfl, seq_go (chk1 (k := 1) rfl h') rfl]
  generalize tN l = A at *
  generalize tN m = B at *
  simp -implicitDefEqProofs only [sRet_ap, dCall_ap, dCons_ap, dNil_ap, dVar_ap, List.getElem?_cons_zero, List.getElem?_cons_succ, Res.bind_ok, kCons1_ap, kCons2_ap, kCall_2, e, Res.then_ok, kRet_ap, fnR_rt, g]
theorem labels_ok (h : NOk l) (h' : NOk m) (hs : sfx l m = true) : d_labels_ahead [tN l, tN m] st = .ok (tN (l.take (l.length - m.length))) st := by
  have u := under_ok (st := st) h h'
  rw [hs] at u
  have hm : m.length ≤ l.length := by unfold sfx at hs; rw [Bool.and_eq_true, decide_eq_true_iff] at hs; exact hs.1
  have sb := subN hm (st := st)
  have ll := lenN (l := l) (st := st)
  have lm := lenN (l := m) (st := st)
  have sl := slt (l := l) (i := l.length - m.length) (st := st)
  have g := gcN0 (st := st) (h.s.take (l.length - m.length))
  unfold d_labels_ahead; rw [fnDen_ap]; unfold b_labels_ahead
  simp -implicitDefEqProofs only [List.map_cons, List.map_nil, List.length_cons, List.length_nil, Nat.reduceAdd, Nat.reduceSub, List.replicate_succ, List.replicate_zero, List.cons_append, List.nil_append]
  generalize tN (l.take (l.length - m.length)) = C at *
  generalize ((l.length - m.length : Nat) : Int) = D at *
  generalize (l.length : Int) = L1 at *
  generalize (m.length : Int) = M1 at *
  generalize tN l = A at *
  generalize tN m = B at *
  refine (congrArg (fnR st) (seq_go (env' := [some A, some B]) (st' := st) ?_ rfl)).trans ?_
  · simp -implicitDefEqProofs only [sIf_ap, dNot_ap, dBool_ap, dCall_ap, dCons_ap, dNil_ap, dVar_ap, List.getElem?_cons_zero, List.getElem?_cons_succ, Res.bind_ok, kCons1_ap, kCons2_ap, kCall_2, u, kBool_ap, kNot_ap, Bool.not_true, Res.then_ok, kSIf_f, sNil_ap]
  · simp -implicitDefEqProofs only [sRet_ap, dSl_ap, dOp_ap, dApp_ap, dCons_ap, dNil_ap, dVar_ap, dNoPart_ap, dPart_ap, List.getElem?_cons_zero, List.getElem?_cons_succ, Res.bind_ok, kOp1_ap, kCons1_ap, kCons2_ap, ll, lm, sb, kPart_ap, kSl1_ap, kSl2_ap, sl, Res.then_ok, kRet_ap, fnR_rt, g]
theorem labels_err (h : NOk l) (h' : NOk m) (hs : sfx l m = false) : d_labels_ahead [tN l, tN m] st = .err "OutOfZone" (tN l) st := by
  have u := under_ok (st := st) h h'
  rw [hs] at u
  unfold d_labels_ahead; rw [fnDen_ap]; unfold b_labels_ahead
  generalize tN l = A at *
  generalize tN m = B at *
  simp -implicitDefEqProofs only [List.map_cons, List.map_nil, List.length_cons, List.length_nil, Nat.reduceAdd, Nat.reduceSub, List.replicate_succ, List.replicate_zero, List.cons_append, List.nil_append, sSeq_ap, sIf_ap, dNot_ap, dBool_ap, dCall_ap, dCons_ap, dNil_ap, dVar_ap, List.getElem?_cons_zero, List.getElem?_cons_succ, Res.bind_ok, kCons1_ap, kCons2_ap, kCall_2, u, kBool_ap, kNot_ap, Bool.not_false, Res.then_ok, kSIf_t, sRaise_ap, kRaise_ap, RsS.next_er, fnR_err]
theorem size_ok (h : NOk l) : d_size [tN l] st = .ok (.int (wgt l : Int)) st := by
  have w := weight_ok (st := st) h.s
  have g : gc st (.int (wgt l : Int)) st = .ok (.int (wgt l : Int)) st := gc_same rfl
  unfold d_size; rw [fnDen_ap]; unfold b_size
  simp -implicitDefEqProofs only [List.map_cons, List.map_nil, List.length_cons, List.length_nil, Nat.reduceAdd, Nat.reduceSub, List.replicate_succ, List.replicate_zero, List.cons_append, List.nil_append]
  rw [seq_go (chk1 (k := 0) rfl h) rfl]
  generalize tN l = A at *
  simp -implicitDefEqProofs only [sRet_ap, dCall_ap, dCons_ap, dNil_ap, dVar_ap, List.getElem?_cons_zero, Res.bind_ok, kCons1_ap, kCons2_ap, kCall_1, w, Res.then_ok, kRet_ap, fnR_rt, g]
def cmpI (l m : Nm) : Int := (if ltN m l = true then 1 else 0) - (if ltN l m = true then 1 else 0)
theorem compared_ok (h : NOk l) (h' : NOk m) : d_compared [tN l, tN m] st = .ok (.int (cmpI l m)) st := by
  have e := (eqN (st := st) h.s h'.s).1
  have p1 := placeN (st := st) h.s
  have p2 := placeN (st := st) h'.s
  have lt := ltN_ok (st := st) h.s.rev h'.s.rev
  have el : lx l.reverse m.reverse = ltN l m := rfl
  rw [el] at lt
  have g : ∀ i : Int, gc st (.int i) st = .ok (.int i) st := fun i => gc_same rfl
  unfold d_compared; rw [fnDen_ap]; unfold b_compared
  simp -implicitDefEqProofs only [List.map_cons, List.map_nil, List.length_cons, List.length_nil, Nat.reduceAdd, Nat.reduceSub, List.replicate_succ, List.replicate_zero, List.cons_append, List.nil_append]
  rw [seq_go (chk1 (k := 0) rfl h) rfl, seq_go (chk1 (k := 1) rfl h') rfl]
  by_cases q : l = m
  · subst q
    rw [decide_eq_true rfl] at e
    have ec : cmpI l l = 0 := by unfold cmpI; rw [ltN_irrefl]; rfl
    rw [ec]
    generalize tN l = A at *
    refine (congrArg (fnR st) (seq_rt (v := .int 0) (env' := [some A, some A]) (st' := st) ?_)).trans ?_
    · simp -implicitDefEqProofs only [sIf_ap, dBool_ap, dOp_ap, dVar_ap, List.getElem?_cons_zero, List.getElem?_cons_succ, Res.bind_ok, kOp1_ap, e, kBool_ap, Res.then_ok, kSIf_t, sRet_ap, dC_ap, kRet_ap]
    · rw [fnR_rt, g]
  · rw [decide_eq_false q] at e
    have ht := ltN_turn q
    have hc : cmpI l m = if ltN l m = true then -1 else 1 := by
      unfold cmpI
      rw [ht]
      cases ltN l m <;> rfl
    rw [hc]
    generalize tN l.reverse = A' at *
    generalize tN m.reverse = B' at *
    generalize tN l = A at *
    generalize tN m = B at *
    refine (congrArg (fnR st) (seq_go (env' := [some A, some B]) (st' := st) ?_ rfl)).trans ?_
    · simp -implicitDefEqProofs only [sIf_ap, dBool_ap, dOp_ap, dVar_ap, List.getElem?_cons_zero, List.getElem?_cons_succ, Res.bind_ok, kOp1_ap, e, kBool_ap, Res.then_ok, kSIf_f, sNil_ap]
    · cases hb : ltN l m with
      | true =>
        rw [hb] at lt
        rw [if_pos rfl]
        simp -implicitDefEqProofs only [sRet_ap, dIf_ap, dBool_ap, dOp_ap, dCall_ap, dCons_ap, dNil_ap, dVar_ap, List.getElem?_cons_zero, List.getElem?_cons_succ, Res.bind_ok, kCons1_ap, kCons2_ap, kCall_1, p1, p2, kOp1_ap, lt, kBool_ap, kIf_t, dUn_ap, dC_ap, negW_i, Res.then_ok, kRet_ap, fnR_rt, g]
      | false =>
        rw [hb] at lt
        rw [if_neg (by decide)]
        simp -implicitDefEqProofs only [sRet_ap, dIf_ap, dBool_ap, dOp_ap, dCall_ap, dCons_ap, dNil_ap, dVar_ap, List.getElem?_cons_zero, List.getElem?_cons_succ, Res.bind_ok, kCons1_ap, kCons2_ap, kCall_1, p1, p2, kOp1_ap, lt, kBool_ap, kIf_f, dC_ap, Res.then_ok, kRet_ap, fnR_rt, g]
def cW : DS := sWhile (dNot (dBool (dCall 2 d_ends_with (dCons (dVar 1) (dCons (dVar 2) dNil))))) (sAsg (dSl (dVar 2) (dPart (dC (.int 1))) dNoPart) (tName 2))
theorem common_eq : b_common = sSeq (sExpr (dCall 1 d_check_name (dCons (dVar 0) dNil))) (sSeq (sExpr (dCall 1 d_check_name (dCons (dVar 1) dNil))) (sSeq (sAsg (dVar 0) (tName 2)) (sSeq cW (sRet (dVar 2))))) := rfl
theorem common_ok (h : NOk l) (h' : NOk m) : d_common [tN l, tN m] st = .ok (tN (l.drop (l.length - al l m))) st := by
  have ha := al_le l m
  obtain ⟨env', st', e, rfl, hst⟩ := while_inv (c := dNot (dBool (dCall 2 d_ends_with (dCons (dVar 1) (dCons (dVar 2) dNil))))) (b := sAsg (dSl (dVar 2) (dPart (dC (.int 1))) dNoPart) (tName 2))
    (fun i env T => env = [some (tN l), some (tN m), some (tN (l.drop i))] ∧ T = st) (l.length - al l m) (fun i env T hi hI => by
      obtain ⟨rfl, rfl⟩ := hI
      have ee := ends_ok (st := T) h'.s (h.s.drop i)
      rw [sfx_al (by omega), decide_eq_false (by omega)] at ee
      have sl := slf (l := l.drop i) (i := 1) (st := T)
      rw [List.drop_drop] at sl
      refine ⟨_, _, ?_, ?_, rfl, rfl⟩
      · generalize tN (l.drop i) = C at *
        generalize tN l = A at *
        generalize tN m = B at *
        simp -implicitDefEqProofs only [dNot_ap, dBool_ap, dCall_ap, dCons_ap, dNil_ap, dVar_ap, List.getElem?_cons_zero, List.getElem?_cons_succ, Res.bind_ok, kCons1_ap, kCons2_ap, kCall_2, ee, kBool_ap, kNot_ap, Bool.not_false]
      · generalize tN (l.drop i) = C at *
        generalize tN (l.drop (i + 1)) = C' at *
        generalize tN l = A at *
        generalize tN m = B at *
        have sl' : slW C (some 1) none T = .ok C' T := sl
        simp -implicitDefEqProofs only [sAsg_ap, dSl_ap, dVar_ap, dPart_ap, dC_ap, dNoPart_ap, List.getElem?_cons_zero, List.getElem?_cons_succ, Res.bind_ok, kPart_ap, kSl1_ap, kSl2_ap, sl', Res.then_ok, kAsg_n, List.set_cons_succ, List.set_cons_zero]) (fun env T hI => by
      obtain ⟨rfl, rfl⟩ := hI
      have ee := ends_ok (st := T) h'.s (h.s.drop (l.length - al l m))
      rw [sfx_al (by omega), decide_eq_true (by omega)] at ee
      generalize tN (l.drop (l.length - al l m)) = C at *
      generalize tN l = A at *
      generalize tN m = B at *
      simp -implicitDefEqProofs only [dNot_ap, dBool_ap, dCall_ap, dCons_ap, dNil_ap, dVar_ap, List.getElem?_cons_zero, List.getElem?_cons_succ, Res.bind_ok, kCons1_ap, kCons2_ap, kCall_2, ee, kBool_ap, kNot_ap, Bool.not_true]) (env := [some (tN l), some (tN m), some (tN l)]) (st := st) ⟨by rw [List.drop_zero], rfl⟩
  rw [hst] at e
  have g := gcN0 (st := st) (h.s.drop (l.length - al l m))
  have h3 : sAsg (dVar 0) (tName 2) [some (tN l), some (tN m), none] st = .go .nx [some (tN l), some (tN m), some (tN l)] st := rfl
  have e' : cW [some (tN l), some (tN m), some (tN l)] st = .go .nx [some (tN l), some (tN m), some (tN (l.drop (l.length - al l m)))] st := e
  unfold d_common; rw [fnDen_ap, common_eq]
  simp -implicitDefEqProofs only [List.map_cons, List.map_nil, List.length_cons, List.length_nil, Nat.reduceAdd, Nat.reduceSub, List.replicate_succ, List.replicate_zero, List.cons_append, List.nil_append]
  rw [seq_go (chk1 (k := 0) rfl h) rfl, seq_go (chk1 (k := 1) rfl h') rfl, seq_go h3 rfl, seq_go e' rfl]
  exact g
/-- the law's labels ahead: what is told -/
def toldW (l m : Nm) : W := if sfx l m = true then .tup [.str "labels", tN (l.take (l.length - m.length))] else .tup [.str "outside", tN l]
theorem told_pu {s : Str} {k : Nm} (hs : okS s = true) (hk : SOk k) : MP.pu (.tup [.str s, tN k]) := pu_tup (by simp) fun w hw => by
  simp only [List.mem_cons, List.not_mem_nil, or_false] at hw
  rcases hw with rfl | rfl
  · exact hs
  · exact sn_pu 4 _ (sn_mono hk.sn2 (by decide))
theorem llabels_ok (h : NOk l) (h' : NOk m) : d__law_labels_ahead [tN l, tN m] st = .ok (toldW l m) st ∧ MP.pu (toldW l m) := by
  have hp : MP.pu (toldW l m) := by
    unfold toldW
    split
    · exact told_pu (by decide +kernel) (h.s.take _)
    · exact told_pu (by decide +kernel) h.s
  refine ⟨?_, hp⟩
  have g : gc st (toldW l m) st = .ok (toldW l m) st := gc_same (cl_pu _ 5 _ hp)
  have h1 : sAsg (dC .non) (tName 2) [some (tN l), some (tN m), none, none] st = .go .nx [some (tN l), some (tN m), some .non, none] st := rfl
  have h2 : (sTryAs 3 (sAsg (dTup (dCons (dC (.str "labels")) (dCons (dCall 2 d_labels_ahead (dCons (dVar 0) (dCons (dVar 1) dNil))) dNil))) (tName 2)) (subL [("TreeError", false), ("InvalidName", false), ("OutOfZone", true), ("Unreadable", false)]) (fun cN wv => (sAsg (dTup (dCons (dC (.str "outside")) (dCons (dExc wv) dNil))) (tName 2)))) [some (tN l), some (tN m), some .non, none] st = .go .nx [some (tN l), some (tN m), some (toldW l m), none] st := by
    rw [sTryAs_ap]
    unfold toldW
    cases q : sfx l m with
    | true =>
      have e := labels_ok (st := st) h h' q
      rw [if_pos rfl]
      have k : kTup [.str "labels", tN (l.take (l.length - m.length))] st = .ok (.tup [.str "labels", tN (l.take (l.length - m.length))]) st := ten (by simp)
      generalize tN (l.take (l.length - m.length)) = C at *
      generalize tN l = A at *
      generalize tN m = B at *
      simp -implicitDefEqProofs only [sAsg_ap, dTup_ap, dCons_ap, dNil_ap, dC_ap, dCall_ap, dVar_ap, List.getElem?_cons_zero, List.getElem?_cons_succ, Res.bind_ok, kCons1_ap, kCons2_ap, kCall_2, e, k, Res.then_ok, kAsg_n, List.set_cons_succ, List.set_cons_zero, kTry_go]
    | false =>
      have e := labels_err (st := st) h h' q
      rw [if_neg (by decide)]
      have hsub : subL [("TreeError", false), ("InvalidName", false), ("OutOfZone", true), ("Unreadable", false)] "OutOfZone" = some true := by decide +kernel
      have k : kTup [.str "outside", tN l] st = .ok (.tup [.str "outside", tN l]) st := ten (by simp)
      have eb : (sAsg (dTup (dCons (dC (.str "labels")) (dCons (dCall 2 d_labels_ahead (dCons (dVar 0) (dCons (dVar 1) dNil))) dNil))) (tName 2)) [some (tN l), some (tN m), some .non, none] st = .err "OutOfZone" (tN l) [some (tN l), some (tN m), some .non, none] st := by
        generalize tN l = A at *
        generalize tN m = B at *
        simp -implicitDefEqProofs only [sAsg_ap, dTup_ap, dCons_ap, dNil_ap, dC_ap, dCall_ap, dVar_ap, List.getElem?_cons_zero, List.getElem?_cons_succ, Res.bind_ok, Res.bind_err, kCons1_ap, kCons2_ap, kCall_2, e, Res.then_err]
      rw [eb, kTry_err hsub (by simp)]
      generalize tN l = A at *
      generalize tN m = B at *
      simp -implicitDefEqProofs only [sAsg_ap, dTup_ap, dCons_ap, dNil_ap, dC_ap, dExc_ap, Res.bind_ok, kCons1_ap, kCons2_ap, k, Res.then_ok, kAsg_n, List.set_cons_succ, List.set_cons_zero, unAt_go]
  unfold d__law_labels_ahead; rw [fnDen_ap]
  simp -implicitDefEqProofs only [List.map_cons, List.map_nil, List.length_cons, List.length_nil, Nat.reduceAdd, Nat.reduceSub, List.replicate_succ, List.replicate_zero, List.cons_append, List.nil_append]
  have body : b__law_labels_ahead [some (tN l), some (tN m), none, none] st = .go (.rt (toldW l m)) [some (tN l), some (tN m), some (toldW l m), none] st := by
    unfold b__law_labels_ahead
    rw [seq_go h1 rfl, seq_go h2 rfl]
    rfl
  rw [body, fnR_rt, g]
end
end
end K02
namespace K02
open PySem PySem.Spec PyProof.Rows L2 MP
open Classical
noncomputable section
def PR1b1 : DS := (sPar 7 8 (dCons (dCall 2 d__law_name (dCons (dVar 0) (dCons (dVar 1) dNil))) (dCons (dCall 2 d__law_name (dCons (dVar 0) (dCons (dVar 1) dNil))) dNil)))
def PR1b2c : D Bool := (dBool (dOp eqW (dCall 2 d__law_take (dCons (dVar 0) (dCons (dC (.int 3)) dNil))) (dC (.int 0))))
def PR1b2a : DS := (sAsg (dSl (dVar 7) (dPart (dCall 2 d__law_take (dCons (dVar 0) (dCons (dOp addW (dApp lenW (dCons (dVar 7) dNil)) (dC (.int 1))) dNil)))) dNoPart) (tName 8))
def PR1b2 : DS := sIf PR1b2c PR1b2a sNil
def PR1b3c : D Bool := (dBool (dOp eqW (dCall 2 d__law_take (dCons (dVar 0) (dCons (dC (.int 6)) dNil))) (dC (.int 0))))
def PR1b3a : DS := (sPar 7 8 (dCons (dVar 8) (dCons (dVar 7) dNil)))
def PR1b3 : DS := sIf PR1b3c PR1b3a sNil
def PR1b4 : DS := (sAsg (dOp subW (dApp intOfW (dCons (dCall 2 d__law_ahead (dCons (dVar 8) (dCons (dVar 7) dNil))) dNil)) (dApp intOfW (dCons (dCall 2 d__law_ahead (dCons (dVar 7) (dCons (dVar 8) dNil))) dNil))) (tName 3))
def PR1b5c : D Bool := (dOr (dNot (dBool (dCall 2 (d__law_same 8) (dCons (dCall 2 d_compared (dCons (dVar 7) (dCons (dVar 8) dNil))) (dCons (dVar 3) dNil))))) (dNot (dBool (dCall 2 (d__law_same 8) (dCons (dCall 1 d_size (dCons (dVar 7) dNil)) (dCons (dCall 1 d__law_size (dCons (dVar 7) dNil)) dNil))))))
def PR1b5a : DS := (sRet (dC (.bl false)))
def PR1b5 : DS := sIf PR1b5c PR1b5a sNil
def PR1b6 : DS := (sAsg (dC (.int 0)) (tName 4))
def PR1b7 : DS := (sWhile (dAnd (dBool (dOp ltW (dVar 4) (dApp minW (dCons (dApp lenW (dCons (dVar 7) dNil)) (dCons (dApp lenW (dCons (dVar 8) dNil)) dNil))))) (dBool (dOp eqW (dOp ixW (dVar 7) (dOp subW (dOp subW (dApp lenW (dCons (dVar 7) dNil)) (dC (.int 1))) (dVar 4))) (dOp ixW (dVar 8) (dOp subW (dOp subW (dApp lenW (dCons (dVar 8) dNil)) (dC (.int 1))) (dVar 4)))))) (sAsg (dOp addW (dVar 4) (dC (.int 1))) (tName 4)))
def PR1b8c : D Bool := (dOr (dNot (dBool (dCall 2 (d__law_same 8) (dCons (dCall 2 d_common (dCons (dVar 7) (dCons (dVar 8) dNil))) (dCons (dSl (dVar 7) (dPart (dOp subW (dApp lenW (dCons (dVar 7) dNil)) (dVar 4))) dNoPart) dNil))))) (dBool (dOp neW (dCallP 2 [1, 0] d_compared (dCons (dVar 8) (dCons (dVar 7) dNil))) (dVar 3))))
def PR1b8a : DS := (sRet (dC (.bl false)))
def PR1b8 : DS := sIf PR1b8c PR1b8a sNil
def PR1b9c : D Bool := (dOr (dBool (dOp neW (dCallP 2 [1, 0] d_common (dCons (dVar 8) (dCons (dVar 7) dNil))) (dCall 2 d_common (dCons (dVar 7) (dCons (dVar 8) dNil))))) (dBool (dOp neW (dCall 1 d_size (dCons (dVar 7) dNil)) (dCall 1 d__law_size (dCons (dVar 7) dNil)))))
def PR1b9a : DS := (sRet (dC (.bl false)))
def PR1b9 : DS := sIf PR1b9c PR1b9a sNil
def PR1b10c : D Bool := (dNot (dBool (dCall 2 (d__law_same 8) (dCons (dCallP 2 [1, 0] d_is_under (dCons (dVar 8) (dCons (dVar 7) dNil))) (dCons (dOp eqW (dVar 4) (dApp lenW (dCons (dVar 8) dNil))) dNil)))))
def PR1b10a : DS := (sRet (dC (.bl false)))
def PR1b10 : DS := sIf PR1b10c PR1b10a sNil
def PR1b11c : D Bool := (dAnd (dBool (dOp eqW (dVar 4) (dApp lenW (dCons (dVar 8) dNil)))) (dBool (dOp neW (dCallP 2 [1, 0] d_labels_ahead (dCons (dVar 8) (dCons (dVar 7) dNil))) (dSl (dVar 7) dNoPart (dPart (dOp subW (dApp lenW (dCons (dVar 7) dNil)) (dVar 4)))))))
def PR1b11a : DS := (sRet (dC (.bl false)))
def PR1b11 : DS := sIf PR1b11c PR1b11a sNil
def PR1b12 : DS := (sAsg (dOp eqW (dVar 4) (dApp lenW (dCons (dVar 8) dNil))) (tName 5))
def PR1b13 : DS := (sAsg (dTup (dCons (dC (.str "outside")) (dCons (dVar 7) dNil))) (tName 6))
def PR1b14c : D Bool := (dBool (dVar 5))
def PR1b14a : DS := (sAsg (dTup (dCons (dC (.str "labels")) (dCons (dSl (dVar 7) dNoPart (dPart (dOp subW (dApp lenW (dCons (dVar 7) dNil)) (dVar 4)))) dNil))) (tName 6))
def PR1b14 : DS := sIf PR1b14c PR1b14a sNil
def PR1b15c : D Bool := (dOr (dNot (dBool (dCall 2 (d__law_same 8) (dCons (dCall 2 d_is_under (dCons (dVar 7) (dCons (dVar 8) dNil))) (dCons (dVar 5) dNil))))) (dNot (dBool (dCall 2 (d__law_same 8) (dCons (dCall 2 d__law_labels_ahead (dCons (dVar 7) (dCons (dVar 8) dNil))) (dCons (dVar 6) dNil))))))
def PR1b15a : DS := (sRet (dC (.bl false)))
def PR1b15 : DS := sIf PR1b15c PR1b15a sNil
def PR1b : DS := (sSeq PR1b1 (sSeq PR1b2 (sSeq PR1b3 (sSeq PR1b4 (sSeq PR1b5 (sSeq PR1b6 (sSeq PR1b7 (sSeq PR1b8 (sSeq PR1b9 (sSeq PR1b10 (sSeq PR1b11 (sSeq PR1b12 (sSeq PR1b13 (sSeq PR1b14 PR1b15))))))))))))))
def PR1 : DS := sFor (dRange1 (dCons (dC (.int 6)) dNil)) (tName 2) PR1b
def PR2 : DS := (sRet (dC (.bl true)))
theorem PR_eq : b__law_pairs_right = (sSeq PR1 PR2) := rfl

theorem sameI {i : Int} {T : Store} : d__law_same 8 [.int i, .int i] T = .ok (.bl true) T := sameP rfl
theorem sameB {b : Bool} {T : Store} : d__law_same 8 [.bl b, .bl b] T = .ok (.bl true) T := sameP rfl
theorem eqI {a b : Nat} {T : Store} : eqW (.int (a : Int)) (.int (b : Int)) T = .ok (.bl (decide (a = b))) T := by
  rw [eqW_int]
  congr 2
  rw [Bool.eq_iff_iff, beq_iff_eq, decide_eq_true_iff]
  omega
theorem neI {i : Int} {T : Store} : neW (.int i) (.int i) T = .ok (.bl false) T := by
  rw [pic_ne (.pu _ (show MP.pu (.int i) from rfl)) (.pu _ (show MP.pu (.int i) from rfl))]
  congr 2
  show (!(PyData.int i).eqv (PyData.int i)) = false
  rw [PyData.eqv]; simp
theorem neN {l : Nm} {T : Store} (h : SOk l) : neW (tN l) (tN l) T = .ok (.bl false) T := by
  rw [(eqN h h).2]; simp
section
variable {p q : Nat} {T : Store} {x y : Nm} {t c3 c4 c5 c6 : Option W}
theorem pureP (hx : NOk x) (hy : NOk y) : ∃ d3 d4 d5 d6, (sSeq PR1b4 (sSeq PR1b5 (sSeq PR1b6 (sSeq PR1b7 (sSeq PR1b8 (sSeq PR1b9 (sSeq PR1b10 (sSeq PR1b11 (sSeq PR1b12 (sSeq PR1b13 (sSeq PR1b14 PR1b15))))))))))) [some (.loc p), some (.loc q), t, c3, c4, c5, c6, some (tN x), some (tN y)] T =
    .go .nx [some (.loc p), some (.loc q), t, d3, d4, d5, d6, some (tN x), some (tN y)] T := by
  have ha := al_le x y
  have sx : sfx x y = decide (al x y = y.length) := sfx_all
  -- 4
  have a1 := ahead_ok (st := T) hy.s hx.s
  have a2 := ahead_ok (st := T) hx.s hy.s
  have sb : subW (.int (if ltN y x = true then 1 else 0)) (.int (if ltN x y = true then 1 else 0)) T = .ok (.int (cmpI x y)) T := rfl
  have i1 : intOfW [.bl (ltN y x)] T = .ok (.int (if ltN y x = true then 1 else 0)) T := rfl
  have i2 : intOfW [.bl (ltN x y)] T = .ok (.int (if ltN x y = true then 1 else 0)) T := rfl
  have h4 : PR1b4 [some (.loc p), some (.loc q), t, c3, c4, c5, c6, some (tN x), some (tN y)] T = .go .nx [some (.loc p), some (.loc q), t, some (.int (cmpI x y)), c4, c5, c6, some (tN x), some (tN y)] T := by
    generalize tN x = X at *
    generalize tN y = Y at *
    unfold PR1b4
    simp -implicitDefEqProofs only [sAsg_ap, dOp_ap, dApp_ap, dCall_ap, dCons_ap, dNil_ap, dVar_ap, List.getElem?_cons_zero, List.getElem?_cons_succ, Res.bind_ok, kCons1_ap, kCons2_ap, kCall_2, a1, a2, i1, i2, kOp1_ap, sb, Res.then_ok, kAsg_n, List.set_cons_succ, List.set_cons_zero]
  -- 5
  have cm := compared_ok (st := T) hx hy
  have sz := size_ok (st := T) hx
  have lz := lsize_ok (st := T) hx.s
  have sm1 := sameI (i := cmpI x y) (T := T)
  have sm2 := sameI (i := (wgt x : Int)) (T := T)
  have h5 : PR1b5 [some (.loc p), some (.loc q), t, some (.int (cmpI x y)), c4, c5, c6, some (tN x), some (tN y)] T = .go .nx [some (.loc p), some (.loc q), t, some (.int (cmpI x y)), c4, c5, c6, some (tN x), some (tN y)] T := by
    generalize tN x = X at *
    generalize tN y = Y at *
    generalize cmpI x y = C at *
    generalize (wgt x : Int) = Z at *
    unfold PR1b5 PR1b5c
    simp -implicitDefEqProofs only [sIf_ap, dOr_ap, dNot_ap, dBool_ap, dCall_ap, dCons_ap, dNil_ap, dVar_ap, List.getElem?_cons_zero, List.getElem?_cons_succ, Res.bind_ok, kCons1_ap, kCons2_ap, kCall_1, kCall_2, cm, sm1, kBool_ap, kNot_ap, Bool.not_true, kOr_f, sz, lz, sm2, Res.then_ok, kSIf_f, sNil_ap]
  have h6 : PR1b6 [some (.loc p), some (.loc q), t, some (.int (cmpI x y)), c4, c5, c6, some (tN x), some (tN y)] T = .go .nx [some (.loc p), some (.loc q), t, some (.int (cmpI x y)), some (.int ((0 : Nat) : Int)), c5, c6, some (tN x), some (tN y)] T := rfl
  -- 7
  have lx' := lenN (l := x) (st := T)
  have ly' := lenN (l := y) (st := T)
  have mn := min_ok (a := x.length) (b := y.length) (st := T)
  have ltI : ∀ a b : Nat, ltW (.int (a : Int)) (.int (b : Int)) T = .ok (.bl (decide (a < b))) T := fun a b => by
    show Res.ok (W.bl (decide ((a : Int) < (b : Int)))) T = _
    congr 2
    simp
  have h7 : PR1b7 [some (.loc p), some (.loc q), t, some (.int (cmpI x y)), some (.int ((0 : Nat) : Int)), c5, c6, some (tN x), some (tN y)] T = .go .nx [some (.loc p), some (.loc q), t, some (.int (cmpI x y)), some (.int (al x y : Int)), c5, c6, some (tN x), some (tN y)] T := by
    have ats : ∀ i, i < x.length → i < y.length → ∃ a b, x.reverse[i]? = some a ∧ y.reverse[i]? = some b ∧ okS (txt a) = true ∧ okS (txt b) = true ∧
        ixW (tN x) (.int ((x.length - 1 - i : Nat) : Int)) T = .ok (tW a) T ∧ ixW (tN y) (.int ((y.length - 1 - i : Nat) : Int)) T = .ok (tW b) T := fun i hl hm => by
      obtain ⟨a, ha⟩ : ∃ a, x.reverse[i]? = some a := ⟨_, List.getElem?_eq_getElem (by rw [List.length_reverse]; exact hl)⟩
      obtain ⟨b, hb⟩ : ∃ b, y.reverse[i]? = some b := ⟨_, List.getElem?_eq_getElem (by rw [List.length_reverse]; exact hm)⟩
      have xa : x[x.length - 1 - i]? = some a := by rw [← List.getElem?_reverse hl]; exact ha
      have xb : y[y.length - 1 - i]? = some b := by rw [← List.getElem?_reverse hm]; exact hb
      exact ⟨a, b, ha, hb, hx.s.ok a (List.mem_of_getElem? xa), hy.s.ok b (List.mem_of_getElem? xb), ixN xa, ixN xb⟩
    have subs : ∀ i, i < x.length → i < y.length → subW (.int (x.length : Int)) (.int 1) T = .ok (.int ((x.length - 1 : Nat) : Int)) T ∧ subW (.int ((x.length - 1 : Nat) : Int)) (.int (i : Int)) T = .ok (.int ((x.length - 1 - i : Nat) : Int)) T ∧
        subW (.int (y.length : Int)) (.int 1) T = .ok (.int ((y.length - 1 : Nat) : Int)) T ∧ subW (.int ((y.length - 1 : Nat) : Int)) (.int (i : Int)) T = .ok (.int ((y.length - 1 - i : Nat) : Int)) T := fun i hl hm =>
      ⟨subN (a := x.length) (b := 1) (by omega), subN (by omega), subN (a := y.length) (b := 1) (by omega), subN (by omega)⟩
    have cnd : ∀ i, i ≤ al x y → (dAnd (dBool (dOp ltW (dVar 4) (dApp minW (dCons (dApp lenW (dCons (dVar 7) dNil)) (dCons (dApp lenW (dCons (dVar 8) dNil)) dNil))))) (dBool (dOp eqW (dOp ixW (dVar 7) (dOp subW (dOp subW (dApp lenW (dCons (dVar 7) dNil)) (dC (.int 1))) (dVar 4))) (dOp ixW (dVar 8) (dOp subW (dOp subW (dApp lenW (dCons (dVar 8) dNil)) (dC (.int 1))) (dVar 4)))))) [some (.loc p), some (.loc q), t, some (.int (cmpI x y)), some (.int (i : Int)), c5, c6, some (tN x), some (tN y)] T = .ok (decide (i < al x y)) T := fun i hi => by
      have lt := ltI i (min x.length y.length)
      by_cases z : i < min x.length y.length
      · rw [decide_eq_true z] at lt
        obtain ⟨a, b, xa, yb, oka, okb, ia, ib⟩ := ats i (by omega) (by omega)
        obtain ⟨s1, s2, s3, s4⟩ := subs i (by omega) (by omega)
        have ee := (eqX (st := T) oka okb).1
        have ec := cp_at x.reverse y.reverse i hi a b xa yb
        have ed : decide (a = b) = decide (i < al x y) := by
          congr 1
          exact propext ec
        rw [ed] at ee
        generalize ((x.length - 1 - i : Nat) : Int) = D1 at *
        generalize ((y.length - 1 - i : Nat) : Int) = D2 at *
        generalize ((x.length - 1 : Nat) : Int) = D3 at *
        generalize ((y.length - 1 : Nat) : Int) = D4 at *
        generalize ((min x.length y.length : Nat) : Int) = D5 at *
        generalize (x.length : Int) = L1 at *
        generalize (y.length : Int) = M1 at *
        generalize (i : Int) = I at *
        generalize tN x = X at *
        generalize tN y = Y at *
        generalize tW a = A1 at *
        generalize tW b = B1 at *
        simp -implicitDefEqProofs only [dAnd_ap, dBool_ap, dOp_ap, dApp_ap, dCons_ap, dNil_ap, dVar_ap, dC_ap, List.getElem?_cons_zero, List.getElem?_cons_succ, Res.bind_ok, kCons1_ap, kCons2_ap, lx', ly', mn, kOp1_ap, lt, kBool_ap, kAnd_t, s1, s2, s3, s4, ia, ib, ee]
      · rw [decide_eq_false z] at lt
        rw [decide_eq_false (by omega)]
        generalize ((min x.length y.length : Nat) : Int) = D5 at *
        generalize (x.length : Int) = L1 at *
        generalize (y.length : Int) = M1 at *
        generalize (i : Int) = I at *
        generalize tN x = X at *
        generalize tN y = Y at *
        simp -implicitDefEqProofs only [dAnd_ap, dBool_ap, dOp_ap, dApp_ap, dCons_ap, dNil_ap, dVar_ap, List.getElem?_cons_zero, List.getElem?_cons_succ, Res.bind_ok, kCons1_ap, kCons2_ap, lx', ly', mn, kOp1_ap, lt, kBool_ap, kAnd_f]
    obtain ⟨env', st', e, rfl, hst⟩ := while_inv (c := (dAnd (dBool (dOp ltW (dVar 4) (dApp minW (dCons (dApp lenW (dCons (dVar 7) dNil)) (dCons (dApp lenW (dCons (dVar 8) dNil)) dNil))))) (dBool (dOp eqW (dOp ixW (dVar 7) (dOp subW (dOp subW (dApp lenW (dCons (dVar 7) dNil)) (dC (.int 1))) (dVar 4))) (dOp ixW (dVar 8) (dOp subW (dOp subW (dApp lenW (dCons (dVar 8) dNil)) (dC (.int 1))) (dVar 4))))))) (b := (sAsg (dOp addW (dVar 4) (dC (.int 1))) (tName 4)))
      (fun i env T' => env = [some (.loc p), some (.loc q), t, some (.int (cmpI x y)), some (.int (i : Int)), c5, c6, some (tN x), some (tN y)] ∧ T' = T) (al x y) (fun i env T' hi hI => by
        obtain ⟨rfl, rfl⟩ := hI
        have c := cnd i (by omega)
        rw [decide_eq_true hi] at c
        refine ⟨[some (.loc p), some (.loc q), t, some (.int (cmpI x y)), some (.int ((i + 1 : Nat) : Int)), c5, c6, some (tN x), some (tN y)], T', c, ?_, rfl, rfl⟩
        have ad : addW (.int (i : Int)) (.int 1) T' = .ok (.int ((i + 1 : Nat) : Int)) T' := rfl
        generalize tN x = X at *
        generalize tN y = Y at *
        generalize (i : Int) = I at *
        generalize ((i + 1 : Nat) : Int) = I' at *
        simp -implicitDefEqProofs only [sAsg_ap, dOp_ap, dVar_ap, dC_ap, List.getElem?_cons_zero, List.getElem?_cons_succ, Res.bind_ok, kOp1_ap, ad, Res.then_ok, kAsg_n, List.set_cons_succ, List.set_cons_zero]) (fun env T' hI => by
        obtain ⟨rfl, rfl⟩ := hI
        have c := cnd (al x y) (Nat.le_refl _)
        rw [decide_eq_false (Nat.lt_irrefl _)] at c
        exact c) (env := [some (.loc p), some (.loc q), t, some (.int (cmpI x y)), some (.int ((0 : Nat) : Int)), c5, c6, some (tN x), some (tN y)]) (st := T) ⟨rfl, rfl⟩
    rw [hst] at e
    exact e
  -- 8
  have co := common_ok (st := T) hx hy
  have ec2 : y.drop (y.length - al y x) = x.drop (x.length - al x y) := by
    have h := (cp_pre x.reverse y.reverse (al x y) (by rw [List.length_reverse]; exact ha.1)).mpr (Nat.le_refl _)
    have e1 : x.reverse.take (al x y) = (x.drop (x.length - al x y)).reverse := List.take_reverse
    have e2 : y.reverse.take (al x y) = (y.drop (y.length - al x y)).reverse := List.take_reverse
    have h2 := h.2
    rw [e1, e2] at h2
    rw [al_comm y x]
    simpa using congrArg List.reverse h2
  have sb8 := subN (a := x.length) (b := al x y) ha.1 (st := T)
  have sl8 := slf (l := x) (i := x.length - al x y) (st := T)
  have sc := sameP (T := T) (hx.s.drop (x.length - al x y)).pu
  have cm2 := compared_ok (st := T) hx hy
  have ni := neI (i := cmpI x y) (T := T)
  have h8 : PR1b8 [some (.loc p), some (.loc q), t, some (.int (cmpI x y)), some (.int (al x y : Int)), c5, c6, some (tN x), some (tN y)] T = .go .nx [some (.loc p), some (.loc q), t, some (.int (cmpI x y)), some (.int (al x y : Int)), c5, c6, some (tN x), some (tN y)] T := by
    generalize tN (x.drop (x.length - al x y)) = C at *
    generalize ((x.length - al x y : Nat) : Int) = D at *
    generalize (x.length : Int) = L1 at *
    generalize (al x y : Int) = AL1 at *
    generalize cmpI x y = CI at *
    generalize tN x = X at *
    generalize tN y = Y at *
    unfold PR1b8 PR1b8c
    simp -implicitDefEqProofs only [sIf_ap, dOr_ap, dNot_ap, dBool_ap, dOp_ap, dSl_ap, dPart_ap, dNoPart_ap, dApp_ap, dCall_ap, dCallP_ap, kCallP_10, dCons_ap, dNil_ap, dVar_ap, List.getElem?_cons_zero, List.getElem?_cons_succ, Res.bind_ok, kCons1_ap, kCons2_ap, kCall_2, co, lx', kOp1_ap, sb8, kPart_ap, kSl1_ap, kSl2_ap, sl8, sc, kBool_ap, kNot_ap, Bool.not_true, kOr_f, cm2, ni, Res.then_ok, kSIf_f, sNil_ap]
  have co2 := common_ok (st := T) hy hx
  rw [ec2] at co2
  -- 9
  have nc := neN (T := T) (hx.s.drop (x.length - al x y))
  have nz := neI (i := (wgt x : Int)) (T := T)
  have h9 : PR1b9 [some (.loc p), some (.loc q), t, some (.int (cmpI x y)), some (.int (al x y : Int)), c5, c6, some (tN x), some (tN y)] T = .go .nx [some (.loc p), some (.loc q), t, some (.int (cmpI x y)), some (.int (al x y : Int)), c5, c6, some (tN x), some (tN y)] T := by
    generalize tN (x.drop (x.length - al x y)) = C at *
    generalize (al x y : Int) = AL1 at *
    generalize cmpI x y = CI at *
    generalize tN x = X at *
    generalize tN y = Y at *
    generalize (wgt x : Int) = Z at *
    unfold PR1b9 PR1b9c
    simp -implicitDefEqProofs only [sIf_ap, dOr_ap, dBool_ap, dOp_ap, dCall_ap, dCallP_ap, kCallP_10, dCons_ap, dNil_ap, dVar_ap, List.getElem?_cons_zero, List.getElem?_cons_succ, Res.bind_ok, kCons1_ap, kCons2_ap, kCall_1, kCall_2, co, kOp1_ap, nc, kBool_ap, kOr_f, sz, lz, nz, Res.then_ok, kSIf_f, sNil_ap]
  -- 10
  have un := under_ok (st := T) hx hy
  have eq4 := eqI (a := al x y) (b := y.length) (T := T)
  rw [← sx] at eq4
  have su := sameB (b := sfx x y) (T := T)
  have h10 : PR1b10 [some (.loc p), some (.loc q), t, some (.int (cmpI x y)), some (.int (al x y : Int)), c5, c6, some (tN x), some (tN y)] T = .go .nx [some (.loc p), some (.loc q), t, some (.int (cmpI x y)), some (.int (al x y : Int)), c5, c6, some (tN x), some (tN y)] T := by
    generalize (y.length : Int) = M1 at *
    generalize (al x y : Int) = AL1 at *
    generalize cmpI x y = CI at *
    generalize tN x = X at *
    generalize tN y = Y at *
    unfold PR1b10 PR1b10c
    simp -implicitDefEqProofs only [sIf_ap, dNot_ap, dBool_ap, dOp_ap, dApp_ap, dCall_ap, dCallP_ap, kCallP_10, dCons_ap, dNil_ap, dVar_ap, List.getElem?_cons_zero, List.getElem?_cons_succ, Res.bind_ok, kCons1_ap, kCons2_ap, kCall_2, un, ly', kOp1_ap, eq4, su, kBool_ap, kNot_ap, Bool.not_true, Res.then_ok, kSIf_f, sNil_ap]
  -- 11
  have h11 : PR1b11 [some (.loc p), some (.loc q), t, some (.int (cmpI x y)), some (.int (al x y : Int)), c5, c6, some (tN x), some (tN y)] T = .go .nx [some (.loc p), some (.loc q), t, some (.int (cmpI x y)), some (.int (al x y : Int)), c5, c6, some (tN x), some (tN y)] T := by
    cases hs : sfx x y with
    | false =>
      rw [hs] at eq4
      generalize (y.length : Int) = M1 at *
      generalize (al x y : Int) = AL1 at *
      generalize cmpI x y = CI at *
      generalize tN x = X at *
      generalize tN y = Y at *
      unfold PR1b11 PR1b11c
      simp -implicitDefEqProofs only [sIf_ap, dAnd_ap, dBool_ap, dOp_ap, dApp_ap, dCons_ap, dNil_ap, dVar_ap, List.getElem?_cons_zero, List.getElem?_cons_succ, Res.bind_ok, kCons1_ap, kCons2_ap, ly', kOp1_ap, eq4, kBool_ap, kAnd_f, Res.then_ok, kSIf_f, sNil_ap]
    | true =>
      rw [hs] at eq4
      have lb := labels_ok (st := T) hx hy hs
      have ey : al x y = y.length := by rw [hs] at sx; simpa using sx.symm
      have sl11 := slt (l := x) (i := x.length - al x y) (st := T)
      rw [← ey] at lb
      have nn := neN (T := T) (hx.s.take (x.length - al x y))
      generalize tN (x.take (x.length - al x y)) = C at *
      generalize ((x.length - al x y : Nat) : Int) = D at *
      generalize (x.length : Int) = L1 at *
      generalize (y.length : Int) = M1 at *
      generalize (al x y : Int) = AL1 at *
      generalize cmpI x y = CI at *
      generalize tN x = X at *
      generalize tN y = Y at *
      unfold PR1b11 PR1b11c
      simp -implicitDefEqProofs only [sIf_ap, dAnd_ap, dBool_ap, dOp_ap, dApp_ap, dSl_ap, dNoPart_ap, dPart_ap, dCallP_ap, kCallP_10, dCons_ap, dNil_ap, dVar_ap, List.getElem?_cons_zero, List.getElem?_cons_succ, Res.bind_ok, kCons1_ap, kCons2_ap, ly', lx', kOp1_ap, eq4, kBool_ap, kAnd_t, lb, sb8, kPart_ap, kSl1_ap, kSl2_ap, sl11, nn, Res.then_ok, kSIf_f, sNil_ap]
  -- 12
  have h12 : PR1b12 [some (.loc p), some (.loc q), t, some (.int (cmpI x y)), some (.int (al x y : Int)), c5, c6, some (tN x), some (tN y)] T = .go .nx [some (.loc p), some (.loc q), t, some (.int (cmpI x y)), some (.int (al x y : Int)), some (.bl (sfx x y)), c6, some (tN x), some (tN y)] T := by
    generalize (y.length : Int) = M1 at *
    generalize (al x y : Int) = AL1 at *
    generalize cmpI x y = CI at *
    generalize tN x = X at *
    generalize tN y = Y at *
    unfold PR1b12
    simp -implicitDefEqProofs only [sAsg_ap, dOp_ap, dApp_ap, dCons_ap, dNil_ap, dVar_ap, List.getElem?_cons_zero, List.getElem?_cons_succ, Res.bind_ok, kCons1_ap, kCons2_ap, ly', kOp1_ap, eq4, Res.then_ok, kAsg_n, List.set_cons_succ, List.set_cons_zero]
  have kt : kTup [.str "outside", tN x] T = .ok (.tup [.str "outside", tN x]) T := ten (by simp)
  have h13 : PR1b13 [some (.loc p), some (.loc q), t, some (.int (cmpI x y)), some (.int (al x y : Int)), some (.bl (sfx x y)), c6, some (tN x), some (tN y)] T = .go .nx [some (.loc p), some (.loc q), t, some (.int (cmpI x y)), some (.int (al x y : Int)), some (.bl (sfx x y)), some (.tup [.str "outside", tN x]), some (tN x), some (tN y)] T := by
    generalize (al x y : Int) = AL1 at *
    generalize cmpI x y = CI at *
    generalize tN x = X at *
    generalize tN y = Y at *
    unfold PR1b13
    simp -implicitDefEqProofs only [sAsg_ap, dTup_ap, dC_ap, dCons_ap, dNil_ap, dVar_ap, List.getElem?_cons_zero, List.getElem?_cons_succ, Res.bind_ok, kCons1_ap, kCons2_ap, kt, Res.then_ok, kAsg_n, List.set_cons_succ, List.set_cons_zero]
  have h14 : PR1b14 [some (.loc p), some (.loc q), t, some (.int (cmpI x y)), some (.int (al x y : Int)), some (.bl (sfx x y)), some (.tup [.str "outside", tN x]), some (tN x), some (tN y)] T = .go .nx [some (.loc p), some (.loc q), t, some (.int (cmpI x y)), some (.int (al x y : Int)), some (.bl (sfx x y)), some (toldW x y), some (tN x), some (tN y)] T := by
    unfold toldW
    cases hs : sfx x y with
    | false =>
      rw [if_neg (by decide)]
      generalize (al x y : Int) = AL1 at *
      generalize cmpI x y = CI at *
      generalize tN x = X at *
      generalize tN y = Y at *
      unfold PR1b14 PR1b14c
      simp -implicitDefEqProofs only [sIf_ap, dBool_ap, dVar_ap, List.getElem?_cons_zero, List.getElem?_cons_succ, Res.bind_ok, kBool_ap, Res.then_ok, kSIf_f, sNil_ap]
    | true =>
      rw [if_pos rfl]
      have ey : al x y = y.length := by rw [hs] at sx; simpa using sx.symm
      have sl11 := slt (l := x) (i := x.length - al x y) (st := T)
      rw [← ey]
      have kt2 : kTup [.str "labels", tN (x.take (x.length - al x y))] T = .ok (.tup [.str "labels", tN (x.take (x.length - al x y))]) T := ten (by simp)
      generalize tN (x.take (x.length - al x y)) = C at *
      generalize ((x.length - al x y : Nat) : Int) = D at *
      generalize (x.length : Int) = L1 at *
      generalize (al x y : Int) = AL1 at *
      generalize cmpI x y = CI at *
      generalize tN x = X at *
      generalize tN y = Y at *
      unfold PR1b14 PR1b14c PR1b14a
      simp -implicitDefEqProofs only [sIf_ap, dBool_ap, dVar_ap, List.getElem?_cons_zero, List.getElem?_cons_succ, Res.bind_ok, kBool_ap, Res.then_ok, kSIf_t, sAsg_ap, dTup_ap, dC_ap, dCons_ap, dNil_ap, dSl_ap, dNoPart_ap, dPart_ap, dOp_ap, dApp_ap, kCons1_ap, kCons2_ap, lx', kOp1_ap, sb8, kPart_ap, kSl1_ap, kSl2_ap, sl11, kt2, kAsg_n, List.set_cons_succ, List.set_cons_zero]
  obtain ⟨tl, tp⟩ := llabels_ok (st := T) hx hy
  have st15 := sameP (T := T) tp
  have h15 : PR1b15 [some (.loc p), some (.loc q), t, some (.int (cmpI x y)), some (.int (al x y : Int)), some (.bl (sfx x y)), some (toldW x y), some (tN x), some (tN y)] T = .go .nx [some (.loc p), some (.loc q), t, some (.int (cmpI x y)), some (.int (al x y : Int)), some (.bl (sfx x y)), some (toldW x y), some (tN x), some (tN y)] T := by
    generalize (al x y : Int) = AL1 at *
    generalize cmpI x y = CI at *
    generalize toldW x y = TW at *
    generalize tN x = X at *
    generalize tN y = Y at *
    unfold PR1b15 PR1b15c
    simp -implicitDefEqProofs only [sIf_ap, dOr_ap, dNot_ap, dBool_ap, dCall_ap, dCons_ap, dNil_ap, dVar_ap, List.getElem?_cons_zero, List.getElem?_cons_succ, Res.bind_ok, kCons1_ap, kCons2_ap, kCall_2, un, su, kBool_ap, kNot_ap, Bool.not_true, kOr_f, tl, st15, Res.then_ok, kSIf_f, sNil_ap]
  exact ⟨_, _, _, _, by
    rw [seq_go h4 rfl, seq_go h5 rfl, seq_go h6 rfl, seq_go h7 rfl, seq_go h8 rfl, seq_go h9 rfl, seq_go h10 rfl, seq_go h11 rfl, seq_go h12 rfl, seq_go h13 rfl, seq_go h14 rfl]
    exact h15⟩
end
end
end K02
namespace K02
open PySem PySem.Spec PyProof.Rows L2 MP
open Classical
noncomputable section
def rB : DS := (sSeq (sIf (dBool (dOp eqW (dVar 0) (dC (.int 0))))
    (sExpr (dCall 2 d_is_under (dCons (dVar 1) (dCons (dVar 2) dNil))))
    sNil)
    (sSeq (sIf (dBool (dOp eqW (dVar 0) (dC (.int 1))))
    (sExpr (dCall 2 d_labels_ahead (dCons (dVar 1) (dCons (dVar 2) dNil))))
    sNil)
    (sSeq (sIf (dBool (dOp eqW (dVar 0) (dC (.int 2))))
    (sExpr (dCall 2 d_common (dCons (dVar 1) (dCons (dVar 2) dNil))))
    sNil)
    (sSeq (sIf (dBool (dOp eqW (dVar 0) (dC (.int 3))))
    (sExpr (dCall 2 d_compared (dCons (dVar 1) (dCons (dVar 2) dNil))))
    sNil)
    (sSeq (sIf (dBool (dOp eqW (dVar 0) (dC (.int 4))))
    (sExpr (dCall 2 d_neighbours (dCons (dVar 1) (dCons (dVar 2) dNil))))
    sNil)
    (sSeq (sIf (dBool (dOp eqW (dVar 0) (dC (.int 5))))
    (sExpr (dCall 1 d_ordered (dCons (dVar 1) dNil)))
    sNil)
    (sSeq (sIf (dBool (dOp eqW (dVar 0) (dC (.int 6))))
    (sExpr (dCall 1 d_first (dCons (dVar 1) dNil)))
    sNil)
    (sIf (dBool (dOp eqW (dVar 0) (dC (.int 7))))
    (sExpr (dCall 1 d_size (dCons (dVar 1) dNil)))
    sNil))))))))
def rSub : Str → Option Bool := subL [("TreeError", false), ("InvalidName", true), ("OutOfZone", false), ("Unreadable", false)]
def rSu : Str → W → DS := fun cN wv => (sAsg (dLst (dCons (dExc wv) (dCons (dOrV (dIsExc [("TreeError", false), ("InvalidName", false), ("OutOfZone", true), ("Unreadable", false)] cN) (dIsExc [("TreeError", false), ("InvalidName", false), ("OutOfZone", false), ("Unreadable", true)] cN)) dNil))) (tName 3))
theorem ref_eq : b__law_refused = sSeq (sAsg (dLst dNil) (tName 3)) (sSeq (sTryAs 4 rB rSub rSu) (sRet (dVar 3))) := rfl
/-- a call that refuses a value, whose picture is u -/
def Refuses (f : Store → Res W) (u : W) (T : Store) : Prop := ∃ w' g, f T = .err "InvalidName" w' (T ++ g) ∧ Pic (T ++ g) w' u
theorem seq_er {a b : DS} {env env' : EnvW} {st st' : Store} {c : Str} {w : W} (h : a env st = .err c w env' st') : sSeq a b env st = .err c w env' st' := by
  rw [sSeq_ap, h, RsS.next_er]
section
variable {T : Store} {w u : W} {l : Nm} {b : W}
theorem chkE {k : Nat} {env : EnvW} (he : env[k]? = some (some w)) (h : Pic T w u) (hn : nameB u = false) : ∃ w' g, sExpr (dCall 1 d_check_name (dCons (dVar k) dNil)) env T = .err "InvalidName" w' env (T ++ g) ∧ Pic (T ++ g) w' u := by
  obtain ⟨w', g, e, hp, _⟩ := check_bad h hn
  refine ⟨w', g, ?_, hp⟩
  simp -implicitDefEqProofs only [sExpr_ap, dCall_ap, dCons_ap, dNil_ap, dVar_ap, he, Res.bind_ok, kCons1_ap, kCons2_ap, kCall_1, e, Res.then_err]
/-- a def that looks at its two names first -/
theorem two_1 {k : Nat} {B rest : DS} (hB : B = sSeq (sExpr (dCall 1 d_check_name (dCons (dVar 0) dNil))) rest) (h : Pic T w u) (hn : nameB u = false) : Refuses (fnDen k B [w, b]) u T := by
  obtain ⟨w', g, e, hp⟩ := chkE (k := 0) (env := [w, b].map some ++ List.replicate (k - 2) none) rfl h hn
  refine ⟨w', g, ?_, hp⟩
  rw [fnDen_ap, hB]
  show fnR T (sSeq _ rest ([w, b].map some ++ List.replicate (k - 2) none) T) = _
  rw [seq_er e, fnR_err]
theorem two_2 {k : Nat} {B rest : DS} (hB : B = sSeq (sExpr (dCall 1 d_check_name (dCons (dVar 0) dNil))) (sSeq (sExpr (dCall 1 d_check_name (dCons (dVar 1) dNil))) rest)) (hl : NOk l) (h : Pic T w u) (hn : nameB u = false) : Refuses (fnDen k B [tN l, w]) u T := by
  obtain ⟨w', g, e, hp⟩ := chkE (k := 1) (env := [tN l, w].map some ++ List.replicate (k - 2) none) rfl h hn
  refine ⟨w', g, ?_, hp⟩
  rw [fnDen_ap, hB]
  show fnR T (sSeq _ _ ([tN l, w].map some ++ List.replicate (k - 2) none) T) = _
  rw [seq_go (chk1 (k := 0) rfl hl) rfl, seq_er e, fnR_err]
theorem under_1 (h : Pic T w u) (hn : nameB u = false) : Refuses (d_is_under [w, b]) u T := two_1 rfl h hn
theorem under_2 (hl : NOk l) (h : Pic T w u) (hn : nameB u = false) : Refuses (d_is_under [tN l, w]) u T := two_2 rfl hl h hn
theorem labels_r {a : W} (h : Refuses (d_is_under [a, b]) u T) : Refuses (d_labels_ahead [a, b]) u T := by
  obtain ⟨w', g, e, hp⟩ := h
  refine ⟨w', g, ?_, hp⟩
  unfold d_labels_ahead; rw [fnDen_ap]; unfold b_labels_ahead
  simp -implicitDefEqProofs only [List.map_cons, List.map_nil, List.length_cons, List.length_nil, Nat.reduceAdd, Nat.reduceSub, List.replicate_succ, List.replicate_zero, List.cons_append, List.nil_append, sSeq_ap, sIf_ap, dNot_ap, dBool_ap, dCall_ap, dCons_ap, dNil_ap, dVar_ap, List.getElem?_cons_zero, List.getElem?_cons_succ, Res.bind_ok, Res.bind_err, kCons1_ap, kCons2_ap, kCall_2, e, Res.then_err, RsS.next_er, fnR_err]
theorem common_1 (h : Pic T w u) (hn : nameB u = false) : Refuses (d_common [w, b]) u T := two_1 rfl h hn
theorem common_2 (hl : NOk l) (h : Pic T w u) (hn : nameB u = false) : Refuses (d_common [tN l, w]) u T := two_2 rfl hl h hn
theorem compared_1 (h : Pic T w u) (hn : nameB u = false) : Refuses (d_compared [w, b]) u T := two_1 rfl h hn
theorem compared_2 (hl : NOk l) (h : Pic T w u) (hn : nameB u = false) : Refuses (d_compared [tN l, w]) u T := two_2 rfl hl h hn
theorem size_1 (h : Pic T w u) (hn : nameB u = false) : Refuses (d_size [w]) u T := by
  obtain ⟨w', g, e, hp⟩ := chkE (k := 0) (env := [some w]) rfl h hn
  refine ⟨w', g, ?_, hp⟩
  unfold d_size; rw [fnDen_ap]; unfold b_size
  show fnR T (sSeq _ _ [some w] T) = _
  rw [seq_er e, fnR_err]
/-- names, then one that is none -/
theorem checks_bad {q : Nat} {L : List Nm} {rest : List W} (hq : T[q]? = some (.lst (L.map tN ++ w :: rest))) (hL : ∀ l ∈ L, NOk l) (h : Pic T w u) (hn : nameB u = false) : Refuses (d_check_names [.loc q]) u T := by
  have it := itOf_loc hq
  obtain ⟨w', g, e, hp, _⟩ := check_bad h hn
  refine ⟨w', g, ?_, hp⟩
  have hc : (ItW.mk (L.map tN ++ w :: rest) (some q)).Chk T := by simpa using hq
  have key : ∀ (M : List Nm) (c1 : Option W), (∀ l ∈ M, NOk l) → ∃ env', forW (ItW.mk (L.map tN ++ w :: rest) (some q)).Chk (tName 1) cB (M.map tN ++ w :: rest) [some (.loc q), c1] T = .err "InvalidName" w' env' (T ++ g) := fun M => by
    generalize (ItW.mk (L.map tN ++ w :: rest) (some q)).Chk = chk at hc ⊢
    induction M with
    | nil =>
      intro c1 _
      have hb : cB [some (.loc q), some w] T = .err "InvalidName" w' [some (.loc q), some w] (T ++ g) := by
        unfold cB
        simp -implicitDefEqProofs only [sExpr_ap, dCall_ap, dCons_ap, dNil_ap, dVar_ap, List.getElem?_cons_zero, List.getElem?_cons_succ, Res.bind_ok, kCons1_ap, kCons2_ap, kCall_1, e, Res.then_err]
      refine ⟨[some (.loc q), some w], ?_⟩
      show forW _ _ _ (w :: rest) _ _ = _
      unfold forW
      rw [if_pos hc]
      simp only [tName_ap, List.set_cons_succ, List.set_cons_zero, hb]
    | cons a M ih =>
      intro c1 hM
      obtain ⟨env', e'⟩ := ih (some (tN a)) fun l hl => hM l (List.mem_cons_of_mem _ hl)
      have ca := (hM a List.mem_cons_self).check (st := T)
      have hb : cB [some (.loc q), some (tN a)] T = .go .nx [some (.loc q), some (tN a)] T := by
        generalize tN a = A at *
        unfold cB
        simp -implicitDefEqProofs only [sExpr_ap, dCall_ap, dCons_ap, dNil_ap, dVar_ap, List.getElem?_cons_zero, List.getElem?_cons_succ, Res.bind_ok, kCons1_ap, kCons2_ap, kCall_1, ca, Res.then_ok, kExpr_ap]
      refine ⟨env', ?_⟩
      rw [List.map_cons, List.cons_append]
      unfold forW
      rw [if_pos hc]
      simp only [tName_ap, List.set_cons_succ, List.set_cons_zero, hb]
      exact e'
  obtain ⟨env', e'⟩ := key L none hL
  unfold d_check_names; rw [fnDen_ap]
  simp -implicitDefEqProofs only [List.map_cons, List.map_nil, List.length_cons, List.length_nil, Nat.reduceAdd, Nat.reduceSub, List.replicate_succ, List.replicate_zero, List.cons_append, List.nil_append]
  have body : b_check_names [some (.loc q), none] T = .err "InvalidName" w' env' (T ++ g) := by
    show sFor (dIt (dVar 0)) (tName 1) cB _ _ = _
    rw [sFor_ap]
    simp -implicitDefEqProofs only [dIt_ap, dVar_ap, List.getElem?_cons_zero, List.getElem?_cons_succ, Res.bind_ok, it, Res.then_ok, kFor]
    exact e'
  rw [body, fnR_err]
/-- a def that looks at its names first -/
theorem names_r {k : Nat} {B rest : DS} {ws : List W} {q : Nat} (hB : B = sSeq (sExpr (dCall 1 d_check_names (dCons (dVar 0) dNil))) rest) (hw : ws[0]? = some (.loc q)) (h : Refuses (d_check_names [.loc q]) u T) : Refuses (fnDen k B ws) u T := by
  obtain ⟨w', g, e, hp⟩ := h
  refine ⟨w', g, ?_, hp⟩
  have he : (ws.map some ++ List.replicate (k - ws.length) none)[0]? = some (some (.loc q)) := by
    cases ws with
    | nil => simp at hw
    | cons a r => simp at hw; subst hw; rfl
  have h1 : sExpr (dCall 1 d_check_names (dCons (dVar 0) dNil)) (ws.map some ++ List.replicate (k - ws.length) none) T = .err "InvalidName" w' (ws.map some ++ List.replicate (k - ws.length) none) (T ++ g) := by
    generalize ws.map some ++ List.replicate (k - ws.length) none = env at *
    simp -implicitDefEqProofs only [sExpr_ap, dCall_ap, dCons_ap, dNil_ap, dVar_ap, he, Res.bind_ok, kCons1_ap, kCons2_ap, kCall_1, e, Res.then_err]
  rw [fnDen_ap, hB, seq_er h1, fnR_err]
theorem neigh_1 {q : Nat} (h : Refuses (d_check_names [.loc q]) u T) : Refuses (d_neighbours [.loc q, b]) u T := names_r nb_eq rfl h
theorem ordered_1 {q : Nat} (h : Refuses (d_check_names [.loc q]) u T) : Refuses (d_ordered [.loc q]) u T := names_r rfl rfl h
theorem first_1 {q : Nat} (h : Refuses (d_check_names [.loc q]) u T) : Refuses (d_first [.loc q]) u T := names_r rfl rfl h
theorem neigh_2 {q : Nat} {L : List Nm} (hq : T[q]? = some (.lst (L.map tN))) (hL : ∀ l ∈ L, NOk l) (h : Pic T w u) (hn : nameB u = false) : Refuses (d_neighbours [.loc q, w]) u T := by
  have ck := checks_ok hq hL
  obtain ⟨w', g, e, hp⟩ := chkE (k := 1) (env := [some (.loc q), some w, none, none, none]) rfl h hn
  refine ⟨w', g, ?_, hp⟩
  have h1 : sExpr (dCall 1 d_check_names (dCons (dVar 0) dNil)) [some (.loc q), some w, none, none, none] T = .go .nx [some (.loc q), some w, none, none, none] T := by
    simp -implicitDefEqProofs only [sExpr_ap, dCall_ap, dCons_ap, dNil_ap, dVar_ap, List.getElem?_cons_zero, Res.bind_ok, kCons1_ap, kCons2_ap, kCall_1, ck, Res.then_ok, kExpr_ap]
  unfold d_neighbours; rw [fnDen_ap, nb_eq]
  show fnR T (sSeq _ _ [some (.loc q), some w, none, none, none] T) = _
  rw [seq_go h1 rfl, seq_er e, fnR_err]
/-! ### the law's refused -/
def fcall : Nat → W → W → Store → Res W
  | 0, a, b => d_is_under [a, b]
  | 1, a, b => d_labels_ahead [a, b]
  | 2, a, b => d_common [a, b]
  | 3, a, b => d_compared [a, b]
  | 4, a, b => d_neighbours [a, b]
  | 5, a, _ => d_ordered [a]
  | 6, a, _ => d_first [a]
  | _, a, _ => d_size [a]
theorem rB_ok {k : Nat} {a b w' : W} {c3 c4 : Option W} {U V : Store} (hk : k ≤ 7) (h : fcall k a b U = .err "InvalidName" w' V) : rB [some (.int (k : Int)), some a, some b, c3, c4] U = .err "InvalidName" w' [some (.int (k : Int)), some a, some b, c3, c4] V := by
  match k, hk, h with
  | 0, _, h =>
    have h' : d_is_under [a, b] U = .err "InvalidName" w' V := h
    unfold rB
    simp -implicitDefEqProofs [h', eqW_int]
  | 1, _, h =>
    have h' : d_labels_ahead [a, b] U = .err "InvalidName" w' V := h
    unfold rB
    simp -implicitDefEqProofs [h', eqW_int]
  | 2, _, h =>
    have h' : d_common [a, b] U = .err "InvalidName" w' V := h
    unfold rB
    simp -implicitDefEqProofs [h', eqW_int]
  | 3, _, h =>
    have h' : d_compared [a, b] U = .err "InvalidName" w' V := h
    unfold rB
    simp -implicitDefEqProofs [h', eqW_int]
  | 4, _, h =>
    have h' : d_neighbours [a, b] U = .err "InvalidName" w' V := h
    unfold rB
    simp -implicitDefEqProofs [h', eqW_int]
  | 5, _, h =>
    have h' : d_ordered [a] U = .err "InvalidName" w' V := h
    unfold rB
    simp -implicitDefEqProofs [h', eqW_int]
  | 6, _, h =>
    have h' : d_first [a] U = .err "InvalidName" w' V := h
    unfold rB
    simp -implicitDefEqProofs [h', eqW_int]
  | 7, _, h =>
    have h' : d_size [a] U = .err "InvalidName" w' V := h
    unfold rB
    simp -implicitDefEqProofs [h', eqW_int]
theorem refused_ok {k : Nat} {a b : W} (hk : k ≤ 7) (hF : Refuses (fcall k a b) u (T ++ [.lst []])) : ∃ q g w', d__law_refused [.int (k : Int), a, b] T = .ok (.loc q) (T ++ g) ∧ (T ++ g)[q]? = some (.lst [w', .bl false]) ∧ Pic (T ++ g) w' u := by
  obtain ⟨w', g, e, hp⟩ := hF
  obtain ⟨U, hU⟩ : ∃ U, U = T ++ [Ob.lst []] := ⟨_, rfl⟩
  rw [← hU] at e hp
  have kl : kLst [] T = .ok (.loc T.length) U := by rw [hU]; exact lst5 (by simp)
  obtain ⟨V, hV⟩ : ∃ V, V = U ++ g ++ [Ob.lst [w', .bl false]] := ⟨_, rfl⟩
  have kl2 : kLst [w', .bl false] (U ++ g) = .ok (.loc (U ++ g).length) V := by rw [hV]; exact lst5 (by simp)
  have hVs : V = T ++ ([Ob.lst []] ++ g ++ [Ob.lst [w', .bl false]]) := by rw [hV, hU]; simp
  have rb := rB_ok (c3 := some (.loc T.length)) (c4 := none) hk e
  have f1 : sAsg (dLst dNil) (tName 3) [some (.int (k : Int)), some a, some b, none, none] T = .go .nx [some (.int (k : Int)), some a, some b, some (.loc T.length), none] U := by
    simp -implicitDefEqProofs only [sAsg_ap, dLst_ap, dNil_ap, Res.bind_ok, kl, Res.then_ok, kAsg_n, List.set_cons_succ, List.set_cons_zero]
  have hsub : rSub "InvalidName" = some true := by unfold rSub; decide +kernel
  have x1 : ∀ env st, dIsExc [("TreeError", false), ("InvalidName", false), ("OutOfZone", true), ("Unreadable", false)] "InvalidName" env st = .ok (.bl false) st := fun env st => by
    unfold dIsExc
    rw [show List.lookup ("InvalidName" : Str) ([("TreeError", false), ("InvalidName", false), ("OutOfZone", true), ("Unreadable", false)] : List (Str × Bool)) = some false from by decide +kernel]
  have x2 : ∀ env st, dIsExc [("TreeError", false), ("InvalidName", false), ("OutOfZone", false), ("Unreadable", true)] "InvalidName" env st = .ok (.bl false) st := fun env st => by
    unfold dIsExc
    rw [show List.lookup ("InvalidName" : Str) ([("TreeError", false), ("InvalidName", false), ("OutOfZone", false), ("Unreadable", true)] : List (Str × Bool)) = some false from by decide +kernel]
  have f2 : sTryAs 4 rB rSub rSu [some (.int (k : Int)), some a, some b, some (.loc T.length), none] U = .go .nx [some (.int (k : Int)), some a, some b, some (.loc (U ++ g).length), none] V := by
    rw [sTryAs_ap, rb, kTry_err hsub (by simp)]
    unfold rSu
    simp -implicitDefEqProofs only [sAsg_ap, dLst_ap, dCons_ap, dExc_ap, dOrV_ap, x1, x2, dNil_ap, Res.bind_ok, kOrV_f, kCons1_ap, kCons2_ap, kl2, Res.then_ok, kAsg_n, List.set_cons_succ, List.set_cons_zero, unAt_go]
  have gV : (T ++ ([Ob.lst []] ++ g ++ [Ob.lst [w', .bl false]]))[(U ++ g).length]? = some (.lst [w', .bl false]) := by rw [← hVs, hV]; simp
  obtain ⟨q, g', G, Gq, hc⟩ := gc_any (m := (U ++ g).length) (by rw [hU]; simp) gV
  have hpV : Pic (T ++ ([Ob.lst []] ++ g ++ [Ob.lst [w', .bl false]])) w' u := by rw [← hVs, hV]; exact hp.app _
  refine ⟨q, g', w', ?_, Gq, ?_⟩
  · unfold d__law_refused; rw [fnDen_ap, ref_eq]
    show fnR T (sSeq _ _ [some (.int (k : Int)), some a, some b, none, none] T) = _
    rw [seq_go f1 rfl, seq_go f2 rfl]
    show fnR T (.go (.rt (.loc (U ++ g).length)) _ V) = _
    rw [fnR_rt, hVs, G]
  · rcases hc with hc | rfl
    · exact pic_cl hpV (by simpa [clBs, clB] using hc)
    · exact hpV
theorem two_list {q : Nat} (g : T[q]? = some (.lst [w, .bl false])) (h : Pic T w u) : datF T 66 (.loc q) = some (.list [dU u, .bool false]) ∧ SeqAt.shaped (.list [dU u, .bool false]) = true := by
  refine ⟨?_, shaped_of ⟨?_, ?_⟩⟩
  · simp only [datF, g]
    show (allO [datF T 65 w, some (.bool false)]).map PyData.list = _
    rw [h.dat 65 (by decide)]; rfl
  · rw [PyData.canLay0, PyData.canLayAll0, PyData.canLayAll0, PyData.canLayAll0, h.shp.1]
    simp [PyData.canLay0]
  · rw [PyData.depth, PyData.depthAll, PyData.depthAll, PyData.depthAll]
    have h1 := h.shp.2
    have h2 : (PyData.bool false).depth ≤ 1 := by simp [PyData.depth]
    have := Nat.max_le.mpr ⟨h1, Nat.max_le.mpr ⟨Nat.le_trans h2 (by decide : 1 ≤ 6), (by decide : 0 ≤ 6)⟩⟩
    omega
/-- refused, as it is due -/
theorem due_ok {k D : Nat} {a b z : W} (hk : k ≤ 7) (hF : Refuses (fcall k a b) u (T ++ [.lst []])) (hD : T[D]? = some (.lst [z, .bl false])) (hz : Pic T z u) :
    ∃ q g, d__law_refused [.int (k : Int), a, b] T = .ok (.loc q) (T ++ g) ∧ neW (.loc q) (.loc D) (T ++ g) = .ok (.bl false) (T ++ g) ∧ eqW (.loc q) (.loc D) (T ++ g) = .ok (.bl true) (T ++ g) := by
  obtain ⟨q, g, w', e, gq, hp⟩ := refused_ok hk hF
  obtain ⟨d1, s1⟩ := two_list gq hp
  obtain ⟨d2, s2⟩ := two_list (get_app g hD) (hz.app g)
  have eq : (PyData.list [dU u, .bool false]).eqv (.list [dU u, .bool false]) = true := by
    rw [PyData.eqv.eq_7, PyData.eqvAll.eq_2, PyData.eqvAll.eq_2, PyData.eqvAll.eq_1, hz.refl, PyData.eqv]; rfl
  have n := neW_of d1 d2 s1 s2
  have y := eqW_of d1 d2 s1 s2
  rw [eq] at n y
  exact ⟨q, g, e, n, y⟩
end
end
end K02
namespace K02
open PySem PySem.Spec PyProof.Rows L2 MP
open Classical
noncomputable section
section
variable {p n q : Nat} {S T : Store} {xs : List (List Nat)} {t c3 c4 c5 c6 c7 c8 : Option W}
theorem drawP (P : PotA p n T) (hq : T[q]? = some (.lst (xs.map tW))) (hpq : p ≠ q) (h1 : 1 ≤ xs.length) (h6 : xs.length ≤ 6) (hpl : ∀ x ∈ xs, PL x) (hn : n + 100 ≤ 1000000) : ∃ (x y : Nm) (T' : Store), NOk x ∧ NOk y ∧ PotA p (n + 50) T' ∧ Kp p T T' ∧
    ∀ rest : DS, (sSeq PR1b1 (sSeq PR1b2 (sSeq PR1b3 rest))) [some (.loc p), some (.loc q), t, c3, c4, c5, c6, c7, c8] T = rest [some (.loc p), some (.loc q), t, c3, c4, c5, c6, some (tN x), some (tN y)] T' := by
  obtain ⟨x, s1, e1, hx, P1, K1⟩ := name_draw P hq hpq h1 h6 hpl (by omega)
  have q1 : s1[q]? = some (.lst (xs.map tW)) := by rw [K1.keep _ (Ne.symm hpq)]; exact hq
  obtain ⟨y, s2, e2, hy, P2, K2⟩ := name_draw P1 q1 hpq h1 h6 hpl (by omega)
  have b1 : PR1b1 [some (.loc p), some (.loc q), t, c3, c4, c5, c6, c7, c8] T = .go .nx [some (.loc p), some (.loc q), t, c3, c4, c5, c6, some (tN x), some (tN y)] s2 := by
    generalize tN x = X at *
    generalize tN y = Y at *
    unfold PR1b1
    simp -implicitDefEqProofs only [sPar_ap, dCons_ap, dNil_ap, dCall_ap, dVar_ap, List.getElem?_cons_zero, List.getElem?_cons_succ, Res.bind_ok, kCons1_ap, kCons2_ap, kCall_2, e1, e2, Res.then_ok, kPar_ap, List.set_cons_succ, List.set_cons_zero]
  obtain ⟨r, s3, e3, r0, r1, P3, K3⟩ := take_ok (m := 3) P2 (by omega) (by decide) (by decide)
  obtain ⟨y', s4, hy', P4, K4, b2⟩ : ∃ (y' : Nm) (s4 : Store), NOk y' ∧ PotA p (n + 20 + 20 + 2) s4 ∧ Kp p s2 s4 ∧ PR1b2 [some (.loc p), some (.loc q), t, c3, c4, c5, c6, some (tN x), some (tN y)] s2 = .go .nx [some (.loc p), some (.loc q), t, c3, c4, c5, c6, some (tN x), some (tN y')] s4 := by
    by_cases z : r = 0
    · subst z
      have ln := lenN (l := x) (st := s3)
      have ad : addW (.int (x.length : Int)) (.int 1) s3 = .ok (.int ((x.length : Int) + 1)) s3 := rfl
      obtain ⟨j, s4, e4, j0, j1, P4, K4⟩ := take_ok (m := (x.length : Int) + 1) P3 (by omega) (by omega) (by have := hx.s.len; omega)
      obtain ⟨i, rfl⟩ : ∃ i : Nat, j = (i : Int) := ⟨j.toNat, by omega⟩
      have sl := slf (l := x) (i := i) (st := s4)
      refine ⟨x.drop i, s4, hx.drop i, P4, K3.trans K4, ?_⟩
      generalize tN (x.drop i) = C at *
      generalize (i : Int) = I at *
      generalize (x.length : Int) = L1 at *
      generalize tN x = X at *
      generalize tN y = Y at *
      unfold PR1b2 PR1b2c PR1b2a
      simp -implicitDefEqProofs only [sIf_ap, dBool_ap, dOp_ap, dCall_ap, dCons_ap, dNil_ap, dVar_ap, dC_ap, List.getElem?_cons_zero, List.getElem?_cons_succ, Res.bind_ok, kCons1_ap, kCons2_ap, kCall_2, e3, kOp1_ap, eqW_int, beq_self_eq_true, kBool_ap, Res.then_ok, kSIf_t, sAsg_ap, dSl_ap, dPart_ap, dApp_ap, ln, ad, e4, kPart_ap, kSl1_ap, kSl2_ap, dNoPart_ap, sl, kAsg_n, List.set_cons_succ, List.set_cons_zero]
    · have q0 : (r == 0) = false := beq_false_of_ne z
      refine ⟨y, s3, hy, P3.mono (by omega), K3, ?_⟩
      generalize tN x = X at *
      generalize tN y = Y at *
      unfold PR1b2 PR1b2c
      simp -implicitDefEqProofs only [sIf_ap, dBool_ap, dOp_ap, dCall_ap, dCons_ap, dNil_ap, dVar_ap, dC_ap, List.getElem?_cons_zero, List.getElem?_cons_succ, Res.bind_ok, kCons1_ap, kCons2_ap, kCall_2, e3, kOp1_ap, eqW_int, q0, kBool_ap, Res.then_ok, kSIf_f, sNil_ap]
  obtain ⟨r, s5, e5, r0, r1, P5, K5⟩ := take_ok (m := 6) P4 (by omega) (by decide) (by decide)
  have KK : Kp p T s5 := ((K1.trans K2).trans K4).trans K5
  by_cases z : r = 0
  · subst z
    have b3 : PR1b3 [some (.loc p), some (.loc q), t, c3, c4, c5, c6, some (tN x), some (tN y')] s4 = .go .nx [some (.loc p), some (.loc q), t, c3, c4, c5, c6, some (tN y'), some (tN x)] s5 := by
      generalize tN x = X at *
      generalize tN y' = Y at *
      unfold PR1b3 PR1b3c PR1b3a
      simp -implicitDefEqProofs only [sIf_ap, dBool_ap, dOp_ap, dCall_ap, dCons_ap, dNil_ap, dVar_ap, dC_ap, List.getElem?_cons_zero, List.getElem?_cons_succ, Res.bind_ok, kCons1_ap, kCons2_ap, kCall_2, e5, kOp1_ap, eqW_int, beq_self_eq_true, kBool_ap, Res.then_ok, kSIf_t, sPar_ap, kPar_ap, List.set_cons_succ, List.set_cons_zero]
    exact ⟨y', x, s5, hy', hx, P5.mono (by omega), KK, fun rest => by rw [seq_go b1 rfl, seq_go b2 rfl, seq_go b3 rfl]⟩
  · have q0 : (r == 0) = false := beq_false_of_ne z
    have b3 : PR1b3 [some (.loc p), some (.loc q), t, c3, c4, c5, c6, some (tN x), some (tN y')] s4 = .go .nx [some (.loc p), some (.loc q), t, c3, c4, c5, c6, some (tN x), some (tN y')] s5 := by
      generalize tN x = X at *
      generalize tN y' = Y at *
      unfold PR1b3 PR1b3c
      simp -implicitDefEqProofs only [sIf_ap, dBool_ap, dOp_ap, dCall_ap, dCons_ap, dNil_ap, dVar_ap, dC_ap, List.getElem?_cons_zero, List.getElem?_cons_succ, Res.bind_ok, kCons1_ap, kCons2_ap, kCall_2, e5, kOp1_ap, eqW_int, q0, kBool_ap, Res.then_ok, kSIf_f, sNil_ap]
    exact ⟨x, y', s5, hx, hy', P5.mono (by omega), KK, fun rest => by rw [seq_go b1 rfl, seq_go b2 rfl, seq_go b3 rfl]⟩
theorem pairs_ok (P : PotA p n S) (hq : S[q]? = some (.lst (xs.map tW))) (hpq : p ≠ q) (h1 : 1 ≤ xs.length) (h6 : xs.length ≤ 6) (hpl : ∀ x ∈ xs, PL x) (hn : n + 500 ≤ 1000000) :
    ∃ S', d__law_pairs_right [.loc p, .loc q] S = .ok (.bl true) S' ∧ PotA p (n + 400) S' ∧ Kp p S S' := by
  have hlt := P.lt
  have hr := kR1_ok (st := S) (j := 6) (by decide) (by decide)
  obtain ⟨env', S', e, _, PS, KS⟩ := forW_ok (chk := (ItW.mk (intsW 0 (6 : Int).toNat) none).Chk) (t := tName 2) (b := PR1b)
    (fun i env T => (∃ c2 c3 c4 c5 c6 c7 c8, env = [some (.loc p), some (.loc q), c2, c3, c4, c5, c6, c7, c8]) ∧ PotA p (n + 50 * i) T ∧ Kp p S T) (fun _ _ _ _ => by simp) (intsW 0 (6 : Int).toNat) 0 [some (.loc p), some (.loc q), none, none, none, none, none, none, none] S
    (fun i w env T hw hI => by
      obtain ⟨⟨c2, c3, c4, c5, c6, c7, c8, rfl⟩, hP, hK⟩ := hI
      have hi : i < 6 := (ints_get hw).1
      rw [Nat.zero_add] at *
      have qT : T[q]? = some (.lst (xs.map tW)) := by rw [hK.keep _ (Ne.symm hpq)]; exact hq
      obtain ⟨x, y, T', hx, hy, P', K', ed⟩ := drawP (t := some w) (c3 := c3) (c4 := c4) (c5 := c5) (c6 := c6) (c7 := c7) (c8 := c8) hP qT hpq h1 h6 hpl (by omega)
      obtain ⟨d3, d4, d5, d6, ep⟩ := pureP (p := p) (q := q) (T := T') (t := some w) (c3 := c3) (c4 := c4) (c5 := c5) (c6 := c6) hx hy
      have eb : PR1b [some (.loc p), some (.loc q), some w, c3, c4, c5, c6, c7, c8] T = .go .nx [some (.loc p), some (.loc q), some w, d3, d4, d5, d6, some (tN x), some (tN y)] T' := by
        unfold PR1b
        rw [ed]; exact ep
      exact ⟨_, _, _, _, rfl, eb, ⟨_, _, _, _, _, _, _, rfl⟩, P'.mono (by omega), hK.trans K'⟩) ⟨⟨none, none, none, none, none, none, none, rfl⟩, by simpa using P, .refl⟩
  have hlen : (intsW 0 (6 : Int).toNat).length = 6 := rfl
  rw [hlen] at PS
  have G := gc_pot (v := .bl true) KS.ext PS hlt rfl
  refine ⟨_, ?_, G.2.2.mono (by omega), G.2.1⟩
  unfold d__law_pairs_right; rw [fnDen_ap, PR_eq]
  simp -implicitDefEqProofs only [List.map_cons, List.map_nil, List.length_cons, List.length_nil, Nat.reduceAdd, Nat.reduceSub, List.replicate_succ, List.replicate_zero, List.cons_append, List.nil_append]
  have h1 : PR1 [some (.loc p), some (.loc q), none, none, none, none, none, none, none] S = .go .nx env' S' := by
    unfold PR1
    rw [sFor_ap]
    simp -implicitDefEqProofs only [dRange1_ap, dCons_ap, dC_ap, dNil_ap, Res.bind_ok, kCons1_ap, kCons2_ap, hr, Res.then_ok, kFor]
    exact e
  rw [seq_go h1 rfl]
  show fnR S (.go (.rt (.bl true)) env' S') = _
  rw [fnR_rt]
  exact G.1
end
end
end K02
namespace K02
open PySem PySem.Spec PyProof.Rows L2 MP
open Classical
noncomputable section
def RR1 : DS := (sAsg (dLc (dRange1 (dCons (dOp addW (dC (.int 1)) (dCall 2 d__law_take (dCons (dVar 0) (dCons (dC (.int 4)) dNil)))) dNil)) [9] (tName 9) dYes (dCall 2 d__law_name (dCons (dVar 0) (dCons (dVar 1) dNil)))) (tName 2))
def RR2 : DS := (sPar 7 8 (dCons (dCall 1 d__law_odd (dCons (dVar 0) dNil)) (dCons (dCall 1 d__law_odd (dCons (dVar 0) dNil)) dNil)))
def RR3 : DS := (sAsg (dLst (dCons (dVar 7) (dCons (dC (.bl false)) dNil))) (tName 3))
def RR4 : DS := (sAsg (dCall 2 d__law_take (dCons (dVar 0) (dCons (dOp addW (dApp lenW (dCons (dVar 2) dNil)) (dC (.int 1))) dNil))) (tName 4))
def RR5 : DS := (sAsg (dOp addW (dOp addW (dOp addW (dSl (dVar 2) dNoPart (dPart (dVar 4))) (dLst (dCons (dVar 7) dNil))) (dSl (dLst (dCons (dOp ixW (dVar 2) (dC (.int 0))) (dCons (dVar 8) dNil))) (dPart (dCall 2 d__law_take (dCons (dVar 0) (dCons (dC (.int 2)) dNil)))) dNoPart)) (dSl (dVar 2) (dPart (dVar 4)) dNoPart)) (tName 5))
def RR6b1c : D Bool := (dOr (dBool (dOp neW (dCall 3 d__law_refused (dCons (dVar 6) (dCons (dVar 7) (dCons (dOp ixW (dVar 2) (dC (.int 0))) dNil)))) (dVar 3))) (dBool (dOp neW (dCall 3 d__law_refused (dCons (dVar 6) (dCons (dOp ixW (dVar 2) (dC (.int 0))) (dCons (dVar 7) dNil)))) (dVar 3))))
def RR6b1a : DS := (sRet (dC (.bl false)))
def RR6b1 : DS := sIf RR6b1c RR6b1a sNil
def RR6b2c : D Bool := (dBool (dOp neW (dCall 3 d__law_refused (dCons (dVar 6) (dCons (dVar 7) (dCons (dVar 8) dNil)))) (dVar 3)))
def RR6b2a : DS := (sRet (dC (.bl false)))
def RR6b2 : DS := sIf RR6b2c RR6b2a sNil
def RR6b : DS := (sSeq RR6b1 RR6b2)
def RR6 : DS := sFor (dRange1 (dCons (dC (.int 4)) dNil)) (tName 6) RR6b
def RR7c : D Bool := (dOr (dBool (dOp neW (dCall 3 d__law_refused (dCons (dC (.int 4)) (dCons (dVar 5) (dCons (dVar 8) dNil)))) (dVar 3))) (dBool (dOp neW (dCall 3 d__law_refused (dCons (dC (.int 4)) (dCons (dVar 2) (dCons (dVar 7) dNil)))) (dVar 3))))
def RR7a : DS := (sRet (dC (.bl false)))
def RR7 : DS := sIf RR7c RR7a sNil
def RR8 : DS := (sRet (dAndV (dApp allW (dCons (dLc (dRange2 (dCons (dC (.int 5)) (dCons (dC (.int 7)) dNil))) [6] (tName 6) dYes (dOp eqW (dCall 3 d__law_refused (dCons (dVar 6) (dCons (dVar 5) (dCons (dTup dNil) dNil)))) (dVar 3))) dNil)) (dOp eqW (dCall 3 d__law_refused (dCons (dC (.int 7)) (dCons (dVar 7) (dCons (dTup dNil) dNil)))) (dVar 3))))
theorem RR_eq : b__law_refusals_right = (sSeq RR1 (sSeq RR2 (sSeq RR3 (sSeq RR4 (sSeq RR5 (sSeq RR6 (sSeq RR7 RR8))))))) := rfl
theorem kCall_3 {f : List W → Store → Res W} {a b c : W} {st : Store} : kCall 3 f [a, b, c] st = f [a, b, c] st := rfl
theorem pic_ext {p : Nat} {A B : Store} {w u : W} (h : Pic A w u) (X : Ext p A B) (hw : ∀ k, w = .loc k → k ≠ p) : Pic B w u := by
  cases h with
  | pu _ h => exact .pu _ h
  | ls k ws h hl hp => exact .ls k ws (X.get h (hw k rfl)) hl hp
theorem ref1 {k : Nat} {w u b : W} {T : Store} (hk : k < 4) (h : Pic T w u) (hn : nameB u = false) : Refuses (fcall k w b) u T := by
  match k, hk with
  | 0, _ => exact under_1 h hn
  | 1, _ => exact labels_r (under_1 h hn)
  | 2, _ => exact common_1 h hn
  | 3, _ => exact compared_1 h hn
theorem ref2 {k : Nat} {l : Nm} {w u : W} {T : Store} (hk : k < 4) (hl : NOk l) (h : Pic T w u) (hn : nameB u = false) : Refuses (fcall k (tN l) w) u T := by
  match k, hk with
  | 0, _ => exact under_2 hl h hn
  | 1, _ => exact labels_r (under_2 hl h hn)
  | 2, _ => exact common_2 hl h hn
  | 3, _ => exact compared_2 hl h hn
section
variable {D Gp Sm : Nat} {T Z : Store} {w1 u1 w2 u2 a b : W} {L : List Nm} {rest : List W}
theorem neD {k : Nat} {args : MP.D (List W)} {env : EnvW} (hk : k ≤ 7) (hF : Refuses (fcall k a b) u1 (T ++ [.lst []])) (hD : T[D]? = some (.lst [w1, .bl false])) (hz : Pic T w1 u1) (ha : args env T = .ok [.int (k : Int), a, b] T) (h3 : env[3]? = some (some (.loc D))) :
    ∃ g, dBool (dOp neW (dCall 3 d__law_refused args) (dVar 3)) env T = .ok false (T ++ g) ∧ dOp eqW (dCall 3 d__law_refused args) (dVar 3) env T = .ok (.bl true) (T ++ g) := by
  obtain ⟨q, g, e, ne, eq⟩ := due_ok hk hF hD hz
  refine ⟨g, ?_, ?_⟩
  · simp -implicitDefEqProofs only [dBool_ap, dOp_ap, dCall_ap, ha, Res.bind_ok, kCall_3, e, kOp1_ap, dVar_ap, h3, ne, kBool_ap]
  · simp -implicitDefEqProofs only [dOp_ap, dCall_ap, ha, Res.bind_ok, kCall_3, e, kOp1_ap, dVar_ap, h3, eq]
/-- what stands behind the draws -/
structure Held (D Gp Sm : Nat) (Z : Store) (w1 u1 w2 u2 : W) (L L1 : List Nm) (rest : List W) : Prop where
  g : Z[Gp]? = some (.lst (L.map tN))
  d : Z[D]? = some (.lst [w1, .bl false])
  s : Z[Sm]? = some (.lst (L1.map tN ++ w1 :: rest))
  p1 : Pic Z w1 u1
  p2 : Pic Z w2 u2
  n1 : nameB u1 = false
  n2 : nameB u2 = false
  l : ∀ l ∈ L, NOk l
  l1 : ∀ l ∈ L1, NOk l
  ne : L ≠ []
theorem Held.app {L1 : List Nm} (h : Held D Gp Sm Z w1 u1 w2 u2 L L1 rest) (g : Store) : Held D Gp Sm (Z ++ g) w1 u1 w2 u2 L L1 rest :=
  ⟨get_app g h.g, get_app g h.d, get_app g h.s, h.p1.app g, h.p2.app g, h.n1, h.n2, h.l, h.l1, h.ne⟩
variable {L1 : List Nm} {e0 e1 e4 e6 : Option W} {p q : Nat}
/-- the ways with two names -/
theorem rr6b_ok (H : Held D Gp Sm Z w1 u1 w2 u2 L L1 rest) {k : Nat} (hk : k < 4) : ∃ g, RR6b [some (.loc p), some (.loc q), some (.loc Gp), some (.loc D), e4, some (.loc Sm), some (.int (k : Int)), some w1, some w2, none] Z = .go .nx [some (.loc p), some (.loc q), some (.loc Gp), some (.loc D), e4, some (.loc Sm), some (.int (k : Int)), some w1, some w2, none] (Z ++ g) := by
  obtain ⟨l0, r, hL⟩ : ∃ l0 r, L = l0 :: r := by
    cases h : L with
    | nil => exact absurd h H.ne
    | cons a r => exact ⟨a, r, rfl⟩
  have hl0 : NOk l0 := H.l l0 (by rw [hL]; exact List.mem_cons_self)
  have ix : ∀ g : Store, ixW (.loc Gp) (.int 0) (Z ++ g) = .ok (tN l0) (Z ++ g) := fun g => ixL (j := 0) (get_app g H.g) (by rw [hL]; rfl)
  -- bad, good
  have a1 : (dCons (dVar 6) (dCons (dVar 7) (dCons (dOp ixW (dVar 2) (dC (.int 0))) dNil))) [some (.loc p), some (.loc q), some (.loc Gp), some (.loc D), e4, some (.loc Sm), some (.int (k : Int)), some w1, some w2, none] Z = .ok [.int (k : Int), w1, tN l0] Z := by
    have i := ix []
    rw [List.append_nil] at i
    generalize tN l0 = A at *
    simp -implicitDefEqProofs only [dCons_ap, dNil_ap, dVar_ap, dOp_ap, dC_ap, List.getElem?_cons_zero, List.getElem?_cons_succ, Res.bind_ok, kCons1_ap, kCons2_ap, kOp1_ap, i]
  obtain ⟨g1, c1, _⟩ := neD (by omega) (ref1 (b := tN l0) hk (H.p1.app [.lst []]) H.n1) H.d H.p1 a1 rfl
  have H1 := H.app g1
  have a2 : (dCons (dVar 6) (dCons (dOp ixW (dVar 2) (dC (.int 0))) (dCons (dVar 7) dNil))) [some (.loc p), some (.loc q), some (.loc Gp), some (.loc D), e4, some (.loc Sm), some (.int (k : Int)), some w1, some w2, none] (Z ++ g1) = .ok [.int (k : Int), tN l0, w1] (Z ++ g1) := by
    have i := ix g1
    generalize tN l0 = A at *
    simp -implicitDefEqProofs only [dCons_ap, dNil_ap, dVar_ap, dOp_ap, dC_ap, List.getElem?_cons_zero, List.getElem?_cons_succ, Res.bind_ok, kCons1_ap, kCons2_ap, kOp1_ap, i]
  obtain ⟨g2, c2, _⟩ := neD (by omega) (ref2 hk hl0 (H1.p1.app [.lst []]) H.n1) H1.d H1.p1 a2 rfl
  have H2 := H1.app g2
  have a3 : (dCons (dVar 6) (dCons (dVar 7) (dCons (dVar 8) dNil))) [some (.loc p), some (.loc q), some (.loc Gp), some (.loc D), e4, some (.loc Sm), some (.int (k : Int)), some w1, some w2, none] (Z ++ g1 ++ g2) = .ok [.int (k : Int), w1, w2] (Z ++ g1 ++ g2) := by
    simp -implicitDefEqProofs only [dCons_ap, dNil_ap, dVar_ap, List.getElem?_cons_zero, List.getElem?_cons_succ, Res.bind_ok, kCons1_ap, kCons2_ap]
  obtain ⟨g3, c3, _⟩ := neD (by omega) (ref1 (b := w2) hk (H2.p1.app [.lst []]) H.n1) H2.d H2.p1 a3 rfl
  refine ⟨g1 ++ g2 ++ g3, ?_⟩
  have h1 : RR6b1 [some (.loc p), some (.loc q), some (.loc Gp), some (.loc D), e4, some (.loc Sm), some (.int (k : Int)), some w1, some w2, none] Z = .go .nx [some (.loc p), some (.loc q), some (.loc Gp), some (.loc D), e4, some (.loc Sm), some (.int (k : Int)), some w1, some w2, none] (Z ++ g1 ++ g2) := by
    unfold RR6b1 RR6b1c
    rw [sIf_ap, dOr_ap, c1]
    simp -implicitDefEqProofs only [Res.bind_ok, kOr_f]
    rw [c2]
    simp -implicitDefEqProofs only [Res.then_ok, kSIf_f, sNil_ap]
  have h2 : RR6b2 [some (.loc p), some (.loc q), some (.loc Gp), some (.loc D), e4, some (.loc Sm), some (.int (k : Int)), some w1, some w2, none] (Z ++ g1 ++ g2) = .go .nx [some (.loc p), some (.loc q), some (.loc Gp), some (.loc D), e4, some (.loc Sm), some (.int (k : Int)), some w1, some w2, none] (Z ++ g1 ++ g2 ++ g3) := by
    unfold RR6b2 RR6b2c
    rw [sIf_ap, c3]
    simp -implicitDefEqProofs only [Res.then_ok, kSIf_f, sNil_ap]
  unfold RR6b
  rw [seq_go h1 h2, ← List.append_assoc, ← List.append_assoc]
theorem pureR (H : Held D Gp Sm Z w1 u1 w2 u2 L L1 rest) : ∃ env' g, (sSeq RR6 (sSeq RR7 RR8)) [some (.loc p), some (.loc q), some (.loc Gp), some (.loc D), e4, some (.loc Sm), none, some w1, some w2, none] Z = .go (.rt (.bl true)) env' (Z ++ g) := by
  have hr := kR1_ok (st := Z) (j := 4) (by decide) (by decide)
  obtain ⟨env', Z1, e, ⟨e6, rfl⟩, g, rfl⟩ := forW_ok (chk := (ItW.mk (intsW 0 (4 : Int).toNat) none).Chk) (t := tName 6) (b := RR6b)
    (fun i env T => (∃ e6, env = [some (.loc p), some (.loc q), some (.loc Gp), some (.loc D), e4, some (.loc Sm), e6, some w1, some w2, none]) ∧ ∃ g, T = Z ++ g) (fun _ _ _ _ => by simp) (intsW 0 (4 : Int).toNat) 0 [some (.loc p), some (.loc q), some (.loc Gp), some (.loc D), e4, some (.loc Sm), none, some w1, some w2, none] Z
    (fun i w env T hw hI => by
      obtain ⟨⟨e6, rfl⟩, g, rfl⟩ := hI
      obtain ⟨hi, rfl⟩ := ints_get hw
      rw [Int.zero_add]
      obtain ⟨g', eb⟩ := rr6b_ok (p := p) (q := q) (e4 := e4) (H.app g) (k := i) hi
      exact ⟨_, _, _, _, rfl, eb, ⟨_, rfl⟩, g ++ g', by rw [List.append_assoc]⟩) ⟨⟨none, rfl⟩, [], by simp⟩
  have h6 : RR6 [some (.loc p), some (.loc q), some (.loc Gp), some (.loc D), e4, some (.loc Sm), none, some w1, some w2, none] Z = .go .nx [some (.loc p), some (.loc q), some (.loc Gp), some (.loc D), e4, some (.loc Sm), e6, some w1, some w2, none] (Z ++ g) := by
    unfold RR6
    rw [sFor_ap]
    simp -implicitDefEqProofs only [dRange1_ap, dCons_ap, dC_ap, dNil_ap, Res.bind_ok, kCons1_ap, kCons2_ap, hr, Res.then_ok, kFor]
    exact e
  have H1 := H.app g
  -- 7
  have bad : ∀ T : Store, Held D Gp Sm T w1 u1 w2 u2 L L1 rest → Refuses (d_check_names [.loc Sm]) u1 T := fun T h => checks_bad h.s h.l1 h.p1 h.n1
  have a1 : (dCons (dC (.int 4)) (dCons (dVar 5) (dCons (dVar 8) dNil))) [some (.loc p), some (.loc q), some (.loc Gp), some (.loc D), e4, some (.loc Sm), e6, some w1, some w2, none] (Z ++ g) = .ok [.int ((4 : Nat) : Int), .loc Sm, w2] (Z ++ g) := by
    simp -implicitDefEqProofs only [dCons_ap, dNil_ap, dVar_ap, dC_ap, List.getElem?_cons_zero, List.getElem?_cons_succ, Res.bind_ok, kCons1_ap, kCons2_ap]
    rfl
  obtain ⟨g1, c1, _⟩ := neD (a := .loc Sm) (b := w2) (k := 4) (by decide) (neigh_1 (bad _ (H1.app [.lst []]))) H1.d H1.p1 a1 rfl
  have H2 := H1.app g1
  have a2 : (dCons (dC (.int 4)) (dCons (dVar 2) (dCons (dVar 7) dNil))) [some (.loc p), some (.loc q), some (.loc Gp), some (.loc D), e4, some (.loc Sm), e6, some w1, some w2, none] (Z ++ g ++ g1) = .ok [.int ((4 : Nat) : Int), .loc Gp, w1] (Z ++ g ++ g1) := by
    simp -implicitDefEqProofs only [dCons_ap, dNil_ap, dVar_ap, dC_ap, List.getElem?_cons_zero, List.getElem?_cons_succ, Res.bind_ok, kCons1_ap, kCons2_ap]
    rfl
  obtain ⟨g2, c2, _⟩ := neD (a := .loc Gp) (b := w1) (k := 4) (by decide) (neigh_2 (H2.app [.lst []]).g H.l (H2.app [.lst []]).p1 H.n1) H2.d H2.p1 a2 rfl
  have H3 := H2.app g2
  have h7 : RR7 [some (.loc p), some (.loc q), some (.loc Gp), some (.loc D), e4, some (.loc Sm), e6, some w1, some w2, none] (Z ++ g) = .go .nx [some (.loc p), some (.loc q), some (.loc Gp), some (.loc D), e4, some (.loc Sm), e6, some w1, some w2, none] (Z ++ g ++ g1 ++ g2) := by
    unfold RR7 RR7c
    rw [sIf_ap, dOr_ap, c1]
    simp -implicitDefEqProofs only [Res.bind_ok, kOr_f]
    rw [c2]
    simp -implicitDefEqProofs only [Res.then_ok, kSIf_f, sNil_ap]
  -- 8
  have hr2 := kR2_ok (st := Z ++ g ++ g1 ++ g2) (i := 5) (j := 7) (by decide) (by decide) (by decide) (by decide)
  have tn : ∀ T : Store, kTup [] T = .ok (.tup []) T := fun T => ten (by simp)
  obtain ⟨acc, T8, e8, _, rfl, g3, rfl⟩ := kLc_ok (env := [some (.loc p), some (.loc q), some (.loc Gp), some (.loc D), e4, some (.loc Sm), none, some w1, some w2, none]) (i := 6) (e := (dOp eqW (dCall 3 d__law_refused (dCons (dVar 6) (dCons (dVar 5) (dCons (dTup dNil) dNil)))) (dVar 3))) (st := Z ++ g ++ g1 ++ g2) (ws := intsW 5 ((7 : Int) - 5).toNat)
    (fun i acc T => acc = (List.replicate i ()).map (fun _ => W.bl true) ∧ ∃ g', T = Z ++ g ++ g1 ++ g2 ++ g') (fun i w acc T hw hJ => by
      obtain ⟨rfl, g', rfl⟩ := hJ
      obtain ⟨hi, rfl⟩ := ints_get hw
      have hi2 : i < 2 := hi
      have H4 := H3.app g'
      have ei : (5 : Int) + (i : Int) = ((5 + i : Nat) : Int) := by omega
      rw [ei]
      have aa : (dCons (dVar 6) (dCons (dVar 5) (dCons (dTup dNil) dNil))) (([some (.loc p), some (.loc q), some (.loc Gp), some (.loc D), e4, some (.loc Sm), none, some w1, some w2, none] : EnvW).set 6 (some (.int ((5 + i : Nat) : Int)))) (Z ++ g ++ g1 ++ g2 ++ g') = .ok [.int ((5 + i : Nat) : Int), .loc Sm, .tup []] (Z ++ g ++ g1 ++ g2 ++ g') := by
        have tn' := tn (Z ++ g ++ g1 ++ g2 ++ g')
        generalize Z ++ g ++ g1 ++ g2 ++ g' = Q at *
        generalize ((5 + i : Nat) : Int) = I at *
        simp -implicitDefEqProofs only [dCons_ap, dNil_ap, dVar_ap, dTup_ap, List.set_cons_succ, List.set_cons_zero, List.getElem?_cons_zero, List.getElem?_cons_succ, Res.bind_ok, kCons1_ap, kCons2_ap, tn']
      have rf : Refuses (fcall (5 + i) (.loc Sm) (.tup [])) u1 (Z ++ g ++ g1 ++ g2 ++ g' ++ [.lst []]) := by
        match i, hi2 with
        | 0, _ => exact ordered_1 (bad _ (H4.app [.lst []]))
        | 1, _ => exact first_1 (bad _ (H4.app [.lst []]))
      obtain ⟨g'', _, ce⟩ := neD (k := 5 + i) (by omega) rf H4.d H4.p1 aa rfl
      refine ⟨.bl true, _, ce, ?_, g' ++ g'', by rw [List.append_assoc]⟩
      rw [List.replicate_succ', List.map_append]; rfl) (by decide) ⟨rfl, [], by simp⟩
  have al8 := all_here (st := Z ++ g ++ g1 ++ g2 ++ g3) (l := List.replicate (intsW 5 ((7 : Int) - 5).toNat).length ()) (g := fun _ => true)
  have al9 : (List.replicate (intsW 5 ((7 : Int) - 5).toNat).length ()).all (fun _ => true) = true := by simp
  rw [al9] at al8
  obtain ⟨Y, hY⟩ : ∃ Y, Y = Z ++ g ++ g1 ++ g2 ++ g3 ++ [Ob.lst ((List.replicate (intsW 5 ((7 : Int) - 5).toNat).length ()).map fun _ => W.bl true)] := ⟨_, rfl⟩
  rw [← hY] at al8 e8
  have H5 : Held D Gp Sm Y w1 u1 w2 u2 L L1 rest := by rw [hY]; exact (H3.app g3).app _
  have a7 : (dCons (dC (.int 7)) (dCons (dVar 7) (dCons (dTup dNil) dNil))) [some (.loc p), some (.loc q), some (.loc Gp), some (.loc D), e4, some (.loc Sm), e6, some w1, some w2, none] Y = .ok [.int ((7 : Nat) : Int), w1, .tup []] Y := by
    have tn' := tn Y
    simp -implicitDefEqProofs only [dCons_ap, dNil_ap, dVar_ap, dC_ap, dTup_ap, List.getElem?_cons_zero, List.getElem?_cons_succ, Res.bind_ok, kCons1_ap, kCons2_ap, tn']
    rfl
  obtain ⟨g4, _, c7⟩ := neD (a := w1) (b := .tup []) (k := 7) (by decide) (size_1 (H5.p1.app [.lst []]) H.n1) H5.d H5.p1 a7 rfl
  refine ⟨[some (.loc p), some (.loc q), some (.loc Gp), some (.loc D), e4, some (.loc Sm), e6, some w1, some w2, none], g ++ g1 ++ g2 ++ g3 ++ [Ob.lst ((List.replicate (intsW 5 ((7 : Int) - 5).toNat).length ()).map fun _ => W.bl true)] ++ g4, ?_⟩
  have eY : Z ++ (g ++ g1 ++ g2 ++ g3 ++ [Ob.lst ((List.replicate (intsW 5 ((7 : Int) - 5).toNat).length ()).map fun _ => W.bl true)] ++ g4) = Y ++ g4 := by rw [hY]; simp
  rw [eY, seq_go h6 rfl, seq_go h7 rfl]
  unfold RR8
  rw [sRet_ap, dAndV_ap, dApp_ap, dCons_ap, dLc_ap]
  simp -implicitDefEqProofs only [dRange2_ap, dCons_ap, dNil_ap, dC_ap, Res.bind_ok, kCons1_ap, kCons2_ap, hr2, wipeW, List.set_cons_succ, List.set_cons_zero]
  rw [e8]
  simp -implicitDefEqProofs only [Res.bind_ok, kCons1_ap, dNil_ap, kCons2_ap, al8, kAndV_t]
  rw [c7]
  simp -implicitDefEqProofs only [Res.then_ok, kRet_ap]
end
end
end K02
namespace K02
open PySem PySem.Spec PyProof.Rows L2 MP
open Classical
noncomputable section
section
variable {p n q : Nat} {S T : Store} {xs : List (List Nat)}
theorem refusals_ok (P : PotA p n S) (hq : S[q]? = some (.lst (xs.map tW))) (hpq : p ≠ q) (h1 : 1 ≤ xs.length) (h6 : xs.length ≤ 6) (hpl : ∀ x ∈ xs, PL x) (hn : n + 1000 ≤ 1000000) :
    ∃ S', d__law_refusals_right [.loc p, .loc q] S = .ok (.bl true) S' ∧ PotA p (n + 900) S' ∧ Kp p S S' := by
  have hlt := P.lt
  -- 1
  obtain ⟨t1, s1, e1, a1, b1, P1, K1⟩ := take_ok (m := 4) P (by omega) (by decide) (by decide)
  have ad : addW (.int 1) (.int t1) s1 = .ok (.int (1 + t1)) s1 := rfl
  have hr := kR1_ok (st := s1) (j := 1 + t1) (by omega) (by omega)
  have q1 : s1[q]? = some (.lst (xs.map tW)) := by rw [K1.keep _ (Ne.symm hpq)]; exact hq
  obtain ⟨L, s2, e2, hLl, hL, P2, K2⟩ := row_ok (p := p) (q := q) (i := 9) (env := [some (.loc p), some (.loc q), none, none, none, none, none, none, none, none]) (e := (dCall 2 d__law_name (dCons (dVar 0) (dCons (dVar 1) dNil)))) (fun w T => by
    simp -implicitDefEqProofs only [dCall_ap, dCons_ap, dNil_ap, dVar_ap, List.set_cons_succ, List.set_cons_zero, List.getElem?_cons_zero, List.getElem?_cons_succ, Res.bind_ok, kCons1_ap, kCons2_ap, kCall_2]) P1 q1 hpq h1 h6 hpl (k := 1 + t1) (by omega) (by omega) (by omega)
  obtain ⟨s3, hs3⟩ : ∃ s, s = s2 ++ [Ob.lst (L.map tN)] := ⟨_, rfl⟩
  rw [← hs3] at e2
  have hL1 : 1 ≤ L.length ∧ L.length ≤ 4 := by omega
  have P3 : PotA p (n + 1 + 800) s3 := by rw [hs3]; exact P2.app _
  have X3 : Ext p S s3 := by rw [hs3]; exact (K1.ext.trans K2.ext).trans (.app _)
  have G3 : s3[s2.length]? = some (.lst (L.map tN)) := by rw [hs3]; simp
  have hpG : p ≠ s2.length := by have := P2.lt; omega
  have r1 : RR1 [some (.loc p), some (.loc q), none, none, none, none, none, none, none, none] S = .go .nx [some (.loc p), some (.loc q), some (.loc s2.length), none, none, none, none, none, none, none] s3 := by
    unfold RR1
    simp -implicitDefEqProofs only [sAsg_ap, dLc_ap, dRange1_ap, dOp_ap, dCons_ap, dNil_ap, dCall_ap, dVar_ap, dC_ap, List.getElem?_cons_zero, List.getElem?_cons_succ, Res.bind_ok, kCons1_ap, kCons2_ap, kCall_2, e1, kOp1_ap, ad, hr, wipeW, List.set_cons_succ, List.set_cons_zero]
    rw [e2]
    simp -implicitDefEqProofs only [Res.then_ok, kAsg_n, List.set_cons_succ, List.set_cons_zero]
  -- 2
  obtain ⟨⟨w1, u1, A1, g1, o1, pic1, nb1, PA1, KA1, sh1⟩⟩ := odd_draw P3 (by omega)
  have PB1 : PotA p (n + 1 + 800 + 1) (A1 ++ g1) := PA1.app _
  obtain ⟨⟨w2, u2, A2, g2, o2, pic2, nb2, PA2, KA2, sh2⟩⟩ := odd_draw PB1 (by omega)
  have hp3 : p < s3.length := P3.lt
  have loc1 : ∀ k, w1 = .loc k → k ≠ p := fun k hk => by
    rcases sh1 with ⟨_, hp⟩ | ⟨ws, _, hw, _⟩
    · rw [hk] at hp; exact nomatch (show false = true from hp)
    · rw [hw] at hk; injection hk with hk; omega
  have loc2 : ∀ k, w2 = .loc k → k ≠ p := fun k hk => by
    have := PB1.lt
    rcases sh2 with ⟨_, hp⟩ | ⟨ws, _, hw, _⟩
    · rw [hk] at hp; exact nomatch (show false = true from hp)
    · rw [hw] at hk; injection hk with hk; omega
  obtain ⟨B, hB⟩ : ∃ B, B = A2 ++ g2 := ⟨_, rfl⟩
  rw [← hB] at o2 pic2
  have XB1 : Ext p (A1 ++ g1) B := by rw [hB]; exact KA2.ext.trans (.app _)
  have XB : Ext p s3 B := (KA1.ext.trans (.app g1)).trans XB1
  have PB : PotA p (n + 1 + 800 + 1 + 1) B := by rw [hB]; exact PA2.app _
  have picB1 := pic_ext pic1 XB1 loc1
  have GB := XB.get G3 (Ne.symm hpG)
  have r2 : RR2 [some (.loc p), some (.loc q), some (.loc s2.length), none, none, none, none, none, none, none] s3 = .go .nx [some (.loc p), some (.loc q), some (.loc s2.length), none, none, none, none, some w1, some w2, none] B := by
    unfold RR2
    simp -implicitDefEqProofs only [sPar_ap, dCons_ap, dNil_ap, dCall_ap, dVar_ap, List.getElem?_cons_zero, List.getElem?_cons_succ, Res.bind_ok, kCons1_ap, kCons2_ap, kCall_1, o1, o2, Res.then_ok, kPar_ap, List.set_cons_succ, List.set_cons_zero]
  -- 3
  have k3 : kLst [w1, .bl false] B = .ok (.loc B.length) (B ++ [.lst [w1, .bl false]]) := lst5 (by simp)
  obtain ⟨C, hC⟩ : ∃ C, C = B ++ [Ob.lst [w1, .bl false]] := ⟨_, rfl⟩
  rw [← hC] at k3
  have XC : Ext p B C := by rw [hC]; exact .app _
  have PC : PotA p (n + 1 + 800 + 1 + 1) C := by rw [hC]; exact PB.app _
  have DC : C[B.length]? = some (.lst [w1, .bl false]) := by rw [hC]; simp
  have hpD : p ≠ B.length := by have := PB.lt; omega
  have GC := XC.get GB (Ne.symm hpG)
  have r3 : RR3 [some (.loc p), some (.loc q), some (.loc s2.length), none, none, none, none, some w1, some w2, none] B = .go .nx [some (.loc p), some (.loc q), some (.loc s2.length), some (.loc B.length), none, none, none, some w1, some w2, none] C := by
    unfold RR3
    simp -implicitDefEqProofs only [sAsg_ap, dLst_ap, dCons_ap, dNil_ap, dVar_ap, dC_ap, List.getElem?_cons_zero, List.getElem?_cons_succ, Res.bind_ok, kCons1_ap, kCons2_ap, k3, Res.then_ok, kAsg_n, List.set_cons_succ, List.set_cons_zero]
  -- 4
  have ln := lenL GC
  rw [List.length_map] at ln
  have ad4 : addW (.int (L.length : Int)) (.int 1) C = .ok (.int ((L.length : Int) + 1)) C := rfl
  obtain ⟨j, E, e4, j0, j1, PE, KE⟩ := take_ok (m := (L.length : Int) + 1) PC (by omega) (by omega) (by omega)
  obtain ⟨i, rfl⟩ : ∃ i : Nat, j = (i : Int) := ⟨j.toNat, by omega⟩
  have XE : Ext p B E := XC.trans KE.ext
  have GE := XE.get GB (Ne.symm hpG)
  have DE := KE.ext.get DC (Ne.symm hpD)
  have r4 : RR4 [some (.loc p), some (.loc q), some (.loc s2.length), some (.loc B.length), none, none, none, some w1, some w2, none] C = .go .nx [some (.loc p), some (.loc q), some (.loc s2.length), some (.loc B.length), some (.int (i : Int)), none, none, some w1, some w2, none] E := by
    unfold RR4
    generalize (i : Int) = I at *
    generalize (L.length : Int) = LL at *
    simp -implicitDefEqProofs only [sAsg_ap, dCall_ap, dCons_ap, dNil_ap, dOp_ap, dApp_ap, dVar_ap, dC_ap, List.getElem?_cons_zero, List.getElem?_cons_succ, Res.bind_ok, kCons1_ap, kCons2_ap, ln, kOp1_ap, ad4, kCall_2, e4, Res.then_ok, kAsg_n, List.set_cons_succ, List.set_cons_zero]
  -- 5
  have v1 := sl_take (n := i) GE
  obtain ⟨F1, hF1⟩ : ∃ F, F = E ++ [Ob.lst ((L.map tN).take i)] := ⟨_, rfl⟩
  rw [← hF1] at v1
  have v2 : kLst [w1] F1 = .ok (.loc F1.length) (F1 ++ [.lst [w1]]) := lst5 (by simp)
  obtain ⟨F2, hF2⟩ : ∃ F, F = F1 ++ [Ob.lst [w1]] := ⟨_, rfl⟩
  rw [← hF2] at v2
  have v3 := addW_l (m := E.length) (k := F1.length) (xs := (L.map tN).take i) (ys := [w1]) (st := F2) (by rw [hF2]; exact get_app _ (by rw [hF1]; simp)) (by rw [hF2]; simp) (by simp; omega)
  obtain ⟨F3, hF3⟩ : ∃ F, F = F2 ++ [Ob.lst ((L.map tN).take i ++ [w1])] := ⟨_, rfl⟩
  rw [← hF3] at v3
  have XF3 : Ext p E F3 := by rw [hF3, hF2, hF1]; exact ((Ext.app _).trans (.app _)).trans (.app _)
  have PF3 : PotA p (n + 1 + 800 + 1 + 1 + 1) F3 := by rw [hF3, hF2, hF1]; exact ((PE.app _).app _).app _
  have GF3 := XF3.get GE (Ne.symm hpG)
  have hl0 : 0 < L.length := by omega
  have ix0 : ixW (.loc s2.length) (.int 0) F3 = .ok (tN L[0]) F3 := ixL (j := 0) GF3 (by rw [List.getElem?_map, List.getElem?_eq_getElem hl0]; rfl)
  have v4 : kLst [tN L[0], w2] F3 = .ok (.loc F3.length) (F3 ++ [.lst [tN L[0], w2]]) := lst5 (by simp)
  obtain ⟨F4, hF4⟩ : ∃ F, F = F3 ++ [Ob.lst [tN L[0], w2]] := ⟨_, rfl⟩
  rw [← hF4] at v4
  have PF4 : PotA p (n + 1 + 800 + 1 + 1 + 1) F4 := by rw [hF4]; exact PF3.app _
  obtain ⟨t5, F5, e5, c0, c1, PF5, KF5⟩ := take_ok (m := 2) PF4 (by omega) (by decide) (by decide)
  obtain ⟨i5, rfl⟩ : ∃ i : Nat, t5 = (i : Int) := ⟨t5.toNat, by omega⟩
  have hp3' : p ≠ F3.length := by have := PF3.lt; omega
  have g5 : F5[F3.length]? = some (.lst [tN L[0], w2]) := by rw [KF5.keep _ (Ne.symm hp3'), hF4]; simp
  have v5 := slL_f (n := i5) g5
  obtain ⟨F6, hF6⟩ : ∃ F, F = F5 ++ [Ob.lst ([tN L[0], w2].drop i5)] := ⟨_, rfl⟩
  rw [← hF6] at v5
  have XF6 : Ext p F3 F6 := by
    rw [hF6]
    refine Ext.trans ?_ (.app _)
    refine Ext.trans ?_ KF5.ext
    rw [hF4]; exact .app _
  have hp2' : p ≠ F2.length := by have := PF3.lt; rw [hF3] at this; have h2 := PE.lt; rw [hF2, hF1]; simp; omega
  have g6 : F6[F2.length]? = some (.lst ((L.map tN).take i ++ [w1])) := XF6.get (by rw [hF3]; simp) (Ne.symm hp2')
  have v6 := addW_l (m := F2.length) (k := F5.length) g6 (show F6[F5.length]? = some (.lst ([tN L[0], w2].drop i5)) by rw [hF6]; simp) (by simp; omega)
  obtain ⟨F7, hF7⟩ : ∃ F, F = F6 ++ [Ob.lst ((L.map tN).take i ++ [w1] ++ [tN L[0], w2].drop i5)] := ⟨_, rfl⟩
  rw [← hF7] at v6
  have XF7 : Ext p F3 F7 := by rw [hF7]; exact XF6.trans (.app _)
  have GF7 := XF7.get GF3 (Ne.symm hpG)
  have v7 := slL_f (n := i) GF7
  obtain ⟨F8, hF8⟩ : ∃ F, F = F7 ++ [Ob.lst ((L.map tN).drop i)] := ⟨_, rfl⟩
  rw [← hF8] at v7
  have v8 := addW_l (m := F6.length) (k := F7.length) (xs := (L.map tN).take i ++ [w1] ++ [tN L[0], w2].drop i5) (ys := (L.map tN).drop i) (st := F8) (by rw [hF8]; exact get_app _ (by rw [hF7]; simp)) (by rw [hF8]; simp) (by simp; omega)
  obtain ⟨F9, hF9⟩ : ∃ F, F = F8 ++ [Ob.lst ((L.map tN).take i ++ [w1] ++ [tN L[0], w2].drop i5 ++ (L.map tN).drop i)] := ⟨_, rfl⟩
  rw [← hF9] at v8
  have XF9 : Ext p E F9 := by rw [hF9, hF8]; exact ((XF3.trans XF7).trans (.app _)).trans (.app _)
  have PF9 : PotA p (n + 850) F9 := by rw [hF9, hF8, hF7, hF6]; exact ((((PF5.mono (by omega)).app _).app _).app _).app _
  have r5 : RR5 [some (.loc p), some (.loc q), some (.loc s2.length), some (.loc B.length), some (.int (i : Int)), none, none, some w1, some w2, none] E = .go .nx [some (.loc p), some (.loc q), some (.loc s2.length), some (.loc B.length), some (.int (i : Int)), some (.loc F8.length), none, some w1, some w2, none] F9 := by
    unfold RR5
    generalize tN L[0] = A at *
    generalize (i : Int) = I at *
    generalize (i5 : Int) = I5 at *
    simp -implicitDefEqProofs only [sAsg_ap, dOp_ap, dSl_ap, dNoPart_ap, dPart_ap, dLst_ap, dCons_ap, dNil_ap, dCall_ap, dVar_ap, dC_ap, List.getElem?_cons_zero, List.getElem?_cons_succ, Res.bind_ok, kSl1_ap, kSl2_ap, kPart_ap, kCons1_ap, kCons2_ap, kOp1_ap, v1, v2, v3, ix0, v4, kCall_2, e5, v5, v6, v7, v8, Res.then_ok, kAsg_n, List.set_cons_succ, List.set_cons_zero]
  have X9 : Ext p B F9 := XE.trans XF9
  have H : Held B.length s2.length F8.length F9 w1 u1 w2 u2 L (L.take i) ([tN L[0], w2].drop i5 ++ (L.map tN).drop i) :=
    { g := XF9.get GE (Ne.symm hpG)
      d := XF9.get DE (Ne.symm hpD)
      s := by rw [hF9]; simp [List.map_take]
      p1 := pic_ext picB1 X9 loc1
      p2 := pic_ext pic2 X9 loc2
      n1 := nb1
      n2 := nb2
      l := hL
      l1 := fun l hl => hL l (List.mem_of_mem_take hl)
      ne := fun z => by rw [z] at hl0; simp at hl0 }
  obtain ⟨env', g, eR⟩ := pureR (p := p) (q := q) (e4 := some (.int (i : Int))) H
  have XZ : Ext p S (F9 ++ g) := ((X3.trans XB).trans X9).trans (.app g)
  have G := gc_pot (v := .bl true) XZ (PF9.app g) hlt rfl
  refine ⟨_, ?_, G.2.2.mono (by omega), G.2.1⟩
  unfold d__law_refusals_right; rw [fnDen_ap, RR_eq]
  simp -implicitDefEqProofs only [List.map_cons, List.map_nil, List.length_cons, List.length_nil, Nat.reduceAdd, Nat.reduceSub, List.replicate_succ, List.replicate_zero, List.cons_append, List.nil_append]
  rw [seq_go r1 rfl, seq_go r2 rfl, seq_go r3 rfl, seq_go r4 rfl, seq_go r5 rfl, eR, fnR_rt]
  exact G.1
end
end
end K02
namespace K02
open PySem PySem.Spec PyProof.Rows L2 MP
open Classical
noncomputable section
def LW1b1 : DS := (sAsg (dCall 2 d__law_pot (dCons (dVar 0) (dCons (dVar 1) dNil))) (tName 2))
def LW1b2 : DS := (sAsg (dCall 2 d__law_words (dCons (dVar 2) (dCons (dOp addW (dC (.int 3)) (dCall 2 d__law_take (dCons (dVar 2) (dCons (dC (.int 4)) dNil)))) dNil))) (tName 3))
def LW1b3c : D Bool := (dOr (dNot (dBool (dCall 2 d__law_lists_right (dCons (dVar 2) (dCons (dVar 3) dNil))))) (dNot (dBool (dCall 2 d__law_pairs_right (dCons (dVar 2) (dCons (dVar 3) dNil))))))
def LW1b3a : DS := (sRet (dC (.bl false)))
def LW1b3 : DS := sIf LW1b3c LW1b3a sNil
def LW1b4c : D Bool := (dNot (dBool (dCall 2 d__law_refusals_right (dCons (dVar 2) (dCons (dVar 3) dNil)))))
def LW1b4a : DS := (sRet (dC (.bl false)))
def LW1b4 : DS := sIf LW1b4c LW1b4a sNil
def LW1b : DS := (sSeq LW1b1 (sSeq LW1b2 (sSeq LW1b3 LW1b4)))
def LW1 : DS := sFor (dRange1 (dCons (dApp maxW (dCons (dC (.int 1)) (dCons (dApp minW (dCons (dC (.int 4)) (dCons (dApp lenW (dCons (dVar 0) dNil)) dNil))) dNil))) dNil)) (tName 1) LW1b
def LW2 : DS := (sRet (dC (.bl true)))
theorem LW_eq : b_law = (sSeq LW1 LW2) := rfl
theorem LW1b_ok {ns : List Int} {j : Nat} {S : Store} {c2 c3 : Option W} (hl : ns.length ≤ 63) (hj : j ≤ 63) : ∃ d2 d3 T, LW1b [some (.fro (ns.map W.int)), some (.int (0 + (j : Nat))), c2, c3] S = .go .nx [some (.fro (ns.map W.int)), some (.int (0 + (j : Nat))), d2, d3] T := by
  obtain ⟨s1, e1, P1, l1⟩ := pot_ok (ns := ns) (i := 0 + (j : Nat)) (st := S) hl (by omega) (by omega)
  obtain ⟨p, hp⟩ : ∃ p, p = S.length := ⟨_, rfl⟩
  rw [← hp] at e1 P1
  obtain ⟨t, s2, e2, t0, t1, P2, K2⟩ := take_ok (m := 4) P1 (by omega) (by decide) (by decide)
  obtain ⟨M, hM, hM6, hM3⟩ : ∃ M : Nat, (3 : Int) + t = (M : Int) ∧ M ≤ 6 ∧ 3 ≤ M := ⟨(3 + t).toNat, by omega, by omega, by omega⟩
  have ad : addW (.int 3) (.int t) s2 = .ok (.int (M : Int)) s2 := by rw [← hM]; rfl
  obtain ⟨xs, s3, e3, hx, hpl, P3, K3⟩ := words_ok hM6 P2 (by omega)
  obtain ⟨s4, hs4⟩ : ∃ s, s = s3 ++ [Ob.lst (xs.map tW)] := ⟨_, rfl⟩
  rw [← hs4] at e3
  have hq4 : s4[s2.length]? = some (.lst (xs.map tW)) := by rw [hs4, show s2.length = s3.length from K3.len.symm]; simp
  have hpq : p ≠ s2.length := by have := P2.lt; omega
  have P4 : PotA p (0 + 1 + 300) s4 := by rw [hs4]; exact P3.app _
  obtain ⟨s5, e5, P5, K5⟩ := lists_ok P4 hq4 hpq (by omega) (by omega) hpl (by omega)
  have hq5 : s5[s2.length]? = some (.lst (xs.map tW)) := by rw [K5.keep _ (Ne.symm hpq)]; exact hq4
  obtain ⟨s6, e6, P6, K6⟩ := pairs_ok P5 hq5 hpq (by omega) (by omega) hpl (by omega)
  have hq6 : s6[s2.length]? = some (.lst (xs.map tW)) := by rw [K6.keep _ (Ne.symm hpq)]; exact hq5
  obtain ⟨s7, e7, P7, K7⟩ := refusals_ok P6 hq6 hpq (by omega) (by omega) hpl (by omega)
  refine ⟨some (.loc p), some (.loc s2.length), s7, ?_⟩
  unfold LW1b
  refine seq_go (env' := [some (.fro (ns.map W.int)), some (.int (0 + (j : Nat))), some (.loc p), c3]) (st' := s1) ?_ (seq_go (env' := [some (.fro (ns.map W.int)), some (.int (0 + (j : Nat))), some (.loc p), some (.loc s2.length)]) (st' := s4) ?_ (seq_go (env' := [some (.fro (ns.map W.int)), some (.int (0 + (j : Nat))), some (.loc p), some (.loc s2.length)]) (st' := s6) ?_ ?_))
  · unfold LW1b1
    simp -implicitDefEqProofs only [sAsg_ap, dCall_ap, dCons_ap, dVar_ap, dNil_ap, List.getElem?_cons_zero, List.getElem?_cons_succ, Res.bind_ok, kCons1_ap, kCons2_ap, kCall_2, e1, Res.then_ok, kAsg_n, List.set_cons_succ, List.set_cons_zero]
  · unfold LW1b2
    simp -implicitDefEqProofs only [sAsg_ap, dCall_ap, dCons_ap, dOp_ap, dVar_ap, dC_ap, dNil_ap, List.getElem?_cons_zero, List.getElem?_cons_succ, Res.bind_ok, kCons1_ap, kCons2_ap, kCall_2, e2, kOp1_ap, ad, e3, Res.then_ok, kAsg_n, List.set_cons_succ, List.set_cons_zero]
  · unfold LW1b3 LW1b3c
    simp -implicitDefEqProofs only [sIf_ap, dOr_ap, dNot_ap, dBool_ap, dCall_ap, dCons_ap, dVar_ap, dNil_ap, List.getElem?_cons_zero, List.getElem?_cons_succ, Res.bind_ok, kCons1_ap, kCons2_ap, kCall_2, e5, kBool_ap, kNot_ap, Bool.not_true, kOr_f, e6, Res.then_ok, kSIf_f, sNil_ap]
  · unfold LW1b4 LW1b4c
    simp -implicitDefEqProofs only [sIf_ap, dNot_ap, dBool_ap, dCall_ap, dCons_ap, dVar_ap, dNil_ap, List.getElem?_cons_zero, List.getElem?_cons_succ, Res.bind_ok, kCons1_ap, kCons2_ap, kCall_2, e7, kBool_ap, kNot_ap, Bool.not_true, Res.then_ok, kSIf_f, sNil_ap]
theorem law_true (ns : List Int) (hl : ns.length ≤ 63) (hb : ∀ z ∈ ns, Builtin.Int.intBits z ≤ 1048576) : d_law [.fro (ns.map W.int)] [] = .ok (.bl true) [] := by
  have hlen : lenW [.fro (ns.map W.int)] [] = .ok (.int (ns.length : Int)) [] := by rw [len_seq (ws := ns.map W.int) rfl]; simp
  obtain ⟨m, hm, m0, m1⟩ : ∃ m : Int, (if (ns.length : Int) < 4 then (ns.length : Int) else 4) = m ∧ 0 ≤ m ∧ m ≤ 4 := by
    by_cases z : (ns.length : Int) < 4
    · exact ⟨ns.length, if_pos z, by omega, by omega⟩
    · exact ⟨4, if_neg z, by decide, by decide⟩
  obtain ⟨q, hq, q0, q1⟩ : ∃ q : Int, (if m > 1 then m else 1) = q ∧ 0 ≤ q ∧ q ≤ 4 := by
    by_cases z : m > 1
    · exact ⟨m, if_pos z, by omega, by omega⟩
    · exact ⟨1, if_neg z, by decide, by decide⟩
  have hmin : minW [.int 4, .int (ns.length : Int)] [] = .ok (.int m) [] := by rw [minW_i, hm]
  have hmax : maxW [.int 1, .int m] [] = .ok (.int q) [] := by rw [maxW_i, hq]
  have hr := kR1_ok (st := []) (j := q) (Int.le_trans (by decide) q0) (Int.lt_of_le_of_lt q1 (by decide))
  obtain ⟨env', S', e, c1, c2, c3, rfl⟩ := forW_ok (chk := (ItW.mk (intsW 0 q.toNat) none).Chk) (t := tName 1) (b := LW1b)
    (fun i env S => ∃ c1 c2 c3, env = [some (.fro (ns.map W.int)), c1, c2, c3]) (fun _ _ _ _ => by simp) (intsW 0 q.toNat) 0 [some (.fro (ns.map W.int)), none, none, none] []
    (fun j w env S hw hI => by
      obtain ⟨c1, c2, c3, rfl⟩ := hI
      have hj : j < q.toNat := by have := (List.getElem?_eq_some_iff.mp hw).1; rw [ints_len] at this; exact this
      have ew : w = .int (0 + (j : Nat)) := by
        unfold intsW at hw
        rw [List.getElem?_map, List.getElem?_range hj] at hw
        simpa using hw.symm
      subst ew
      obtain ⟨d2, d3, T, e⟩ := LW1b_ok (S := S) (ns := ns) (j := j) (c2 := c2) (c3 := c3) hl (by omega)
      exact ⟨_, _, _, _, rfl, e, _, _, _, rfl⟩) ⟨none, none, none, rfl⟩
  have hg : gc [] (.bl true) S' = .ok (.bl true) [] := by
    have := gcx_ok (p := 0) (st := []) (st' := S') (v := .bl true) ⟨Nat.zero_le _, fun i hi _ => absurd hi (Nat.not_lt_zero _)⟩ (fun o hp _ => absurd hp (Nat.not_lt_zero _)) rfl
    exact this
  have e1 : LW1 [some (.fro (ns.map W.int)), none, none, none] [] = .go .nx [some (.fro (ns.map W.int)), c1, c2, c3] S' := by
    unfold LW1
    rw [sFor_ap]
    simp -implicitDefEqProofs only [dRange1_ap, dCons_ap, dApp_ap, dC_ap, dVar_ap, List.getElem?_cons_zero, dNil_ap, Res.bind_ok, kCons1_ap, kCons2_ap, hlen, hmin, hmax, hr, Res.then_ok, kFor]
    exact e
  have e2 : LW2 [some (.fro (ns.map W.int)), c1, c2, c3] S' = .go (.rt (.bl true)) [some (.fro (ns.map W.int)), c1, c2, c3] S' := by
    unfold LW2
    simp -implicitDefEqProofs only [sRet_ap, dC_ap, Res.then_ok, kRet_ap]
  have body : (sSeq LW1 LW2) [some (.fro (ns.map W.int)), none, none, none] [] = .go (.rt (.bl true)) [some (.fro (ns.map W.int)), c1, c2, c3] S' := seq_go e1 e2
  unfold d_law; rw [fnDen_ap, LW_eq]
  show fnR [] ((sSeq LW1 LW2) [some (.fro (ns.map W.int)), none, none, none] []) = _
  rw [body, fnR_rt, hg]
end
end K02
namespace K02
open PySem PySem.Spec PyProof.Rows L2 MP
noncomputable section
theorem all_mk {P : Program} {w : World} {K : PySem.W.Frag} {h : Heap} {mg : Str → Option Value} {fa : Addr} (X : K.In h) (G : h.Ns mainGlobals mg) (hfa : mg "law" = some (.ref fa))
    {fd0 : Addr} {odd0 and0 : Option Addr} {sld0 : Array (Option Value)} {ocd0 kVd0 dcd0 pmd0 cdd0 ctd0 : Value}
    {fd1 : Addr} {odd1 and1 : Option Addr} {sld1 : Array (Option Value)} {ocd1 kVd1 dcd1 pmd1 cdd1 ctd1 : Value}
    {fd2 : Addr} {odd2 and2 : Option Addr} {sld2 : Array (Option Value)} {ocd2 kVd2 dcd2 pmd2 cdd2 ctd2 : Value}
    {fd3 : Addr} {odd3 and3 : Option Addr} {sld3 : Array (Option Value)} {ocd3 kVd3 dcd3 pmd3 cdd3 ctd3 : Value}
    {fd4 : Addr} {odd4 and4 : Option Addr} {sld4 : Array (Option Value)} {ocd4 kVd4 dcd4 pmd4 cdd4 ctd4 : Value}
    {fd5 : Addr} {odd5 and5 : Option Addr} {sld5 : Array (Option Value)} {ocd5 kVd5 dcd5 pmd5 cdd5 ctd5 : Value}
    {fd6 : Addr} {odd6 and6 : Option Addr} {sld6 : Array (Option Value)} {ocd6 kVd6 dcd6 pmd6 cdd6 ctd6 : Value}
    {fd7 : Addr} {odd7 and7 : Option Addr} {sld7 : Array (Option Value)} {ocd7 kVd7 dcd7 pmd7 cdd7 ctd7 : Value}
    {fd8 : Addr} {odd8 and8 : Option Addr} {sld8 : Array (Option Value)} {ocd8 kVd8 dcd8 pmd8 cdd8 ctd8 : Value}
    {fd9 : Addr} {odd9 and9 : Option Addr} {sld9 : Array (Option Value)} {ocd9 kVd9 dcd9 pmd9 cdd9 ctd9 : Value}
    {fd10 : Addr} {odd10 and10 : Option Addr} {sld10 : Array (Option Value)} {ocd10 kVd10 dcd10 pmd10 cdd10 ctd10 : Value}
    {fd11 : Addr} {odd11 and11 : Option Addr} {sld11 : Array (Option Value)} {ocd11 kVd11 dcd11 pmd11 cdd11 ctd11 : Value}
    {fd12 : Addr} {odd12 and12 : Option Addr} {sld12 : Array (Option Value)} {ocd12 kVd12 dcd12 pmd12 cdd12 ctd12 : Value}
    {fd13 : Addr} {odd13 and13 : Option Addr} {sld13 : Array (Option Value)} {ocd13 kVd13 dcd13 pmd13 cdd13 ctd13 : Value}
    {fd14 : Addr} {odd14 and14 : Option Addr} {sld14 : Array (Option Value)} {ocd14 kVd14 dcd14 pmd14 cdd14 ctd14 : Value}
    {fd15 : Addr} {odd15 and15 : Option Addr} {sld15 : Array (Option Value)} {ocd15 kVd15 dcd15 pmd15 cdd15 ctd15 : Value}
    {fd16 : Addr} {odd16 and16 : Option Addr} {sld16 : Array (Option Value)} {ocd16 kVd16 dcd16 pmd16 cdd16 ctd16 : Value}
    {fd17 : Addr} {odd17 and17 : Option Addr} {sld17 : Array (Option Value)} {ocd17 kVd17 dcd17 pmd17 cdd17 ctd17 : Value}
    {fd18 : Addr} {odd18 and18 : Option Addr} {sld18 : Array (Option Value)} {ocd18 kVd18 dcd18 pmd18 cdd18 ctd18 : Value}
    {fd19 : Addr} {odd19 and19 : Option Addr} {sld19 : Array (Option Value)} {ocd19 kVd19 dcd19 pmd19 cdd19 ctd19 : Value}
    {fd20 : Addr} {odd20 and20 : Option Addr} {sld20 : Array (Option Value)} {ocd20 kVd20 dcd20 pmd20 cdd20 ctd20 : Value}
    {fd21 : Addr} {odd21 and21 : Option Addr} {sld21 : Array (Option Value)} {ocd21 kVd21 dcd21 pmd21 cdd21 ctd21 : Value}
    {fd22 : Addr} {odd22 and22 : Option Addr} {sld22 : Array (Option Value)} {ocd22 kVd22 dcd22 pmd22 cdd22 ctd22 : Value}
    {fd23 : Addr} {odd23 and23 : Option Addr} {sld23 : Array (Option Value)} {ocd23 kVd23 dcd23 pmd23 cdd23 ctd23 : Value}
    {fd24 : Addr} {odd24 and24 : Option Addr} {sld24 : Array (Option Value)} {ocd24 kVd24 dcd24 pmd24 cdd24 ctd24 : Value}
    {fd25 : Addr} {odd25 and25 : Option Addr} {sld25 : Array (Option Value)} {ocd25 kVd25 dcd25 pmd25 cdd25 ctd25 : Value}
    {fd26 : Addr} {odd26 and26 : Option Addr} {sld26 : Array (Option Value)} {ocd26 kVd26 dcd26 pmd26 cdd26 ctd26 : Value}
    {fd27 : Addr} {odd27 and27 : Option Addr} {sld27 : Array (Option Value)} {ocd27 kVd27 dcd27 pmd27 cdd27 ctd27 : Value}
    {fd28 : Addr} {odd28 and28 : Option Addr} {sld28 : Array (Option Value)} {ocd28 kVd28 dcd28 pmd28 cdd28 ctd28 : Value}
    {fd29 : Addr} {odd29 and29 : Option Addr} {sld29 : Array (Option Value)} {ocd29 kVd29 dcd29 pmd29 cdd29 ctd29 : Value}
    {fd30 : Addr} {odd30 and30 : Option Addr} {sld30 : Array (Option Value)} {ocd30 kVd30 dcd30 pmd30 cdd30 ctd30 : Value}
    {fd31 : Addr} {odd31 and31 : Option Addr} {sld31 : Array (Option Value)} {ocd31 kVd31 dcd31 pmd31 cdd31 ctd31 : Value}
    {fd32 : Addr} {odd32 and32 : Option Addr} {sld32 : Array (Option Value)} {ocd32 kVd32 dcd32 pmd32 cdd32 ctd32 : Value}
    {fd33 : Addr} {odd33 and33 : Option Addr} {sld33 : Array (Option Value)} {ocd33 kVd33 dcd33 pmd33 cdd33 ctd33 : Value}
    {fd34 : Addr} {odd34 and34 : Option Addr} {sld34 : Array (Option Value)} {ocd34 kVd34 dcd34 pmd34 cdd34 ctd34 : Value}
    {fd35 : Addr} {odd35 and35 : Option Addr} {sld35 : Array (Option Value)} {ocd35 kVd35 dcd35 pmd35 cdd35 ctd35 : Value}
    {fI : Addr}
    {C0 : Addr}
    {C1 : Addr}
    {C2 : Addr}
    {C3 : Addr}
    {odI anI : Option Addr} {slI : Array (Option Value)} {ocI kVI dcI pmI cdI ctI : Value}
    {nmC0 : _} {qC0 : _} {NC0 : _} {bsC0 : _} {bmC0 : _} {snC0 : _} {subC0 : _} {abC0 : _} {colC0 : _} {ddC0 : _} {k0C0 : _} {k1C0 : _} {k2C0 : _} {k3C0 : _} {k5C0 : _}
    {nmC1 : _} {qC1 : _} {NC1 : _} {bsC1 : _} {bmC1 : _} {snC1 : _} {subC1 : _} {abC1 : _} {colC1 : _} {ddC1 : _} {k0C1 : _} {k1C1 : _} {k2C1 : _} {k3C1 : _} {k5C1 : _}
    {nmC2 : _} {qC2 : _} {NC2 : _} {bsC2 : _} {bmC2 : _} {snC2 : _} {subC2 : _} {abC2 : _} {colC2 : _} {ddC2 : _} {k0C2 : _} {k1C2 : _} {k2C2 : _} {k3C2 : _} {k5C2 : _}
    {nmC3 : _} {qC3 : _} {NC3 : _} {bsC3 : _} {bmC3 : _} {snC3 : _} {subC3 : _} {abC3 : _} {colC3 : _} {ddC3 : _} {k0C3 : _} {k1C3 : _} {k2C3 : _} {k3C3 : _} {k5C3 : _}
    {tK_WILD : Tok}
    {tK_LONGEST : Tok}
    {tK_ENDS : Tok}
    {tK_INNER : Tok}
    (ad0 : PySem.W.nsIn K mainGlobals "ends_with" = some (some (.ref fd0)))
    (ld0 : K.lookup fd0 = some ⟨ocd0, odd0, .func (PySem.W.fnOf "ends_with" "ends_with" (defArgs (top 6)) (defBody (top 6)) (defScope (top 6)) .none kVd0 dcd0 pmd0 and0 cdd0 ctd0), sld0⟩)
    (cd0 : PySem.W.codeIn K cdd0 "ends_with" = true)
    (kd0 : PySem.W.keepIn K (.ref fd0) = true)
    (ad1 : PySem.W.nsIn K mainGlobals "place" = some (some (.ref fd1)))
    (ld1 : K.lookup fd1 = some ⟨ocd1, odd1, .func (PySem.W.fnOf "place" "place" (defArgs (top 7)) (defBody (top 7)) (defScope (top 7)) .none kVd1 dcd1 pmd1 and1 cdd1 ctd1), sld1⟩)
    (cd1 : PySem.W.codeIn K cdd1 "place" = true)
    (kd1 : PySem.W.keepIn K (.ref fd1) = true)
    (ad2 : PySem.W.nsIn K mainGlobals "in_order" = some (some (.ref fd2)))
    (ld2 : K.lookup fd2 = some ⟨ocd2, odd2, .func (PySem.W.fnOf "in_order" "in_order" (defArgs (top 8)) (defBody (top 8)) (defScope (top 8)) .none kVd2 dcd2 pmd2 and2 cdd2 ctd2), sld2⟩)
    (cd2 : PySem.W.codeIn K cdd2 "in_order" = true)
    (kd2 : PySem.W.keepIn K (.ref fd2) = true)
    (ad3 : PySem.W.nsIn K mainGlobals "weight" = some (some (.ref fd3)))
    (ld3 : K.lookup fd3 = some ⟨ocd3, odd3, .func (PySem.W.fnOf "weight" "weight" (defArgs (top 9)) (defBody (top 9)) (defScope (top 9)) .none kVd3 dcd3 pmd3 and3 cdd3 ctd3), sld3⟩)
    (cd3 : PySem.W.codeIn K cdd3 "weight" = true)
    (kd3 : PySem.W.keepIn K (.ref fd3) = true)
    (ad4 : PySem.W.nsIn K mainGlobals "sized_place" = some (some (.ref fd4)))
    (ld4 : K.lookup fd4 = some ⟨ocd4, odd4, .func (PySem.W.fnOf "sized_place" "sized_place" (defArgs (top 10)) (defBody (top 10)) (defScope (top 10)) .none kVd4 dcd4 pmd4 and4 cdd4 ctd4), sld4⟩)
    (cd4 : PySem.W.codeIn K cdd4 "sized_place" = true)
    (kd4 : PySem.W.keepIn K (.ref fd4) = true)
    (ad5 : PySem.W.nsIn K mainGlobals "rebuilt" = some (some (.ref fd5)))
    (ld5 : K.lookup fd5 = some ⟨ocd5, odd5, .func (PySem.W.fnOf "rebuilt" "rebuilt" (defArgs (top 12)) (defBody (top 12)) (defScope (top 12)) .none kVd5 dcd5 pmd5 and5 cdd5 ctd5), sld5⟩)
    (cd5 : PySem.W.codeIn K cdd5 "rebuilt" = true)
    (kd5 : PySem.W.keepIn K (.ref fd5) = true)
    (ad6 : PySem.W.nsIn K mainGlobals "_is_plain" = some (some (.ref fd6)))
    (ld6 : K.lookup fd6 = some ⟨ocd6, odd6, .func (PySem.W.fnOf "_is_plain" "_is_plain" (defArgs (top 18)) (defBody (top 18)) (defScope (top 18)) .none kVd6 dcd6 pmd6 and6 cdd6 ctd6), sld6⟩)
    (cd6 : PySem.W.codeIn K cdd6 "_is_plain" = true)
    (kd6 : PySem.W.keepIn K (.ref fd6) = true)
    (ad7 : PySem.W.nsIn K mainGlobals "is_name" = some (some (.ref fd7)))
    (ld7 : K.lookup fd7 = some ⟨ocd7, odd7, .func (PySem.W.fnOf "is_name" "is_name" (defArgs (top 19)) (defBody (top 19)) (defScope (top 19)) .none kVd7 dcd7 pmd7 and7 cdd7 ctd7), sld7⟩)
    (cd7 : PySem.W.codeIn K cdd7 "is_name" = true)
    (kd7 : PySem.W.keepIn K (.ref fd7) = true)
    (ad8 : PySem.W.nsIn K mainGlobals "is_asked" = some (some (.ref fd8)))
    (ld8 : K.lookup fd8 = some ⟨ocd8, odd8, .func (PySem.W.fnOf "is_asked" "is_asked" (defArgs (top 20)) (defBody (top 20)) (defScope (top 20)) .none kVd8 dcd8 pmd8 and8 cdd8 ctd8), sld8⟩)
    (cd8 : PySem.W.codeIn K cdd8 "is_asked" = true)
    (kd8 : PySem.W.keepIn K (.ref fd8) = true)
    (ad9 : PySem.W.nsIn K mainGlobals "check_name" = some (some (.ref fd9)))
    (ld9 : K.lookup fd9 = some ⟨ocd9, odd9, .func (PySem.W.fnOf "check_name" "check_name" (defArgs (top 21)) (defBody (top 21)) (defScope (top 21)) .none kVd9 dcd9 pmd9 and9 cdd9 ctd9), sld9⟩)
    (cd9 : PySem.W.codeIn K cdd9 "check_name" = true)
    (kd9 : PySem.W.keepIn K (.ref fd9) = true)
    (ad10 : PySem.W.nsIn K mainGlobals "check_names" = some (some (.ref fd10)))
    (ld10 : K.lookup fd10 = some ⟨ocd10, odd10, .func (PySem.W.fnOf "check_names" "check_names" (defArgs (top 22)) (defBody (top 22)) (defScope (top 22)) .none kVd10 dcd10 pmd10 and10 cdd10 ctd10), sld10⟩)
    (cd10 : PySem.W.codeIn K cdd10 "check_names" = true)
    (kd10 : PySem.W.keepIn K (.ref fd10) = true)
    (ad11 : PySem.W.nsIn K mainGlobals "is_under" = some (some (.ref fd11)))
    (ld11 : K.lookup fd11 = some ⟨ocd11, odd11, .func (PySem.W.fnOf "is_under" "is_under" (defArgs (top 23)) (defBody (top 23)) (defScope (top 23)) .none kVd11 dcd11 pmd11 and11 cdd11 ctd11), sld11⟩)
    (cd11 : PySem.W.codeIn K cdd11 "is_under" = true)
    (kd11 : PySem.W.keepIn K (.ref fd11) = true)
    (ad12 : PySem.W.nsIn K mainGlobals "labels_ahead" = some (some (.ref fd12)))
    (ld12 : K.lookup fd12 = some ⟨ocd12, odd12, .func (PySem.W.fnOf "labels_ahead" "labels_ahead" (defArgs (top 24)) (defBody (top 24)) (defScope (top 24)) .none kVd12 dcd12 pmd12 and12 cdd12 ctd12), sld12⟩)
    (cd12 : PySem.W.codeIn K cdd12 "labels_ahead" = true)
    (kd12 : PySem.W.keepIn K (.ref fd12) = true)
    (ad13 : PySem.W.nsIn K mainGlobals "common" = some (some (.ref fd13)))
    (ld13 : K.lookup fd13 = some ⟨ocd13, odd13, .func (PySem.W.fnOf "common" "common" (defArgs (top 25)) (defBody (top 25)) (defScope (top 25)) .none kVd13 dcd13 pmd13 and13 cdd13 ctd13), sld13⟩)
    (cd13 : PySem.W.codeIn K cdd13 "common" = true)
    (kd13 : PySem.W.keepIn K (.ref fd13) = true)
    (ad14 : PySem.W.nsIn K mainGlobals "compared" = some (some (.ref fd14)))
    (ld14 : K.lookup fd14 = some ⟨ocd14, odd14, .func (PySem.W.fnOf "compared" "compared" (defArgs (top 26)) (defBody (top 26)) (defScope (top 26)) .none kVd14 dcd14 pmd14 and14 cdd14 ctd14), sld14⟩)
    (cd14 : PySem.W.codeIn K cdd14 "compared" = true)
    (kd14 : PySem.W.keepIn K (.ref fd14) = true)
    (ad15 : PySem.W.nsIn K mainGlobals "ordered" = some (some (.ref fd15)))
    (ld15 : K.lookup fd15 = some ⟨ocd15, odd15, .func (PySem.W.fnOf "ordered" "ordered" (defArgs (top 27)) (defBody (top 27)) (defScope (top 27)) .none kVd15 dcd15 pmd15 and15 cdd15 ctd15), sld15⟩)
    (cd15 : PySem.W.codeIn K cdd15 "ordered" = true)
    (kd15 : PySem.W.keepIn K (.ref fd15) = true)
    (ad16 : PySem.W.nsIn K mainGlobals "neighbours" = some (some (.ref fd16)))
    (ld16 : K.lookup fd16 = some ⟨ocd16, odd16, .func (PySem.W.fnOf "neighbours" "neighbours" (defArgs (top 28)) (defBody (top 28)) (defScope (top 28)) .none kVd16 dcd16 pmd16 and16 cdd16 ctd16), sld16⟩)
    (cd16 : PySem.W.codeIn K cdd16 "neighbours" = true)
    (kd16 : PySem.W.keepIn K (.ref fd16) = true)
    (ad17 : PySem.W.nsIn K mainGlobals "size" = some (some (.ref fd17)))
    (ld17 : K.lookup fd17 = some ⟨ocd17, odd17, .func (PySem.W.fnOf "size" "size" (defArgs (top 29)) (defBody (top 29)) (defScope (top 29)) .none kVd17 dcd17 pmd17 and17 cdd17 ctd17), sld17⟩)
    (cd17 : PySem.W.codeIn K cdd17 "size" = true)
    (kd17 : PySem.W.keepIn K (.ref fd17) = true)
    (ad18 : PySem.W.nsIn K mainGlobals "first" = some (some (.ref fd18)))
    (ld18 : K.lookup fd18 = some ⟨ocd18, odd18, .func (PySem.W.fnOf "first" "first" (defArgs (top 30)) (defBody (top 30)) (defScope (top 30)) .none kVd18 dcd18 pmd18 and18 cdd18 ctd18), sld18⟩)
    (cd18 : PySem.W.codeIn K cdd18 "first" = true)
    (kd18 : PySem.W.keepIn K (.ref fd18) = true)
    (ad19 : PySem.W.nsIn K mainGlobals "_law_pot" = some (some (.ref fd19)))
    (ld19 : K.lookup fd19 = some ⟨ocd19, odd19, .func (PySem.W.fnOf "_law_pot" "_law_pot" (defArgs (top 32)) (defBody (top 32)) (defScope (top 32)) .none kVd19 dcd19 pmd19 and19 cdd19 ctd19), sld19⟩)
    (cd19 : PySem.W.codeIn K cdd19 "_law_pot" = true)
    (kd19 : PySem.W.keepIn K (.ref fd19) = true)
    (ad20 : PySem.W.nsIn K mainGlobals "_law_take" = some (some (.ref fd20)))
    (ld20 : K.lookup fd20 = some ⟨ocd20, odd20, .func (PySem.W.fnOf "_law_take" "_law_take" (defArgs (top 33)) (defBody (top 33)) (defScope (top 33)) .none kVd20 dcd20 pmd20 and20 cdd20 ctd20), sld20⟩)
    (cd20 : PySem.W.codeIn K cdd20 "_law_take" = true)
    (kd20 : PySem.W.keepIn K (.ref fd20) = true)
    (ad21 : PySem.W.nsIn K mainGlobals "_law_same" = some (some (.ref fd21)))
    (ld21 : K.lookup fd21 = some ⟨ocd21, odd21, .func (PySem.W.fnOf "_law_same" "_law_same" (defArgs (top 34)) (defBody (top 34)) (defScope (top 34)) .none kVd21 dcd21 pmd21 and21 cdd21 ctd21), sld21⟩)
    (cd21 : PySem.W.codeIn K cdd21 "_law_same" = true)
    (kd21 : PySem.W.keepIn K (.ref fd21) = true)
    (ad22 : PySem.W.nsIn K mainGlobals "_law_label" = some (some (.ref fd22)))
    (ld22 : K.lookup fd22 = some ⟨ocd22, odd22, .func (PySem.W.fnOf "_law_label" "_law_label" (defArgs (top 35)) (defBody (top 35)) (defScope (top 35)) .none kVd22 dcd22 pmd22 and22 cdd22 ctd22), sld22⟩)
    (cd22 : PySem.W.codeIn K cdd22 "_law_label" = true)
    (kd22 : PySem.W.keepIn K (.ref fd22) = true)
    (ad23 : PySem.W.nsIn K mainGlobals "_law_words" = some (some (.ref fd23)))
    (ld23 : K.lookup fd23 = some ⟨ocd23, odd23, .func (PySem.W.fnOf "_law_words" "_law_words" (defArgs (top 36)) (defBody (top 36)) (defScope (top 36)) .none kVd23 dcd23 pmd23 and23 cdd23 ctd23), sld23⟩)
    (cd23 : PySem.W.codeIn K cdd23 "_law_words" = true)
    (kd23 : PySem.W.keepIn K (.ref fd23) = true)
    (ad24 : PySem.W.nsIn K mainGlobals "_law_odd" = some (some (.ref fd24)))
    (ld24 : K.lookup fd24 = some ⟨ocd24, odd24, .func (PySem.W.fnOf "_law_odd" "_law_odd" (defArgs (top 37)) (defBody (top 37)) (defScope (top 37)) .none kVd24 dcd24 pmd24 and24 cdd24 ctd24), sld24⟩)
    (cd24 : PySem.W.codeIn K cdd24 "_law_odd" = true)
    (kd24 : PySem.W.keepIn K (.ref fd24) = true)
    (ad25 : PySem.W.nsIn K mainGlobals "_law_name" = some (some (.ref fd25)))
    (ld25 : K.lookup fd25 = some ⟨ocd25, odd25, .func (PySem.W.fnOf "_law_name" "_law_name" (defArgs (top 38)) (defBody (top 38)) (defScope (top 38)) .none kVd25 dcd25 pmd25 and25 cdd25 ctd25), sld25⟩)
    (cd25 : PySem.W.codeIn K cdd25 "_law_name" = true)
    (kd25 : PySem.W.keepIn K (.ref fd25) = true)
    (ad26 : PySem.W.nsIn K mainGlobals "_law_ahead" = some (some (.ref fd26)))
    (ld26 : K.lookup fd26 = some ⟨ocd26, odd26, .func (PySem.W.fnOf "_law_ahead" "_law_ahead" (defArgs (top 39)) (defBody (top 39)) (defScope (top 39)) .none kVd26 dcd26 pmd26 and26 cdd26 ctd26), sld26⟩)
    (cd26 : PySem.W.codeIn K cdd26 "_law_ahead" = true)
    (kd26 : PySem.W.keepIn K (.ref fd26) = true)
    (ad27 : PySem.W.nsIn K mainGlobals "_law_order" = some (some (.ref fd27)))
    (ld27 : K.lookup fd27 = some ⟨ocd27, odd27, .func (PySem.W.fnOf "_law_order" "_law_order" (defArgs (top 40)) (defBody (top 40)) (defScope (top 40)) .none kVd27 dcd27 pmd27 and27 cdd27 ctd27), sld27⟩)
    (cd27 : PySem.W.codeIn K cdd27 "_law_order" = true)
    (kd27 : PySem.W.keepIn K (.ref fd27) = true)
    (ad28 : PySem.W.nsIn K mainGlobals "_law_size" = some (some (.ref fd28)))
    (ld28 : K.lookup fd28 = some ⟨ocd28, odd28, .func (PySem.W.fnOf "_law_size" "_law_size" (defArgs (top 41)) (defBody (top 41)) (defScope (top 41)) .none kVd28 dcd28 pmd28 and28 cdd28 ctd28), sld28⟩)
    (cd28 : PySem.W.codeIn K cdd28 "_law_size" = true)
    (kd28 : PySem.W.keepIn K (.ref fd28) = true)
    (ad29 : PySem.W.nsIn K mainGlobals "_law_first" = some (some (.ref fd29)))
    (ld29 : K.lookup fd29 = some ⟨ocd29, odd29, .func (PySem.W.fnOf "_law_first" "_law_first" (defArgs (top 42)) (defBody (top 42)) (defScope (top 42)) .none kVd29 dcd29 pmd29 and29 cdd29 ctd29), sld29⟩)
    (cd29 : PySem.W.codeIn K cdd29 "_law_first" = true)
    (kd29 : PySem.W.keepIn K (.ref fd29) = true)
    (ad30 : PySem.W.nsIn K mainGlobals "_law_lists_right" = some (some (.ref fd30)))
    (ld30 : K.lookup fd30 = some ⟨ocd30, odd30, .func (PySem.W.fnOf "_law_lists_right" "_law_lists_right" (defArgs (top 43)) (defBody (top 43)) (defScope (top 43)) .none kVd30 dcd30 pmd30 and30 cdd30 ctd30), sld30⟩)
    (cd30 : PySem.W.codeIn K cdd30 "_law_lists_right" = true)
    (kd30 : PySem.W.keepIn K (.ref fd30) = true)
    (ad31 : PySem.W.nsIn K mainGlobals "_law_pairs_right" = some (some (.ref fd31)))
    (ld31 : K.lookup fd31 = some ⟨ocd31, odd31, .func (PySem.W.fnOf "_law_pairs_right" "_law_pairs_right" (defArgs (top 44)) (defBody (top 44)) (defScope (top 44)) .none kVd31 dcd31 pmd31 and31 cdd31 ctd31), sld31⟩)
    (cd31 : PySem.W.codeIn K cdd31 "_law_pairs_right" = true)
    (kd31 : PySem.W.keepIn K (.ref fd31) = true)
    (ad32 : PySem.W.nsIn K mainGlobals "_law_labels_ahead" = some (some (.ref fd32)))
    (ld32 : K.lookup fd32 = some ⟨ocd32, odd32, .func (PySem.W.fnOf "_law_labels_ahead" "_law_labels_ahead" (defArgs (top 45)) (defBody (top 45)) (defScope (top 45)) .none kVd32 dcd32 pmd32 and32 cdd32 ctd32), sld32⟩)
    (cd32 : PySem.W.codeIn K cdd32 "_law_labels_ahead" = true)
    (kd32 : PySem.W.keepIn K (.ref fd32) = true)
    (ad33 : PySem.W.nsIn K mainGlobals "_law_refused" = some (some (.ref fd33)))
    (ld33 : K.lookup fd33 = some ⟨ocd33, odd33, .func (PySem.W.fnOf "_law_refused" "_law_refused" (defArgs (top 46)) (defBody (top 46)) (defScope (top 46)) .none kVd33 dcd33 pmd33 and33 cdd33 ctd33), sld33⟩)
    (cd33 : PySem.W.codeIn K cdd33 "_law_refused" = true)
    (kd33 : PySem.W.keepIn K (.ref fd33) = true)
    (ad34 : PySem.W.nsIn K mainGlobals "_law_refusals_right" = some (some (.ref fd34)))
    (ld34 : K.lookup fd34 = some ⟨ocd34, odd34, .func (PySem.W.fnOf "_law_refusals_right" "_law_refusals_right" (defArgs (top 47)) (defBody (top 47)) (defScope (top 47)) .none kVd34 dcd34 pmd34 and34 cdd34 ctd34), sld34⟩)
    (cd34 : PySem.W.codeIn K cdd34 "_law_refusals_right" = true)
    (kd34 : PySem.W.keepIn K (.ref fd34) = true)
    (ad35 : PySem.W.nsIn K mainGlobals "law" = some (some (.ref fd35)))
    (ld35 : K.lookup fd35 = some ⟨ocd35, odd35, .func (PySem.W.fnOf "law" "law" (defArgs (top 48)) (defBody (top 48)) (defScope (top 48)) .none kVd35 dcd35 pmd35 and35 cdd35 ctd35), sld35⟩)
    (cd35 : PySem.W.codeIn K cdd35 "law" = true)
    (kd35 : PySem.W.keepIn K (.ref fd35) = true)
    (aC0 : PySem.W.nsIn K mainGlobals "TreeError" = some (some (.ref C0)))
    (iC0 : PySem.W.findIn K (.ref C0) "__init__" = some (some (.ref fI)))
    (aC1 : PySem.W.nsIn K mainGlobals "InvalidName" = some (some (.ref C1)))
    (iC1 : PySem.W.findIn K (.ref C1) "__init__" = some (some (.ref fI)))
    (aC2 : PySem.W.nsIn K mainGlobals "OutOfZone" = some (some (.ref C2)))
    (iC2 : PySem.W.findIn K (.ref C2) "__init__" = some (some (.ref fI)))
    (aC3 : PySem.W.nsIn K mainGlobals "Unreadable" = some (some (.ref C3)))
    (iC3 : PySem.W.findIn K (.ref C3) "__init__" = some (some (.ref fI)))
    (lI : K.lookup fI = some ⟨ocI, odI, .func (PySem.W.fnOf "__init__" "TreeError.__init__" (defArgs (inClass (top 1) 0)) (defBody (inClass (top 1) 0)) (defScope (inClass (top 1) 0)) .none kVI dcI pmI anI cdI ctI), slI⟩)
    (cI : PySem.W.codeIn K cdI "TreeError.__init__" = true)
    (kI : PySem.W.keepIn K (.ref fI) = true)
    (yI : PySem.W.typeIn K (.ref fI) = some (.type "function"))
    (eC0 : K.lookup C0 = some (excClassObj nmC0 qC0 C0 NC0 bsC0 bmC0 true snC0 subC0 abC0 colC0 ddC0 k0C0 k1C0 k2C0 k3C0 k5C0 "ValueError.__new__"))
    (rC0 : PySem.HandSPX.refsVE bmC0 = true)
    (sC0 : PySem.W.findIn K (.ref C0) "__setattr__" = some (some (.builtin "object.__setattr__")))
    (xC0 : PySem.W.subIn K (.ref C0) (.type "BaseException") = some true)
    (yC0 : PySem.W.typeIn K (.ref C0) = some (.type "type"))
    (kC0 : PySem.W.keepIn K (.ref C0) = true)
    (vC0 : PySem.W.findIn K (.ref C0) "value" = some none)
    (gC0 : PySem.W.findIn K (.ref C0) "__getattribute__" = some (some (.builtin "BaseException.__getattribute__")))
    (hC0 : PySem.W.findIn K (.ref C0) "__getattr__" = some none)
    (dC0 : PySem.W.hasDictIn K C0 = true)
    (eC1 : K.lookup C1 = some (excClassObj nmC1 qC1 C1 NC1 bsC1 bmC1 true snC1 subC1 abC1 colC1 ddC1 k0C1 k1C1 k2C1 k3C1 k5C1 "ValueError.__new__"))
    (rC1 : PySem.HandSPX.refsVE bmC1 = true)
    (sC1 : PySem.W.findIn K (.ref C1) "__setattr__" = some (some (.builtin "object.__setattr__")))
    (xC1 : PySem.W.subIn K (.ref C1) (.type "BaseException") = some true)
    (yC1 : PySem.W.typeIn K (.ref C1) = some (.type "type"))
    (kC1 : PySem.W.keepIn K (.ref C1) = true)
    (vC1 : PySem.W.findIn K (.ref C1) "value" = some none)
    (gC1 : PySem.W.findIn K (.ref C1) "__getattribute__" = some (some (.builtin "BaseException.__getattribute__")))
    (hC1 : PySem.W.findIn K (.ref C1) "__getattr__" = some none)
    (dC1 : PySem.W.hasDictIn K C1 = true)
    (eC2 : K.lookup C2 = some (excClassObj nmC2 qC2 C2 NC2 bsC2 bmC2 true snC2 subC2 abC2 colC2 ddC2 k0C2 k1C2 k2C2 k3C2 k5C2 "ValueError.__new__"))
    (rC2 : PySem.HandSPX.refsVE bmC2 = true)
    (sC2 : PySem.W.findIn K (.ref C2) "__setattr__" = some (some (.builtin "object.__setattr__")))
    (xC2 : PySem.W.subIn K (.ref C2) (.type "BaseException") = some true)
    (yC2 : PySem.W.typeIn K (.ref C2) = some (.type "type"))
    (kC2 : PySem.W.keepIn K (.ref C2) = true)
    (vC2 : PySem.W.findIn K (.ref C2) "value" = some none)
    (gC2 : PySem.W.findIn K (.ref C2) "__getattribute__" = some (some (.builtin "BaseException.__getattribute__")))
    (hC2 : PySem.W.findIn K (.ref C2) "__getattr__" = some none)
    (dC2 : PySem.W.hasDictIn K C2 = true)
    (eC3 : K.lookup C3 = some (excClassObj nmC3 qC3 C3 NC3 bsC3 bmC3 true snC3 subC3 abC3 colC3 ddC3 k0C3 k1C3 k2C3 k3C3 k5C3 "ValueError.__new__"))
    (rC3 : PySem.HandSPX.refsVE bmC3 = true)
    (sC3 : PySem.W.findIn K (.ref C3) "__setattr__" = some (some (.builtin "object.__setattr__")))
    (xC3 : PySem.W.subIn K (.ref C3) (.type "BaseException") = some true)
    (yC3 : PySem.W.typeIn K (.ref C3) = some (.type "type"))
    (kC3 : PySem.W.keepIn K (.ref C3) = true)
    (vC3 : PySem.W.findIn K (.ref C3) "value" = some none)
    (gC3 : PySem.W.findIn K (.ref C3) "__getattribute__" = some (some (.builtin "BaseException.__getattribute__")))
    (hC3 : PySem.W.findIn K (.ref C3) "__getattr__" = some none)
    (dC3 : PySem.W.hasDictIn K C3 = true)
    (aK_WILD : PySem.W.nsIn K mainGlobals "WILD" = some (some (.str c_WILD tK_WILD)))
    (aK_LONGEST : PySem.W.nsIn K mainGlobals "LONGEST" = some (some (.int 20 tK_LONGEST)))
    (aK_ENDS : PySem.W.nsIn K mainGlobals "ENDS" = some (some (.str c_ENDS tK_ENDS)))
    (aK_INNER : PySem.W.nsIn K mainGlobals "INNER" = some (some (.str c_INNER tK_INNER)))
    (n_abs : PySem.W.nsIn K mainGlobals "abs" = some none)
    (n_all : PySem.W.nsIn K mainGlobals "all" = some none)
    (n_bool : PySem.W.nsIn K mainGlobals "bool" = some none)
    (n_int : PySem.W.nsIn K mainGlobals "int" = some none)
    (n_isinstance : PySem.W.nsIn K mainGlobals "isinstance" = some none)
    (n_len : PySem.W.nsIn K mainGlobals "len" = some none)
    (n_list : PySem.W.nsIn K mainGlobals "list" = some none)
    (n_max : PySem.W.nsIn K mainGlobals "max" = some none)
    (n_min : PySem.W.nsIn K mainGlobals "min" = some none)
    (n_range : PySem.W.nsIn K mainGlobals "range" = some none)
    (n_sorted : PySem.W.nsIn K mainGlobals "sorted" = some none)
    (n_str : PySem.W.nsIn K mainGlobals "str" = some none)
    (n_sum : PySem.W.nsIn K mainGlobals "sum" = some none)
    (n_tuple : PySem.W.nsIn K mainGlobals "tuple" = some none)
    (u_TreeError_InvalidName : PySem.W.subIn K (.ref C0) (.ref C1) = some false)
    (u_InvalidName_InvalidName : PySem.W.subIn K (.ref C1) (.ref C1) = some true)
    (u_OutOfZone_InvalidName : PySem.W.subIn K (.ref C2) (.ref C1) = some false)
    (u_Unreadable_InvalidName : PySem.W.subIn K (.ref C3) (.ref C1) = some false)
    (u_TreeError_OutOfZone : PySem.W.subIn K (.ref C0) (.ref C2) = some false)
    (u_InvalidName_OutOfZone : PySem.W.subIn K (.ref C1) (.ref C2) = some false)
    (u_OutOfZone_OutOfZone : PySem.W.subIn K (.ref C2) (.ref C2) = some true)
    (u_Unreadable_OutOfZone : PySem.W.subIn K (.ref C3) (.ref C2) = some false)
    (kaC0 : PySem.W.findIn K (.ref C0) "__class__" = some (some (.builtin "object.__class__")))
    (kmC0 : PySem.W.mroIn K C0 (.type "object") = some true)
    (kaC1 : PySem.W.findIn K (.ref C1) "__class__" = some (some (.builtin "object.__class__")))
    (kmC1 : PySem.W.mroIn K C1 (.type "object") = some true)
    (kaC2 : PySem.W.findIn K (.ref C2) "__class__" = some (some (.builtin "object.__class__")))
    (kmC2 : PySem.W.mroIn K C2 (.type "object") = some true)
    (kaC3 : PySem.W.findIn K (.ref C3) "__class__" = some (some (.builtin "object.__class__")))
    (kmC3 : PySem.W.mroIn K C3 (.type "object") = some true)
    (kn : PySem.W.specialIn K (.builtin "object.__class__") "__get__" = some (some (.builtin "getset_descriptor.__get__")))
    (kt : PySem.W.takesIn K (.builtin "object.__class__") = some true)
    (u_TreeError_Unreadable : PySem.W.subIn K (.ref C0) (.ref C3) = some false)
    (u_InvalidName_Unreadable : PySem.W.subIn K (.ref C1) (.ref C3) = some false)
    (u_OutOfZone_Unreadable : PySem.W.subIn K (.ref C2) (.ref C3) = some false)
    (u_Unreadable_Unreadable : PySem.W.subIn K (.ref C3) (.ref C3) = some true) :
    ∃ fd : FuncData, (∀ (s : Shared) (v : Value), BindsTo s fd ⟨[v], []⟩ [("_law_script", v)]) ∧ ∀ base : Heap, K.In base → base.Ns mainGlobals mg → FnOk P w K mg base (L2.CX P w) 15 fa fd ["_law_script"] (spLaw K) := by
  have e := hfa.symm.trans (PySem.W.mg_of X G ad35)
  cases e
  refine ⟨PySem.W.fnOf "law" "law" (defArgs (top 48)) (defBody (top 48)) (defScope (top 48)) .none kVd35 dcd35 pmd35 and35 cdd35 ctd35, fun s v => .of_eq rfl, fun base _ _ => ?_⟩
  have FI := fun_mk (st := inClass (top 1) 0) lI cI kI
  have OI : FnOk P w K mg base (L2.CX P w) 1 fI _ ["self", "value"] (spExc K) := exc_init_ok FI ⟨rfl, rfl, rfl, by decide +kernel, rfl, by decide +kernel, by decide +kernel⟩ rfl rfl rfl
  have BI := FI.binds (ps := ["self", "value"]) fun _ _ _ _ _ _ us hl => match us, hl with | [_, _], _ => rfl
  have XC0 : XfC K C0 := ⟨gC0, hC0, xC0, dC0⟩
  have EC0 : ErrC K mg "TreeError" C0 fI := ⟨⟨⟨_, _, _, _, _, _, _, _, _, _, _, _, _, _, _, eC0, rC0⟩, sC0, xC0, yC0, kC0⟩, PySem.W.mg_of X G aC0, iC0, yI, vC0, XC0⟩
  have XC1 : XfC K C1 := ⟨gC1, hC1, xC1, dC1⟩
  have EC1 : ErrC K mg "InvalidName" C1 fI := ⟨⟨⟨_, _, _, _, _, _, _, _, _, _, _, _, _, _, _, eC1, rC1⟩, sC1, xC1, yC1, kC1⟩, PySem.W.mg_of X G aC1, iC1, yI, vC1, XC1⟩
  have XC2 : XfC K C2 := ⟨gC2, hC2, xC2, dC2⟩
  have EC2 : ErrC K mg "OutOfZone" C2 fI := ⟨⟨⟨_, _, _, _, _, _, _, _, _, _, _, _, _, _, _, eC2, rC2⟩, sC2, xC2, yC2, kC2⟩, PySem.W.mg_of X G aC2, iC2, yI, vC2, XC2⟩
  have XC3 : XfC K C3 := ⟨gC3, hC3, xC3, dC3⟩
  have EC3 : ErrC K mg "Unreadable" C3 fI := ⟨⟨⟨_, _, _, _, _, _, _, _, _, _, _, _, _, _, _, eC3, rC3⟩, sC3, xC3, yC3, kC3⟩, PySem.W.mg_of X G aC3, iC3, yI, vC3, XC3⟩
  let T : Txt P w K mg base := {
    D_ends_with := ⟨fd0, _, fun_mk (st := top 6) ld0 cd0 kd0, PySem.W.mg_of X G ad0, (fun_mk (st := top 6) ld0 cd0 kd0).binds (ps := ["name", "other"]) fun _ _ _ _ _ _ us hl => match us, hl with | [_, _], _ => rfl⟩,
    D_place := ⟨fd1, _, fun_mk (st := top 7) ld1 cd1 kd1, PySem.W.mg_of X G ad1, (fun_mk (st := top 7) ld1 cd1 kd1).binds (ps := ["name"]) fun _ _ _ _ _ _ us hl => match us, hl with | [_], _ => rfl⟩,
    D_in_order := ⟨fd2, _, fun_mk (st := top 8) ld2 cd2 kd2, PySem.W.mg_of X G ad2, (fun_mk (st := top 8) ld2 cd2 kd2).binds (ps := ["names"]) fun _ _ _ _ _ _ us hl => match us, hl with | [_], _ => rfl⟩,
    D_weight := ⟨fd3, _, fun_mk (st := top 9) ld3 cd3 kd3, PySem.W.mg_of X G ad3, (fun_mk (st := top 9) ld3 cd3 kd3).binds (ps := ["name"]) fun _ _ _ _ _ _ us hl => match us, hl with | [_], _ => rfl⟩,
    D_sized_place := ⟨fd4, _, fun_mk (st := top 10) ld4 cd4 kd4, PySem.W.mg_of X G ad4, (fun_mk (st := top 10) ld4 cd4 kd4).binds (ps := ["name"]) fun _ _ _ _ _ _ us hl => match us, hl with | [_], _ => rfl⟩,
    D_rebuilt := ⟨fd5, _, fun_mk (st := top 12) ld5 cd5 kd5, PySem.W.mg_of X G ad5, (fun_mk (st := top 12) ld5 cd5 kd5).binds (ps := ["value"]) fun _ _ _ _ _ _ us hl => match us, hl with | [_], _ => rfl⟩,
    D__is_plain := ⟨fd6, _, fun_mk (st := top 18) ld6 cd6 kd6, PySem.W.mg_of X G ad6, (fun_mk (st := top 18) ld6 cd6 kd6).binds (ps := ["text"]) fun _ _ _ _ _ _ us hl => match us, hl with | [_], _ => rfl⟩,
    D_is_name := ⟨fd7, _, fun_mk (st := top 19) ld7 cd7 kd7, PySem.W.mg_of X G ad7, (fun_mk (st := top 19) ld7 cd7 kd7).binds (ps := ["value"]) fun _ _ _ _ _ _ us hl => match us, hl with | [_], _ => rfl⟩,
    D_is_asked := ⟨fd8, _, fun_mk (st := top 20) ld8 cd8 kd8, PySem.W.mg_of X G ad8, (fun_mk (st := top 20) ld8 cd8 kd8).binds (ps := ["value"]) fun _ _ _ _ _ _ us hl => match us, hl with | [_], _ => rfl⟩,
    D_check_name := ⟨fd9, _, fun_mk (st := top 21) ld9 cd9 kd9, PySem.W.mg_of X G ad9, (fun_mk (st := top 21) ld9 cd9 kd9).binds (ps := ["name"]) fun _ _ _ _ _ _ us hl => match us, hl with | [_], _ => rfl⟩,
    D_check_names := ⟨fd10, _, fun_mk (st := top 22) ld10 cd10 kd10, PySem.W.mg_of X G ad10, (fun_mk (st := top 22) ld10 cd10 kd10).binds (ps := ["names"]) fun _ _ _ _ _ _ us hl => match us, hl with | [_], _ => rfl⟩,
    D_is_under := ⟨fd11, _, fun_mk (st := top 23) ld11 cd11 kd11, PySem.W.mg_of X G ad11, (fun_mk (st := top 23) ld11 cd11 kd11).binds (ps := ["name", "other"]) fun _ _ _ _ _ _ us hl => match us, hl with | [_, _], _ => rfl⟩,
    k_is_under_1_0 := fun s ws _ hl => match ws, hl with | [_, _], _ => .of_eq rfl,
    D_labels_ahead := ⟨fd12, _, fun_mk (st := top 24) ld12 cd12 kd12, PySem.W.mg_of X G ad12, (fun_mk (st := top 24) ld12 cd12 kd12).binds (ps := ["name", "other"]) fun _ _ _ _ _ _ us hl => match us, hl with | [_, _], _ => rfl⟩,
    k_labels_ahead_1_0 := fun s ws _ hl => match ws, hl with | [_, _], _ => .of_eq rfl,
    D_common := ⟨fd13, _, fun_mk (st := top 25) ld13 cd13 kd13, PySem.W.mg_of X G ad13, (fun_mk (st := top 25) ld13 cd13 kd13).binds (ps := ["one", "other"]) fun _ _ _ _ _ _ us hl => match us, hl with | [_, _], _ => rfl⟩,
    k_common_1_0 := fun s ws _ hl => match ws, hl with | [_, _], _ => .of_eq rfl,
    D_compared := ⟨fd14, _, fun_mk (st := top 26) ld14 cd14 kd14, PySem.W.mg_of X G ad14, (fun_mk (st := top 26) ld14 cd14 kd14).binds (ps := ["one", "other"]) fun _ _ _ _ _ _ us hl => match us, hl with | [_, _], _ => rfl⟩,
    k_compared_1_0 := fun s ws _ hl => match ws, hl with | [_, _], _ => .of_eq rfl,
    D_ordered := ⟨fd15, _, fun_mk (st := top 27) ld15 cd15 kd15, PySem.W.mg_of X G ad15, (fun_mk (st := top 27) ld15 cd15 kd15).binds (ps := ["names"]) fun _ _ _ _ _ _ us hl => match us, hl with | [_], _ => rfl⟩,
    k_ordered := fun s ws _ hl => match ws, hl with | [_], _ => .of_eq rfl,
    D_neighbours := ⟨fd16, _, fun_mk (st := top 28) ld16 cd16 kd16, PySem.W.mg_of X G ad16, (fun_mk (st := top 28) ld16 cd16 kd16).binds (ps := ["names", "name"]) fun _ _ _ _ _ _ us hl => match us, hl with | [_, _], _ => rfl⟩,
    k_neighbours_1_0 := fun s ws _ hl => match ws, hl with | [_, _], _ => .of_eq rfl,
    D_size := ⟨fd17, _, fun_mk (st := top 29) ld17 cd17 kd17, PySem.W.mg_of X G ad17, (fun_mk (st := top 29) ld17 cd17 kd17).binds (ps := ["name"]) fun _ _ _ _ _ _ us hl => match us, hl with | [_], _ => rfl⟩,
    k_size := fun s ws _ hl => match ws, hl with | [_], _ => .of_eq rfl,
    D_first := ⟨fd18, _, fun_mk (st := top 30) ld18 cd18 kd18, PySem.W.mg_of X G ad18, (fun_mk (st := top 30) ld18 cd18 kd18).binds (ps := ["names"]) fun _ _ _ _ _ _ us hl => match us, hl with | [_], _ => rfl⟩,
    k_first := fun s ws _ hl => match ws, hl with | [_], _ => .of_eq rfl,
    D__law_pot := ⟨fd19, _, fun_mk (st := top 32) ld19 cd19 kd19, PySem.W.mg_of X G ad19, (fun_mk (st := top 32) ld19 cd19 kd19).binds (ps := ["_law_script", "_law_k"]) fun _ _ _ _ _ _ us hl => match us, hl with | [_, _], _ => rfl⟩,
    D__law_take := ⟨fd20, _, fun_mk (st := top 33) ld20 cd20 kd20, PySem.W.mg_of X G ad20, (fun_mk (st := top 33) ld20 cd20 kd20).binds (ps := ["_law_pot_here", "_law_many"]) fun _ _ _ _ _ _ us hl => match us, hl with | [_, _], _ => rfl⟩,
    D__law_same := ⟨fd21, _, fun_mk (st := top 34) ld21 cd21 kd21, PySem.W.mg_of X G ad21, (fun_mk (st := top 34) ld21 cd21 kd21).binds (ps := ["_law_told", "_law_due"]) fun _ _ _ _ _ _ us hl => match us, hl with | [_, _], _ => rfl⟩,
    D__law_label := ⟨fd22, _, fun_mk (st := top 35) ld22 cd22 kd22, PySem.W.mg_of X G ad22, (fun_mk (st := top 35) ld22 cd22 kd22).binds (ps := ["_law_pot_here"]) fun _ _ _ _ _ _ us hl => match us, hl with | [_], _ => rfl⟩,
    D__law_words := ⟨fd23, _, fun_mk (st := top 36) ld23 cd23 kd23, PySem.W.mg_of X G ad23, (fun_mk (st := top 36) ld23 cd23 kd23).binds (ps := ["_law_pot_here", "_law_many"]) fun _ _ _ _ _ _ us hl => match us, hl with | [_, _], _ => rfl⟩,
    D__law_odd := ⟨fd24, _, fun_mk (st := top 37) ld24 cd24 kd24, PySem.W.mg_of X G ad24, (fun_mk (st := top 37) ld24 cd24 kd24).binds (ps := ["_law_pot_here"]) fun _ _ _ _ _ _ us hl => match us, hl with | [_], _ => rfl⟩,
    D__law_name := ⟨fd25, _, fun_mk (st := top 38) ld25 cd25 kd25, PySem.W.mg_of X G ad25, (fun_mk (st := top 38) ld25 cd25 kd25).binds (ps := ["_law_pot_here", "_law_words_here"]) fun _ _ _ _ _ _ us hl => match us, hl with | [_, _], _ => rfl⟩,
    D__law_ahead := ⟨fd26, _, fun_mk (st := top 39) ld26 cd26 kd26, PySem.W.mg_of X G ad26, (fun_mk (st := top 39) ld26 cd26 kd26).binds (ps := ["_law_one", "_law_other"]) fun _ _ _ _ _ _ us hl => match us, hl with | [_, _], _ => rfl⟩,
    D__law_order := ⟨fd27, _, fun_mk (st := top 40) ld27 cd27 kd27, PySem.W.mg_of X G ad27, (fun_mk (st := top 40) ld27 cd27 kd27).binds (ps := ["_law_names"]) fun _ _ _ _ _ _ us hl => match us, hl with | [_], _ => rfl⟩,
    D__law_size := ⟨fd28, _, fun_mk (st := top 41) ld28 cd28 kd28, PySem.W.mg_of X G ad28, (fun_mk (st := top 41) ld28 cd28 kd28).binds (ps := ["_law_name_here"]) fun _ _ _ _ _ _ us hl => match us, hl with | [_], _ => rfl⟩,
    D__law_first := ⟨fd29, _, fun_mk (st := top 42) ld29 cd29 kd29, PySem.W.mg_of X G ad29, (fun_mk (st := top 42) ld29 cd29 kd29).binds (ps := ["_law_names"]) fun _ _ _ _ _ _ us hl => match us, hl with | [_], _ => rfl⟩,
    D__law_lists_right := ⟨fd30, _, fun_mk (st := top 43) ld30 cd30 kd30, PySem.W.mg_of X G ad30, (fun_mk (st := top 43) ld30 cd30 kd30).binds (ps := ["_law_pot_here", "_law_words_here"]) fun _ _ _ _ _ _ us hl => match us, hl with | [_, _], _ => rfl⟩,
    D__law_pairs_right := ⟨fd31, _, fun_mk (st := top 44) ld31 cd31 kd31, PySem.W.mg_of X G ad31, (fun_mk (st := top 44) ld31 cd31 kd31).binds (ps := ["_law_pot_here", "_law_words_here"]) fun _ _ _ _ _ _ us hl => match us, hl with | [_, _], _ => rfl⟩,
    D__law_labels_ahead := ⟨fd32, _, fun_mk (st := top 45) ld32 cd32 kd32, PySem.W.mg_of X G ad32, (fun_mk (st := top 45) ld32 cd32 kd32).binds (ps := ["_law_one", "_law_other"]) fun _ _ _ _ _ _ us hl => match us, hl with | [_, _], _ => rfl⟩,
    D__law_refused := ⟨fd33, _, fun_mk (st := top 46) ld33 cd33 kd33, PySem.W.mg_of X G ad33, (fun_mk (st := top 46) ld33 cd33 kd33).binds (ps := ["_law_way", "_law_one", "_law_other"]) fun _ _ _ _ _ _ us hl => match us, hl with | [_, _, _], _ => rfl⟩,
    D__law_refusals_right := ⟨fd34, _, fun_mk (st := top 47) ld34 cd34 kd34, PySem.W.mg_of X G ad34, (fun_mk (st := top 47) ld34 cd34 kd34).binds (ps := ["_law_pot_here", "_law_words_here"]) fun _ _ _ _ _ _ us hl => match us, hl with | [_, _], _ => rfl⟩,
    D_law := ⟨fa, _, fun_mk (st := top 48) ld35 cd35 kd35, PySem.W.mg_of X G ad35, (fun_mk (st := top 48) ld35 cd35 kd35).binds (ps := ["_law_script"]) fun _ _ _ _ _ _ us hl => match us, hl with | [_], _ => rfl⟩,
    E_TreeError := ⟨C0, fI, _, EC0, OI, BI⟩,
    E_InvalidName := ⟨C1, fI, _, EC1, OI, BI⟩,
    E_OutOfZone := ⟨C2, fI, _, EC2, OI, BI⟩,
    E_Unreadable := ⟨C3, fI, _, EC3, OI, BI⟩,
    c_WILD := ⟨_, PySem.W.mg_of X G aK_WILD⟩,
    c_LONGEST := ⟨_, PySem.W.mg_of X G aK_LONGEST⟩,
    c_ENDS := ⟨_, PySem.W.mg_of X G aK_ENDS⟩,
    c_INNER := ⟨_, PySem.W.mg_of X G aK_INNER⟩,
    n_abs := PySem.W.mg_none_of X G n_abs,
    n_all := PySem.W.mg_none_of X G n_all,
    n_bool := PySem.W.mg_none_of X G n_bool,
    n_int := PySem.W.mg_none_of X G n_int,
    n_isinstance := PySem.W.mg_none_of X G n_isinstance,
    n_len := PySem.W.mg_none_of X G n_len,
    n_list := PySem.W.mg_none_of X G n_list,
    n_max := PySem.W.mg_none_of X G n_max,
    n_min := PySem.W.mg_none_of X G n_min,
    n_range := PySem.W.mg_none_of X G n_range,
    n_sorted := PySem.W.mg_none_of X G n_sorted,
    n_str := PySem.W.mg_none_of X G n_str,
    n_sum := PySem.W.mg_none_of X G n_sum,
    n_tuple := PySem.W.mg_none_of X G n_tuple,
    sub_InvalidName := mem_all (⟨⟨C0, EC0.mgC, PySem.W.exm_ref xC1 dC1 yC1 u_TreeError_InvalidName, XC0, vC0⟩, ⟨⟨C1, EC1.mgC, PySem.W.exm_ref xC1 dC1 yC1 u_InvalidName_InvalidName, XC1, vC1⟩, ⟨⟨C2, EC2.mgC, PySem.W.exm_ref xC1 dC1 yC1 u_OutOfZone_InvalidName, XC2, vC2⟩, ⟨⟨C3, EC3.mgC, PySem.W.exm_ref xC1 dC1 yC1 u_Unreadable_InvalidName, XC3, vC3⟩, trivial⟩⟩⟩⟩),
    sub_OutOfZone := mem_all (⟨⟨C0, EC0.mgC, PySem.W.exm_ref xC2 dC2 yC2 u_TreeError_OutOfZone, XC0, vC0⟩, ⟨⟨C1, EC1.mgC, PySem.W.exm_ref xC2 dC2 yC2 u_InvalidName_OutOfZone, XC1, vC1⟩, ⟨⟨C2, EC2.mgC, PySem.W.exm_ref xC2 dC2 yC2 u_OutOfZone_OutOfZone, XC2, vC2⟩, ⟨⟨C3, EC3.mgC, PySem.W.exm_ref xC2 dC2 yC2 u_Unreadable_OutOfZone, XC3, vC3⟩, trivial⟩⟩⟩⟩),
    xc_OutOfZone := mem_all (⟨⟨C0, EC0.mgC, ⟨cls_some dC0, kaC0, kn, kt, kmC0⟩, (kit_ref dC2 yC2 u_OutOfZone_OutOfZone u_TreeError_OutOfZone)⟩, ⟨⟨C1, EC1.mgC, ⟨cls_some dC1, kaC1, kn, kt, kmC1⟩, (kit_ref dC2 yC2 u_OutOfZone_OutOfZone u_InvalidName_OutOfZone)⟩, ⟨⟨C2, EC2.mgC, ⟨cls_some dC2, kaC2, kn, kt, kmC2⟩, (kit_ref dC2 yC2 u_OutOfZone_OutOfZone u_OutOfZone_OutOfZone)⟩, ⟨⟨C3, EC3.mgC, ⟨cls_some dC3, kaC3, kn, kt, kmC3⟩, (kit_ref dC2 yC2 u_OutOfZone_OutOfZone u_Unreadable_OutOfZone)⟩, trivial⟩⟩⟩⟩),
    xc_Unreadable := mem_all (⟨⟨C0, EC0.mgC, ⟨cls_some dC0, kaC0, kn, kt, kmC0⟩, (kit_ref dC3 yC3 u_Unreadable_Unreadable u_TreeError_Unreadable)⟩, ⟨⟨C1, EC1.mgC, ⟨cls_some dC1, kaC1, kn, kt, kmC1⟩, (kit_ref dC3 yC3 u_Unreadable_Unreadable u_InvalidName_Unreadable)⟩, ⟨⟨C2, EC2.mgC, ⟨cls_some dC2, kaC2, kn, kt, kmC2⟩, (kit_ref dC3 yC3 u_Unreadable_Unreadable u_OutOfZone_Unreadable)⟩, ⟨⟨C3, EC3.mgC, ⟨cls_some dC3, kaC3, kn, kt, kmC3⟩, (kit_ref dC3 yC3 u_Unreadable_Unreadable u_Unreadable_Unreadable)⟩, trivial⟩⟩⟩⟩) }
  exact law_end (fn_law T) law_true
theorem walk {l : PySem.W.OpenLaw} {q : Program} {loose : List Str} {XP : (Str → Option Value) → Heap → Prop} {YP : World → Heap → Prop} {d : DefRec} {K : Params → PySem.W.Frag} (hn : l.most = some 63) (hdf : d.params.defaults = [])
    (hY : ∀ (w : World) (h : Heap), YP w h → (K w.params).In h)
    (F : ∀ (w : World) (mg : Str → Option Value) (fa : Addr) (h : Heap), (K w.params).In h → h.Ns mainGlobals mg → mg d.name = some (.ref fa) →
      ∃ fd : FuncData, (∀ (s : Shared) (u : Value), BindsTo s fd ⟨[u], []⟩ [("_law_script", u)]) ∧ ∀ base : Heap, (K w.params).In base → base.Ns mainGlobals mg → FnOk l.prog w (K w.params) mg base (L2.CX l.prog w) 15 fa fd ["_law_script"] (spLaw (K w.params))) :
    PySem.W.WalkO q loose XP YP l.row.toRowW d [] (fun f vs => PySem.call f vs) :=
  L2.walk_ofB (n := 63) (k := 15) (x := "_law_script") (CX := fun w => L2.CX l.prog w) (sp := fun w => spLaw (K w.params)) hn (by decide) hdf ⟨rfl, by decide, by decide⟩ hY F (fun _ _ a ns hl hb hO hS => ⟨a, ns, rfl, hO, hS, hl, hb, fun _ => rfl⟩) (fun _ _ _ _ _ z => by obtain ⟨_, _, _, _, _, _, _, _, _, _, _, _, z⟩ := z; exact z.elim)
end
end K02
open PySem PySem.W PyProof.Rows
theorem PySem.Challenge.cw_rootward_k02_order_and_sizes_holds : PySem.Challenge.rw_rootward_k02_order_and_sizes.Holds := by
  w_on; o_law; k_head; (case hw => w_witness2)
  k_fill
  refine K02.walk (l := PySem.Challenge.rw_rootward_k02_order_and_sizes) rfl rfl (fun w h Y => PySem.W.kIn_of Y) ?F
  case F =>
    intro w mg fa h KX G hmg
    refine' K02.all_mk KX G hmg ?ad0 ?ld0 ?cd0 ?kd0 ?ad1 ?ld1 ?cd1 ?kd1 ?ad2 ?ld2 ?cd2 ?kd2 ?ad3 ?ld3 ?cd3 ?kd3 ?ad4 ?ld4 ?cd4 ?kd4 ?ad5 ?ld5 ?cd5 ?kd5 ?ad6 ?ld6 ?cd6 ?kd6 ?ad7 ?ld7 ?cd7 ?kd7 ?ad8 ?ld8 ?cd8 ?kd8 ?ad9 ?ld9 ?cd9 ?kd9 ?ad10 ?ld10 ?cd10 ?kd10 ?ad11 ?ld11 ?cd11 ?kd11 ?ad12 ?ld12 ?cd12 ?kd12 ?ad13 ?ld13 ?cd13 ?kd13 ?ad14 ?ld14 ?cd14 ?kd14 ?ad15 ?ld15 ?cd15 ?kd15 ?ad16 ?ld16 ?cd16 ?kd16 ?ad17 ?ld17 ?cd17 ?kd17 ?ad18 ?ld18 ?cd18 ?kd18 ?ad19 ?ld19 ?cd19 ?kd19 ?ad20 ?ld20 ?cd20 ?kd20 ?ad21 ?ld21 ?cd21 ?kd21 ?ad22 ?ld22 ?cd22 ?kd22 ?ad23 ?ld23 ?cd23 ?kd23 ?ad24 ?ld24 ?cd24 ?kd24 ?ad25 ?ld25 ?cd25 ?kd25 ?ad26 ?ld26 ?cd26 ?kd26 ?ad27 ?ld27 ?cd27 ?kd27 ?ad28 ?ld28 ?cd28 ?kd28 ?ad29 ?ld29 ?cd29 ?kd29 ?ad30 ?ld30 ?cd30 ?kd30 ?ad31 ?ld31 ?cd31 ?kd31 ?ad32 ?ld32 ?cd32 ?kd32 ?ad33 ?ld33 ?cd33 ?kd33 ?ad34 ?ld34 ?cd34 ?kd34 ?ad35 ?ld35 ?cd35 ?kd35 ?aC0 ?iC0 ?aC1 ?iC1 ?aC2 ?iC2 ?aC3 ?iC3 ?lI ?cI ?kI ?yI ?eC0 ?rC0 ?sC0 ?xC0 ?yC0 ?kC0 ?vC0 ?gC0 ?hC0 ?dC0 ?eC1 ?rC1 ?sC1 ?xC1 ?yC1 ?kC1 ?vC1 ?gC1 ?hC1 ?dC1 ?eC2 ?rC2 ?sC2 ?xC2 ?yC2 ?kC2 ?vC2 ?gC2 ?hC2 ?dC2 ?eC3 ?rC3 ?sC3 ?xC3 ?yC3 ?kC3 ?vC3 ?gC3 ?hC3 ?dC3 ?aK_WILD ?aK_LONGEST ?aK_ENDS ?aK_INNER ?n_abs ?n_all ?n_bool ?n_int ?n_isinstance ?n_len ?n_list ?n_max ?n_min ?n_range ?n_sorted ?n_str ?n_sum ?n_tuple ?u_TreeError_InvalidName ?u_InvalidName_InvalidName ?u_OutOfZone_InvalidName ?u_Unreadable_InvalidName ?u_TreeError_OutOfZone ?u_InvalidName_OutOfZone ?u_OutOfZone_OutOfZone ?u_Unreadable_OutOfZone ?kaC0 ?kmC0 ?kaC1 ?kmC1 ?kaC2 ?kmC2 ?kaC3 ?kmC3 ?kn ?kt ?u_TreeError_Unreadable ?u_InvalidName_Unreadable ?u_OutOfZone_Unreadable ?u_Unreadable_Unreadable
    (case ad0 => k_is)
    (case ld0 => k_is)
    (case cd0 => k_is)
    (case kd0 => k_is)
    (case ad1 => k_is)
    (case ld1 => k_is)
    (case cd1 => k_is)
    (case kd1 => k_is)
    (case ad2 => k_is)
    (case ld2 => k_is)
    (case cd2 => k_is)
    (case kd2 => k_is)
    (case ad3 => k_is)
    (case ld3 => k_is)
    (case cd3 => k_is)
    (case kd3 => k_is)
    (case ad4 => k_is)
    (case ld4 => k_is)
    (case cd4 => k_is)
    (case kd4 => k_is)
    (case ad5 => k_is)
    (case ld5 => k_is)
    (case cd5 => k_is)
    (case kd5 => k_is)
    (case ad6 => k_is)
    (case ld6 => k_is)
    (case cd6 => k_is)
    (case kd6 => k_is)
    (case ad7 => k_is)
    (case ld7 => k_is)
    (case cd7 => k_is)
    (case kd7 => k_is)
    (case ad8 => k_is)
    (case ld8 => k_is)
    (case cd8 => k_is)
    (case kd8 => k_is)
    (case ad9 => k_is)
    (case ld9 => k_is)
    (case cd9 => k_is)
    (case kd9 => k_is)
    (case ad10 => k_is)
    (case ld10 => k_is)
    (case cd10 => k_is)
    (case kd10 => k_is)
    (case ad11 => k_is)
    (case ld11 => k_is)
    (case cd11 => k_is)
    (case kd11 => k_is)
    (case ad12 => k_is)
    (case ld12 => k_is)
    (case cd12 => k_is)
    (case kd12 => k_is)
    (case ad13 => k_is)
    (case ld13 => k_is)
    (case cd13 => k_is)
    (case kd13 => k_is)
    (case ad14 => k_is)
    (case ld14 => k_is)
    (case cd14 => k_is)
    (case kd14 => k_is)
    (case ad15 => k_is)
    (case ld15 => k_is)
    (case cd15 => k_is)
    (case kd15 => k_is)
    (case ad16 => k_is)
    (case ld16 => k_is)
    (case cd16 => k_is)
    (case kd16 => k_is)
    (case ad17 => k_is)
    (case ld17 => k_is)
    (case cd17 => k_is)
    (case kd17 => k_is)
    (case ad18 => k_is)
    (case ld18 => k_is)
    (case cd18 => k_is)
    (case kd18 => k_is)
    (case ad19 => k_is)
    (case ld19 => k_is)
    (case cd19 => k_is)
    (case kd19 => k_is)
    (case ad20 => k_is)
    (case ld20 => k_is)
    (case cd20 => k_is)
    (case kd20 => k_is)
    (case ad21 => k_is)
    (case ld21 => k_is)
    (case cd21 => k_is)
    (case kd21 => k_is)
    (case ad22 => k_is)
    (case ld22 => k_is)
    (case cd22 => k_is)
    (case kd22 => k_is)
    (case ad23 => k_is)
    (case ld23 => k_is)
    (case cd23 => k_is)
    (case kd23 => k_is)
    (case ad24 => k_is)
    (case ld24 => k_is)
    (case cd24 => k_is)
    (case kd24 => k_is)
    (case ad25 => k_is)
    (case ld25 => k_is)
    (case cd25 => k_is)
    (case kd25 => k_is)
    (case ad26 => k_is)
    (case ld26 => k_is)
    (case cd26 => k_is)
    (case kd26 => k_is)
    (case ad27 => k_is)
    (case ld27 => k_is)
    (case cd27 => k_is)
    (case kd27 => k_is)
    (case ad28 => k_is)
    (case ld28 => k_is)
    (case cd28 => k_is)
    (case kd28 => k_is)
    (case ad29 => k_is)
    (case ld29 => k_is)
    (case cd29 => k_is)
    (case kd29 => k_is)
    (case ad30 => k_is)
    (case ld30 => k_is)
    (case cd30 => k_is)
    (case kd30 => k_is)
    (case ad31 => k_is)
    (case ld31 => k_is)
    (case cd31 => k_is)
    (case kd31 => k_is)
    (case ad32 => k_is)
    (case ld32 => k_is)
    (case cd32 => k_is)
    (case kd32 => k_is)
    (case ad33 => k_is)
    (case ld33 => k_is)
    (case cd33 => k_is)
    (case kd33 => k_is)
    (case ad34 => k_is)
    (case ld34 => k_is)
    (case cd34 => k_is)
    (case kd34 => k_is)
    (case ad35 => k_is)
    (case ld35 => k_is)
    (case cd35 => k_is)
    (case kd35 => k_is)
    (case aC0 => k_is)
    (case iC0 => k_is)
    (case aC1 => k_is)
    (case iC1 => k_is)
    (case aC2 => k_is)
    (case iC2 => k_is)
    (case aC3 => k_is)
    (case iC3 => k_is)
    (case lI => k_is)
    (case cI => k_is)
    (case kI => k_is)
    (case yI => k_is)
    (case eC0 => k_is)
    (case rC0 => first | k_is | decide +kernel)
    (case sC0 => k_is)
    (case xC0 => k_is)
    (case yC0 => k_is)
    (case kC0 => k_is)
    (case vC0 => k_is)
    (case gC0 => k_is)
    (case hC0 => k_is)
    (case dC0 => k_is)
    (case eC1 => k_is)
    (case rC1 => first | k_is | decide +kernel)
    (case sC1 => k_is)
    (case xC1 => k_is)
    (case yC1 => k_is)
    (case kC1 => k_is)
    (case vC1 => k_is)
    (case gC1 => k_is)
    (case hC1 => k_is)
    (case dC1 => k_is)
    (case eC2 => k_is)
    (case rC2 => first | k_is | decide +kernel)
    (case sC2 => k_is)
    (case xC2 => k_is)
    (case yC2 => k_is)
    (case kC2 => k_is)
    (case vC2 => k_is)
    (case gC2 => k_is)
    (case hC2 => k_is)
    (case dC2 => k_is)
    (case eC3 => k_is)
    (case rC3 => first | k_is | decide +kernel)
    (case sC3 => k_is)
    (case xC3 => k_is)
    (case yC3 => k_is)
    (case kC3 => k_is)
    (case vC3 => k_is)
    (case gC3 => k_is)
    (case hC3 => k_is)
    (case dC3 => k_is)
    (case aK_WILD => k_is)
    (case aK_LONGEST => k_is)
    (case aK_ENDS => k_is)
    (case aK_INNER => k_is)
    (case n_abs => k_is)
    (case n_all => k_is)
    (case n_bool => k_is)
    (case n_int => k_is)
    (case n_isinstance => k_is)
    (case n_len => k_is)
    (case n_list => k_is)
    (case n_max => k_is)
    (case n_min => k_is)
    (case n_range => k_is)
    (case n_sorted => k_is)
    (case n_str => k_is)
    (case n_sum => k_is)
    (case n_tuple => k_is)
    (case u_TreeError_InvalidName => k_is)
    (case u_InvalidName_InvalidName => k_is)
    (case u_OutOfZone_InvalidName => k_is)
    (case u_Unreadable_InvalidName => k_is)
    (case u_TreeError_OutOfZone => k_is)
    (case u_InvalidName_OutOfZone => k_is)
    (case u_OutOfZone_OutOfZone => k_is)
    (case u_Unreadable_OutOfZone => k_is)
    (case kaC0 => k_is)
    (case kmC0 => k_is)
    (case kaC1 => k_is)
    (case kmC1 => k_is)
    (case kaC2 => k_is)
    (case kmC2 => k_is)
    (case kaC3 => k_is)
    (case kmC3 => k_is)
    (case kn => k_is)
    (case kt => k_is)
    (case u_TreeError_Unreadable => k_is)
    (case u_InvalidName_Unreadable => k_is)
    (case u_OutOfZone_Unreadable => k_is)
    (case u_Unreadable_Unreadable => k_is)
