import PyProof.Rows.All
import Wide.All
import OpenK.AllK
import Wide.FinOn
import HandS.ForMost
import HandS.IsInst
import HandS.Deep
import HandS.Wide
import HandS.TupAny
import HandS.ForExc
import HandS.Defaults
import HandS.HeadEnd
import HandS.HeadHook4
import KE.KStateDown
import HandS.More
import HandS.Head0
import HandS.Head1
import HandS.Head2
import HandS.HeadHook1
import HandS.HeadHook2
import PySem.Challenge.RW_factsandfar_k01_concepts_and_axioms
set_option Elab.async false
set_option linter.all false
set_option maxRecDepth 100000
set_option maxHeartbeats 4000000
namespace DI
open PySem L2

/-- a value: tuples, and lists that nobody writes, by what they hold; lists and dicts by their number in the store -/
inductive W where
  | non | bl (b : Bool) | int (i : Int) | str (x : Str) | tup (ws : List W) | ils (ws : List W) | ref (n : Nat)
/-- what stands in the store: a list, an empty dict -/
inductive Ob where
  | lst (ws : List W) | emp
abbrev Sto := List Ob
abbrev Evn := List (Option W)

/-- a list that nobody writes -/
def FzL (K : PySem.W.Frag) (H : Hp) (a : Addr) (xs : List V) : Prop :=
  (∃ o, H a = some (.frz o (.lst xs))) ∨ ∃ (o : Obj) (its : Array Value) (n : Nat), K.lookup a = some o ∧ o.cls = .type "list" ∧ o.dict = none ∧ o.data = .seq its n ∧ its.size ≤ sizeLine ∧ Vals xs its.toList
theorem FzL.sq {K : PySem.W.Frag} {H : Hp} {a : Addr} {xs : List V} (h : FzL K H a xs) : SqL K H a xs := h.elim (fun ⟨o, h⟩ => .inl (.inr ⟨o, h⟩)) .inr
mutual
inductive Rep (K : PySem.W.Frag) (H : Hp) (ρ : List Addr) : W → V → Prop
  | non : Rep K H ρ .non .non
  | bl (b : Bool) : Rep K H ρ (.bl b) (.bl b)
  | int (i : Int) : Rep K H ρ (.int i) (.int i)
  | str (x : Str) : Rep K H ρ (.str x) (.str x)
  | tup {a : Addr} {xs : List V} {ws : List W} : SqT K H a xs → RepAll K H ρ ws xs → Rep K H ρ (.tup ws) (.ref a)
  | ils {a : Addr} {xs : List V} {ws : List W} : FzL K H a xs → RepAll K H ρ ws xs → Rep K H ρ (.ils ws) (.ref a)
  | ref {n : Nat} {a : Addr} : ρ[n]? = some a → Rep K H ρ (.ref n) (.ref a)
inductive RepAll (K : PySem.W.Frag) (H : Hp) (ρ : List Addr) : List W → List V → Prop
  | nil : RepAll K H ρ [] []
  | cons {w : W} {ws : List W} {v : V} {vs : List V} : Rep K H ρ w v → RepAll K H ρ ws vs → RepAll K H ρ (w :: ws) (v :: vs)
end

def ObR (K : PySem.W.Frag) (H : Hp) (ρ : List Addr) (a : Addr) : Ob → Prop
  | .lst ws => ∃ xs, H a = some (.lst xs) ∧ RepAll K H ρ ws xs
  | .emp => H a = some (.dK [])
structure HR (K : PySem.W.Frag) (H : Hp) (ρ : List Addr) (st : Sto) : Prop where
  len : ρ.length = st.length
  nd : ρ.Nodup
  ob : ∀ (n : Nat) (a : Addr) (o : Ob), ρ[n]? = some a → st[n]? = some o → ObR K H ρ a o
/-- what may have happened: new objects, changes of numbered ones -/
structure Ext (H : Hp) (ρ : List Addr) (H' : Hp) (ρ' : List Addr) : Prop where
  pre : ∃ l, ρ' = ρ ++ l
  keep : ∀ a o, H a = some o → a ∉ ρ → H' a = some o
  new : ∀ a, a ∈ ρ' → a ∈ ρ ∨ H a = none

section
variable {K : PySem.W.Frag} {H H1 H2 : Hp} {ρ ρ1 ρ2 : List Addr} {st st1 : Sto}
theorem Ext.refl (H : Hp) (ρ : List Addr) : Ext H ρ H ρ := ⟨⟨[], by simp⟩, fun _ _ h _ => h, fun _ h => .inl h⟩
theorem Ext.trans (a : Ext H ρ H1 ρ1) (b : Ext H1 ρ1 H2 ρ2) : Ext H ρ H2 ρ2 := by
  obtain ⟨⟨l, rfl⟩, ka, na⟩ := a
  obtain ⟨⟨m, rfl⟩, kb, nb⟩ := b
  refine ⟨⟨l ++ m, by simp⟩, fun x o h hx => kb x o (ka x o h hx) fun z => ?_, fun x hx => ?_⟩
  · rcases na x z with z | z
    · exact hx z
    · rw [h] at z; cases z
  · rcases nb x hx with z | z
    · exact na x z
    · cases e : H x with
      | none => exact .inr rfl
      | some o =>
        by_cases hm : x ∈ ρ
        · exact .inl hm
        · rw [ka x o e hm] at z; cases z
theorem Ext.at (e : Ext H ρ H1 ρ1) {n : Nat} {a : Addr} (h : ρ[n]? = some a) : ρ1[n]? = some a := by
  obtain ⟨⟨l, rfl⟩, _, _⟩ := e
  rw [List.getElem?_append_left (List.getElem?_eq_some_iff.mp h).1]
  exact h
theorem HR.notup (R : HR K H ρ st) {a : Addr} {xs : List V} (h : Rd H a (.tup xs)) : a ∉ ρ := by
  intro ha
  obtain ⟨n, hn⟩ := List.mem_iff_getElem?.mp ha
  have hl : n < st.length := by rw [← R.len]; exact (List.getElem?_eq_some_iff.mp hn).1
  have q := R.ob n a st[n] hn (by simp [hl])
  cases ho : st[n] with
  | lst ws =>
    rw [ho] at q
    obtain ⟨ys, e, _⟩ := q
    rcases h with h | ⟨o, h⟩ <;> (rw [e] at h; cases h)
  | emp =>
    rw [ho] at q
    have e : H a = some (.dK []) := q
    rcases h with h | ⟨o, h⟩ <;> (rw [e] at h; cases h)
theorem HR.nofrz (R : HR K H ρ st) {a : Addr} {o : Obj} {u : HO} (h : H a = some (.frz o u)) : a ∉ ρ := by
  intro ha
  obtain ⟨n, hn⟩ := List.mem_iff_getElem?.mp ha
  have hl : n < st.length := by rw [← R.len]; exact (List.getElem?_eq_some_iff.mp hn).1
  have q := R.ob n a st[n] hn (by simp [hl])
  cases ho : st[n] with
  | lst ws => rw [ho] at q; obtain ⟨ys, e, _⟩ := q; rw [e] at h; cases h
  | emp => rw [ho] at q; have e : H a = some (.dK []) := q; rw [e] at h; cases h
theorem FzL.mono (R : HR K H ρ st) (e : Ext H ρ H1 ρ1) {a : Addr} {xs : List V} (h : FzL K H a xs) : FzL K H1 a xs := by
  rcases h with ⟨o, h⟩ | h
  · exact .inl ⟨o, e.keep _ _ h (R.nofrz h)⟩
  · exact .inr h
theorem SqT.mono (R : HR K H ρ st) (e : Ext H ρ H1 ρ1) {a : Addr} {xs : List V} (h : SqT K H a xs) : SqT K H1 a xs := by
  rcases h with h | h
  · have hn := R.notup h
    rcases h with h | ⟨o, h⟩
    · exact .inl (.inl (e.keep _ _ h hn))
    · exact .inl (.inr ⟨o, e.keep _ _ h hn⟩)
  · exact .inr h
mutual
theorem Rep.mono (R : HR K H ρ st) (e : Ext H ρ H1 ρ1) : ∀ {w : W} {v : V}, Rep K H ρ w v → Rep K H1 ρ1 w v
  | _, _, .non => .non
  | _, _, .bl b => .bl b
  | _, _, .int i => .int i
  | _, _, .str x => .str x
  | _, _, .tup h hs => .tup (SqT.mono R e h) (RepAll.mono R e hs)
  | _, _, .ils h hs => .ils (FzL.mono R e h) (RepAll.mono R e hs)
  | _, _, .ref h => .ref (e.at h)
theorem RepAll.mono (R : HR K H ρ st) (e : Ext H ρ H1 ρ1) : ∀ {ws : List W} {vs : List V}, RepAll K H ρ ws vs → RepAll K H1 ρ1 ws vs
  | _, _, .nil => .nil
  | _, _, .cons h hs => .cons (Rep.mono R e h) (RepAll.mono R e hs)
end
theorem RepAll.length : ∀ {ws : List W} {vs : List V}, RepAll K H ρ ws vs → ws.length = vs.length
  | _, _, .nil => rfl
  | _, _, .cons _ h => by simp [RepAll.length h]
theorem RepAll.get : ∀ {ws : List W} {vs : List V} {i : Nat} {w : W}, RepAll K H ρ ws vs → ws[i]? = some w → ∃ v, vs[i]? = some v ∧ Rep K H ρ w v
  | _, _, _, _, .nil, e => by simp at e
  | _, _, 0, _, .cons r _, e => by simp at e; subst e; exact ⟨_, rfl, r⟩
  | _, _, i + 1, w, .cons _ t, e => by
    obtain ⟨u, h1, h2⟩ := RepAll.get (i := i) (w := w) t (by simpa using e)
    exact ⟨u, by simpa using h1, h2⟩
theorem RepAll.getV : ∀ {ws : List W} {vs : List V} {i : Nat} {v : V}, RepAll K H ρ ws vs → vs[i]? = some v → ∃ w, ws[i]? = some w ∧ Rep K H ρ w v
  | _, _, _, _, .nil, e => by simp at e
  | _, _, 0, _, .cons r _, e => by simp at e; subst e; exact ⟨_, rfl, r⟩
  | _, _, i + 1, v, .cons _ t, e => by
    obtain ⟨u, h1, h2⟩ := RepAll.getV (i := i) (v := v) t (by simpa using e)
    exact ⟨u, by simpa using h1, h2⟩
theorem RepAll.append : ∀ {ws us : List W} {vs xs : List V}, RepAll K H ρ ws vs → RepAll K H ρ us xs → RepAll K H ρ (ws ++ us) (vs ++ xs)
  | _, _, _, _, .nil, s => s
  | _, _, _, _, .cons r t, s => .cons r (RepAll.append t s)
theorem RepAll.take : ∀ {ws : List W} {vs : List V} (n : Nat), RepAll K H ρ ws vs → RepAll K H ρ (ws.take n) (vs.take n)
  | _, _, 0, _ => .nil
  | _, _, _ + 1, .nil => .nil
  | _, _, n + 1, .cons r t => .cons r (RepAll.take n t)
theorem RepAll.drop : ∀ {ws : List W} {vs : List V} (n : Nat), RepAll K H ρ ws vs → RepAll K H ρ (ws.drop n) (vs.drop n)
  | _, _, 0, r => r
  | _, _, _ + 1, .nil => .nil
  | _, _, n + 1, .cons _ t => RepAll.drop n t
theorem RepAll.set {w : W} {v : V} (r : Rep K H ρ w v) : ∀ {ws : List W} {vs : List V} (n : Nat), RepAll K H ρ ws vs → RepAll K H ρ (ws.set n w) (vs.set n v)
  | _, _, _, .nil => .nil
  | _, _, 0, .cons _ t => .cons r t
  | _, _, n + 1, .cons q t => .cons q (RepAll.set r n t)

/-- a new numbered object -/
theorem Ext.alloc {p : Addr} {o : HO} (h : H p = none) : Ext H ρ (upd H p o) (ρ ++ [p]) :=
  ⟨⟨[p], rfl⟩, fun a u e _ => by rw [upd_ne (ne_of_none e h)]; exact e, fun a ha => by
    rcases List.mem_append.mp ha with z | z
    · exact .inl z
    · rw [List.mem_singleton.mp z]; exact .inr h⟩
/-- a new tuple -/
theorem Ext.tup {p : Addr} {o : HO} (h : H p = none) : Ext H ρ (upd H p o) ρ :=
  ⟨⟨[], by simp⟩, fun a u e _ => by rw [upd_ne (ne_of_none e h)]; exact e, fun a ha => .inl ha⟩
/-- a numbered one changes -/
theorem Ext.mut {p : Addr} {o : HO} (h : p ∈ ρ) : Ext H ρ (upd H p o) ρ :=
  ⟨⟨[], by simp⟩, fun a u e ha => by rw [upd_ne (fun z : a = p => ha (by rw [z]; exact h))]; exact e, fun a ha => .inl ha⟩
theorem HR.has (R : HR K H ρ st) {a : Addr} (ha : a ∈ ρ) : ∃ u, H a = some u := by
  obtain ⟨n, hn⟩ := List.mem_iff_getElem?.mp ha
  have hl : n < st.length := by rw [← R.len]; exact (List.getElem?_eq_some_iff.mp hn).1
  have q := R.ob n a st[n] hn (by simp [hl])
  cases ho : st[n] with
  | lst ws => rw [ho] at q; obtain ⟨ys, e, _⟩ := q; exact ⟨_, e⟩
  | emp => rw [ho] at q; exact ⟨_, q⟩
theorem HR.fresh (R : HR K H ρ st) {p : Addr} (h : H p = none) : p ∉ ρ := fun z => by
  obtain ⟨u, e⟩ := R.has z
  rw [h] at e; cases e
theorem ObR.mono (R : HR K H ρ st) (e : Ext H ρ H1 ρ1) {a : Addr} (ha : H1 a = H a) {o : Ob} (h : ObR K H ρ a o) : ObR K H1 ρ1 a o := by
  cases o with
  | lst ws => obtain ⟨xs, h1, h2⟩ := h; exact ⟨xs, by rw [ha]; exact h1, h2.mono R e⟩
  | emp => show H1 a = _; rw [ha]; exact h
/-- nothing numbered changes (a tuple is made) -/
theorem HR.tup (R : HR K H ρ st) {p : Addr} {o : HO} (h : H p = none) : HR K (upd H p o) ρ st :=
  ⟨R.len, R.nd, fun n a u hn hs => (R.ob n a u hn hs).mono R (Ext.tup h) (upd_ne fun z => R.fresh h (z ▸ List.mem_of_getElem? hn))⟩
/-- a new list -/
theorem HR.lst (R : HR K H ρ st) {p : Addr} {ws : List W} {xs : List V} (h : H p = none) (r : RepAll K H ρ ws xs) : HR K (upd H p (.lst xs)) (ρ ++ [p]) (st ++ [.lst ws]) := by
  have hp := R.fresh h
  refine ⟨by simp [R.len], ?_, fun n a u hn hs => ?_⟩
  · rw [List.nodup_append]
    exact ⟨R.nd, by simp, fun a ha b hb => by rw [List.mem_singleton.mp hb]; rintro rfl; exact hp ha⟩
  · by_cases hl : n < ρ.length
    · rw [List.getElem?_append_left hl] at hn
      rw [List.getElem?_append_left (by rw [← R.len]; exact hl)] at hs
      exact (R.ob n a u hn hs).mono R (Ext.alloc h) (upd_ne fun z => hp (z ▸ List.mem_of_getElem? hn))
    · rw [List.getElem?_append_right (by omega)] at hn
      rw [List.getElem?_append_right (by rw [← R.len]; omega)] at hs
      rw [R.len] at hn
      cases k : n - st.length with
      | zero =>
        rw [k] at hn hs
        cases hn; cases hs
        exact ⟨xs, upd_same, r.mono R (Ext.alloc h)⟩
      | succ j => rw [k] at hn; simp at hn
theorem HR.emp (R : HR K H ρ st) {p : Addr} (h : H p = none) : HR K (upd H p (.dK [])) (ρ ++ [p]) (st ++ [.emp]) := by
  have hp := R.fresh h
  refine ⟨by simp [R.len], ?_, fun n a u hn hs => ?_⟩
  · rw [List.nodup_append]
    exact ⟨R.nd, by simp, fun a ha b hb => by rw [List.mem_singleton.mp hb]; rintro rfl; exact hp ha⟩
  · by_cases hl : n < ρ.length
    · rw [List.getElem?_append_left hl] at hn
      rw [List.getElem?_append_left (by rw [← R.len]; exact hl)] at hs
      exact (R.ob n a u hn hs).mono R (Ext.alloc h) (upd_ne fun z => hp (z ▸ List.mem_of_getElem? hn))
    · rw [List.getElem?_append_right (by omega)] at hn
      rw [List.getElem?_append_right (by rw [← R.len]; omega)] at hs
      rw [R.len] at hn
      cases k : n - st.length with
      | zero =>
        rw [k] at hn hs
        cases hn; cases hs
        exact upd_same
      | succ j => rw [k] at hn; simp at hn
/-- a list is stored anew -/
theorem HR.put (R : HR K H ρ st) {p : Addr} {n : Nat} {ws : List W} {xs : List V} (h : ρ[n]? = some p) (r : RepAll K H ρ ws xs) : HR K (upd H p (.lst xs)) ρ (st.set n (.lst ws)) := by
  have hp := List.mem_of_getElem? h
  refine ⟨by simp [R.len], R.nd, fun m a u hn hs => ?_⟩
  by_cases e : m = n
  · subst e
    rw [h] at hn
    cases hn
    rw [List.getElem?_set_self (by rw [← R.len]; exact (List.getElem?_eq_some_iff.mp h).1)] at hs
    cases hs
    exact ⟨xs, upd_same, r.mono R (Ext.mut hp)⟩
  · rw [List.getElem?_set_ne (fun z => e z.symm)] at hs
    refine (R.ob m a u hn hs).mono R (Ext.mut hp) (upd_ne fun z => e ?_)
    subst z
    obtain ⟨i1, e1⟩ := List.getElem?_eq_some_iff.mp hn
    obtain ⟨i2, e2⟩ := List.getElem?_eq_some_iff.mp h
    exact (List.getElem_inj R.nd).mp (e1.trans e2.symm)
end
end DI

namespace DI
open PySem L2

/-- an exception: its class by name, its fields -/
structure Xc where
  cls : Str
  fs : List (Str × W)
inductive R (α : Type) where | ok (a : α) | exc (x : Xc)
abbrev Out (α : Type) := Option (R α × Sto)
def bnd {α β : Type} (o : Out α) (k : α → Sto → Out β) : Out β := match o with
  | some (.ok a, st) => k a st
  | some (.exc x, st) => some (.exc x, st)
  | none => none
theorem bnd_ok {α β : Type} {a : α} {st : Sto} {k : α → Sto → Out β} : bnd (some (.ok a, st)) k = k a st := rfl
def ret {α : Type} (a : α) (st : Sto) : Out α := some (.ok a, st)
abbrev FE := Evn → Sto → Out W
abbrev FT := Evn → Sto → Out Bool
abbrev FA := Evn → Sto → Out (List W)
abbrev XR := Xc → Value → Option Addr → Hp → List Addr → Prop
abbrev WX := Value → Option Addr → L2.St → Hp → Prop

def EnvR (K : PySem.W.Frag) (H : Hp) (ρ : List Addr) (env : Evn) (σ : L2.St) : Prop :=
  env.length = σ.length ∧ ∀ (i : Nat) (w : W), env[i]? = some (some w) → ∃ v, σ[i]? = some (some v) ∧ Rep K H ρ w v
theorem EnvR.mono {K : PySem.W.Frag} {H H1 : Hp} {ρ ρ1 : List Addr} {st : Sto} {env : Evn} {σ : L2.St} (R : HR K H ρ st) (e : Ext H ρ H1 ρ1) (h : EnvR K H ρ env σ) : EnvR K H1 ρ1 env σ :=
  ⟨h.1, fun i w q => let ⟨v, a, b⟩ := h.2 i w q; ⟨v, a, b.mono R e⟩⟩
theorem EnvR.set {K : PySem.W.Frag} {H : Hp} {ρ : List Addr} {env : Evn} {σ : L2.St} {w : W} {v : V} (h : EnvR K H ρ env σ) (r : Rep K H ρ w v) (i : Nat) : EnvR K H ρ (env.set i (some w)) (σ.set i (some v)) := by
  refine ⟨by simp [h.1], fun j u q => ?_⟩
  by_cases e : i = j
  · subst e
    by_cases hl : i < env.length
    · rw [List.getElem?_set_self hl] at q
      cases q
      exact ⟨v, List.getElem?_set_self (by rw [← h.1]; exact hl), r⟩
    · rw [List.getElem?_eq_none (by simpa using Nat.le_of_not_lt hl)] at q
      cases q
  · rw [List.getElem?_set_ne e] at q
    rw [List.getElem?_set_ne e]
    exact h.2 j u q

/-- what is related to what, and stays so -/
abbrev Rl (α β : Type) := Hp → List Addr → α → β → Prop
def Mono (K : PySem.W.Frag) {α β : Type} (r : Rl α β) : Prop := ∀ (H H1 : Hp) (ρ ρ1 : List Addr) (st : Sto) (a : α) (b : β), HR K H ρ st → Ext H ρ H1 ρ1 → r H ρ a b → r H1 ρ1 a b
def rB : Rl Bool Bool := fun _ _ a b => a = b
theorem mono_rep {K : PySem.W.Frag} : Mono K (Rep K) := fun _ _ _ _ _ _ _ R e h => h.mono R e
theorem mono_all {K : PySem.W.Frag} : Mono K (RepAll K) := fun _ _ _ _ _ _ _ R e h => h.mono R e
theorem mono_b {K : PySem.W.Frag} : Mono K rB := fun _ _ _ _ _ _ _ _ _ h => h

section
variable {K : PySem.W.Frag} {EX : XR} {U : WX} {α β γ δ ε ζ : Type}
def Post (K : PySem.W.Frag) (EX : XR) (U : WX) (rl : Rl α β) (σ : L2.St) (H : Hp) (ρ : List Addr) (r : R α) (st' : Sto) (Q : β → Hp → Prop) : Prop := match r with
  | .ok a => ∀ b H' ρ', Ext H ρ H' ρ' → HR K H' ρ' st' → rl H' ρ' a b → Q b H'
  | .exc x => ∀ cls d H' ρ', Ext H ρ H' ρ' → HR K H' ρ' st' → EX x cls d H' ρ' → U cls d σ H'
def tG (K : PySem.W.Frag) (EX : XR) (U : WX) (rl : Rl α β) (f : Evn → Sto → Out α) (σ : L2.St) (H : Hp) (Q : β → Hp → Prop) : Prop :=
  ∃ ρ env st r st', HR K H ρ st ∧ EnvR K H ρ env σ ∧ f env st = some (r, st') ∧ Post K EX U rl σ H ρ r st' Q
/-- with a value at hand -/
def tK (K : PySem.W.Frag) (EX : XR) (U : WX) (r1 : Rl γ δ) (rl : Rl α β) (f : Evn → γ → Sto → Out α) (x : δ) (σ : L2.St) (H : Hp) (Q : β → Hp → Prop) : Prop :=
  ∃ ρ env st c r st', HR K H ρ st ∧ EnvR K H ρ env σ ∧ r1 H ρ c x ∧ f env c st = some (r, st') ∧ Post K EX U rl σ H ρ r st' Q
theorem Post.ext {rl : Rl α β} {σ : L2.St} {H H1 : Hp} {ρ ρ1 : List Addr} {r : R α} {st' : Sto} {Q : β → Hp → Prop} (e : Ext H ρ H1 ρ1) (p : Post K EX U rl σ H ρ r st' Q) : Post K EX U rl σ H1 ρ1 r st' Q := by
  cases r with
  | ok a => exact fun b H' ρ' e' R q => p b H' ρ' (e.trans e') R q
  | exc x => exact fun c d H' ρ' e' R q => p c d H' ρ' (e.trans e') R q
theorem tG_bind {r1 : Rl γ δ} {rl : Rl α β} {f : Evn → Sto → Out γ} {g : Evn → γ → Sto → Out α} {σ : L2.St} {H : Hp} {Q : β → Hp → Prop}
    (h : tG K EX U rl (fun env st => bnd (f env st) (g env)) σ H Q) : tG K EX U r1 f σ H (fun x H1 => tK K EX U r1 rl g x σ H1 Q) := by
  obtain ⟨ρ, env, st, r, st', R, E, e, p⟩ := h
  cases q : f env st with
  | none => simp only [q] at e; cases e
  | some o =>
    obtain ⟨ro, s1⟩ := o
    simp only [q] at e
    cases ro with
    | ok a => exact ⟨ρ, env, st, .ok a, s1, R, E, q, fun x H1 ρ1 e1 R1 rx => ⟨ρ1, env, s1, a, r, st', R1, E.mono R e1, rx, e, p.ext e1⟩⟩
    | exc x =>
      cases e
      exact ⟨ρ, env, st, .exc x, st', R, E, q, p⟩
theorem tK_bind {r0 : Rl ε ζ} {r1 : Rl γ δ} {rl : Rl α β} {f : Evn → ε → Sto → Out γ} {g : Evn → ε → γ → Sto → Out α} {x : ζ} {σ : L2.St} {H : Hp} {Q : β → Hp → Prop} (m : Mono K r0)
    (h : tK K EX U r0 rl (fun env c st => bnd (f env c st) (g env c)) x σ H Q) : tK K EX U r0 r1 f x σ H (fun y H1 => tK K EX U (fun H ρ (p : ε × γ) (q : ζ × δ) => r0 H ρ p.1 q.1 ∧ r1 H ρ p.2 q.2) rl (fun env p st => g env p.1 p.2 st) (x, y) σ H1 Q) := by
  obtain ⟨ρ, env, st, c, r, st', R, E, r0x, e, p⟩ := h
  cases q : f env c st with
  | none => simp only [q] at e; cases e
  | some o =>
    obtain ⟨ro, s1⟩ := o
    simp only [q] at e
    cases ro with
    | ok a => exact ⟨ρ, env, st, c, .ok a, s1, R, E, r0x, q, fun y H1 ρ1 e1 R1 ry => ⟨ρ1, env, s1, (c, a), r, st', R1, E.mono R e1, ⟨m _ _ _ _ _ _ _ R e1 r0x, ry⟩, e, p.ext e1⟩⟩
    | exc x =>
      cases e
      exact ⟨ρ, env, st, c, .exc x, st', R, E, r0x, q, p⟩
/-- what does not look at the value at hand -/
theorem tK_tG {r1 : Rl γ δ} {rl : Rl α β} {f : Evn → Sto → Out α} {x : δ} {σ : L2.St} {H : Hp} {Q : β → Hp → Prop} (h : tK K EX U r1 rl (fun env _ st => f env st) x σ H Q) : tG K EX U rl f σ H Q := by
  obtain ⟨ρ, env, st, c, r, st', R, E, _, e, p⟩ := h
  exact ⟨ρ, env, st, r, st', R, E, e, p⟩
theorem tG.imp {rl : Rl α β} {f : Evn → Sto → Out α} {σ : L2.St} {H : Hp} {Q Q' : β → Hp → Prop} (h : tG K EX U rl f σ H Q) (w : ∀ b H', Q b H' → Q' b H') : tG K EX U rl f σ H Q' := by
  obtain ⟨ρ, env, st, r, st', R, E, e, p⟩ := h
  refine ⟨ρ, env, st, r, st', R, E, e, ?_⟩
  cases r with
  | ok a => exact fun b H' ρ' e' R' q => w _ _ (p b H' ρ' e' R' q)
  | exc x => exact p
end

/-! ### the judgements -/
abbrev tI (K : PySem.W.Frag) (EX : XR) (U : WX) (f : FE) : TE := tG K EX U (Rep K) f
abbrev tA (K : PySem.W.Frag) (EX : XR) (U : WX) (f : FA) : TA := tG K EX U (RepAll K) f
abbrev tT (K : PySem.W.Frag) (EX : XR) (U : WX) (f : FT) : TT := tG K EX U rB f
abbrev PD (X : Cx) (EX : XR) (U : WX) (e : Expr) (f : FE) : Prop := PE X e (tI X.K EX U f)
abbrev PDA (X : Cx) (EX : XR) (U : WX) (es : List Expr) (f : FA) : Prop := PA X es (tA X.K EX U f)
abbrev PDT (X : Cx) (EX : XR) (U : WX) (e : Expr) (f : FT) : Prop := PT X e (tT X.K EX U f)
abbrev PDW (X : Cx) (EX : XR) (U : WX) (e : Expr) (f : FT) : Prop := PW X e (tT X.K EX U f)
theorem _root_.L2.PE.imp {X : Cx} {e : Expr} {t t' : TE} (h : PE X e t) (w : ∀ σ H Q, t' σ H Q → t σ H Q) : PE X e t' := ⟨fun pins s σ H Q I q => h.run pins s σ H Q I (w σ H Q q)⟩
theorem _root_.L2.PT.imp {X : Cx} {e : Expr} {t t' : TT} (h : PT X e t) (w : ∀ σ H Q, t' σ H Q → t σ H Q) : PT X e t' := ⟨fun pins s σ H Q I q => h.run pins s σ H Q I (w σ H Q q)⟩
theorem _root_.L2.PW.imp {X : Cx} {e : Expr} {t t' : TT} (h : PW X e t) (w : ∀ σ H Q, t' σ H Q → t σ H Q) : PW X e t' := ⟨fun wh pins s σ H Q I q => h.run wh pins s σ H Q I (w σ H Q q)⟩
theorem _root_.L2.PA.imp {X : Cx} {es : List Expr} {t t' : TA} (h : PA X es t) (w : ∀ σ H Q, t' σ H Q → t σ H Q) : PA X es t' := ⟨fun pos pins s σ H Q I q => h.run pos pins s σ H Q I (w σ H Q q)⟩
theorem _root_.L2.PS.imp {X : Cx} {e : Stmt} {t t' : TS} (h : PS X e t) (w : ∀ D σ H, t' D σ H → t D σ H) : PS X e t' := ⟨fun pins s σ H D I q => h.run pins s σ H D I (w D σ H q)⟩
theorem _root_.L2.PSs.imp {X : Cx} {e : List Stmt} {t t' : TS} (h : PSs X e t) (w : ∀ D σ H, t' D σ H → t D σ H) : PSs X e t' := ⟨fun pins s σ H D I q => h.run pins s σ H D I (w D σ H q)⟩

section
variable {X : Cx} {EX : XR} {U : WX} {a b c : Expr} {pos : Pos}
def fVar (i : Nat) : FE := fun env st => match env[i]? with
  | some (some w) => ret w st
  | _ => none
theorem pd_var (i : Nat) {x : Str} (hN : X.N[i]? = some x := by rfl) (hv : Vis X.env.scope x := by first | exact Or.inl rfl | exact Or.inr (Or.inl rfl) | exact Or.inr (Or.inr rfl)) (hd : (x == ("__debug__" : Str)) = false := by decide)
    (hcd : (x == ("__classdict__" : Str)) = false := by decide) : PD X EX U (.Name x pos) (fVar i) := by
  refine (pe_var hN hv hd hcd).imp fun σ H Q ⟨ρ, env, st, r, st', R, E, e, p⟩ => ?_
  unfold fVar at e
  split at e
  · rename_i w hw
    cases e
    obtain ⟨v, h1, h2⟩ := E.2 i w hw
    exact ⟨v, h1, p v H ρ (Ext.refl _ _) R h2⟩
  · cases e
def fC (w : W) : FE := fun _ st => ret w st
theorem pd_c {e : Expr} {w : W} {v : V} (h : PE X e (tC v)) (r : ∀ H ρ, Rep X.K H ρ w v) : PD X EX U e (fC w) := by
  refine h.imp fun σ H Q ⟨ρ, env, st, r', st', R, E, e, p⟩ => ?_
  cases e
  exact p v H ρ (Ext.refl _ _) R (r H ρ)
theorem pd_int {i j} : PD X EX U (.Constant (.int i) j pos) (fC (.int i)) := pd_c pe_int fun _ _ => .int i
theorem pd_str {i j} : PD X EX U (.Constant (.str i) j pos) (fC (.str i)) := pd_c pe_str fun _ _ => .str i
theorem pd_bl {i j} : PD X EX U (.Constant (.bool i) j pos) (fC (.bl i)) := pd_c pe_bl fun _ _ => .bl i
theorem pd_non {j} : PD X EX U (.Constant .none j pos) (fC .non) := pd_c pe_non fun _ _ => .non
theorem pd_glob {x : Str} {w : W} {v : V} {u : Value} (hg : Gl X x) (hm : X.mg x = some u) (r : RelV v u) (h : ∀ H ρ, Rep X.K H ρ w v) (hd : (x == ("__debug__" : Str)) = false := by decide) : PD X EX U (.Name x pos) (fC w) := pd_c (pe_glob hg hm r hd) h

/-- an operation by values -/
abbrev O2 := W → W → Sto → Out W
def OPR (K : PySem.W.Frag) (r : R2) (op : O2) : Prop := ∀ {x y : V} {H : Hp} {Q : VK} {ρ : List Addr} {st st' : Sto} {a b w : W}, HR K H ρ st → Rep K H ρ a x → Rep K H ρ b y → op a b st = some (.ok w, st') →
  (∀ v H' ρ', Ext H ρ H' ρ' → HR K H' ρ' st' → Rep K H' ρ' w v → Q v H') → r x y H Q
def NoX {α : Type} (o : Out α) : Prop := ∀ x st, o ≠ some (.exc x, st)
def fOp (op : O2) (fa fb : FE) : FE := fun env st => bnd (fa env st) fun a st => bnd (fb env st) fun b st => op a b st
theorem op_go {r : R2} {op : O2} {fa fb : FE} (hs : OPR X.K r op) (hx : ∀ a b st, NoX (op a b st)) {σ : L2.St} {H : Hp} {Q : VK} (h : tI X.K EX U (fOp op fa fb) σ H Q) : tOp r (tI X.K EX U fa) (tI X.K EX U fb) σ H Q := by
  refine (tG_bind (r1 := Rep X.K) (g := fun env a st => bnd (fb env st) fun b st => op a b st) h).imp fun x H1 h1 => ?_
  refine (tK_tG (tK_bind (r1 := Rep X.K) (f := fun env _ st => fb env st) (g := fun _ a b st => op a b st) mono_rep h1)).imp fun y H2 h2 => ?_
  obtain ⟨ρ, env, st, ⟨a, b⟩, r', st', R, E, ⟨ra, rb⟩, e, p⟩ := h2
  cases r' with
  | ok w => exact hs R ra rb e p
  | exc x => exact absurd e (hx _ _ _ _ _)
theorem pd_op {o : Operator} {r : R2} {op : O2} {fa fb : FE} (ho : OpR X (binaryOp o) r) (hs : OPR X.K r op) (hx : ∀ a b st, NoX (op a b st)) (ha : PD X EX U a fa) (hb : PD X EX U b fb) : PD X EX U (.BinOp a o b pos) (fOp op fa fb) :=
  (pe_op ho ha hb).imp fun _ _ _ h => op_go hs hx h
theorem pd_cmp {o : CmpOp} {r : R2} {op : O2} {fa fb : FE} (ho : OpR X (compareOp o) r) (hs : OPR X.K r op) (hx : ∀ a b st, NoX (op a b st)) (ha : PD X EX U a fa) (hb : PD X EX U b fb) (hm : behindInMarks o b = false) : PD X EX U (.Compare a [o] [b] pos) (fOp op fa fb) :=
  (pe_cmpR ho ha hb hm).imp fun _ _ _ h => op_go hs hx h
/-- or of two readings -/
def rOr (r r' : R2) : R2 := fun x y H Q => r x y H Q ∨ r' x y H Q
theorem op_or2 {f : Value → Value → Sem Value} {r r' : R2} (h : OpR X f r) (h' : OpR X f r') : OpR X f (rOr r r') := fun pins s σ H x y v u Q I rx ry q => q.elim (h pins s σ H x y v u Q I rx ry) (h' pins s σ H x y v u Q I rx ry)

/-! ### tests -/
def asB (w : W) (st : Sto) : Out Bool := match w with
  | .bl b => ret b st
  | _ => none
def fTest (f : FE) : FT := fun env st => bnd (f env st) asB
theorem test_go {f : FE} {σ : L2.St} {H : Hp} {Q : Bool → Hp → Prop} (h : tT X.K EX U (fTest f) σ H Q) : tB (tI X.K EX U f) σ H Q := by
  refine (tG_bind (r1 := Rep X.K) (g := fun _ w st => asB w st) h).imp fun x H1 h1 => ?_
  obtain ⟨ρ, env, st, w, r', st', R, E, rw', e, p⟩ := h1
  have e : asB w st = some (r', st') := e
  unfold asB at e
  split at e
  · cases e
    cases rw'
    exact ⟨_, rfl, p _ H1 ρ (Ext.refl _ _) R rfl⟩
  · cases e
theorem pdt_val {f : FE} (h : PD X EX U a f) (he : ∀ whole, isTrue a X.env whole = (do let v ← whole; standAt a.pos; holding [v] (truthy v)) := by intro _; rfl) : PDT X EX U a (fTest f) :=
  (pt_val h he).imp fun _ _ _ q => test_go q
theorem pdt_cmp {o : CmpOp} {r : R2} {op : O2} {fa fb : FE} (ho : OpR X (compareOp o) r) (hs : OPR X.K r op) (hx : ∀ a b st, NoX (op a b st)) (ha : PD X EX U a fa) (hb : PD X EX U b fb) (hm : behindInMarks o b = false) : PDT X EX U (.Compare a [o] [b] pos) (fTest (fOp op fa fb)) := by
  refine (pt_cmpR ho ha hb hm).imp fun σ H Q h => ?_
  have h1 : tB (tI X.K EX U (fOp op fa fb)) σ H Q := test_go h
  exact op_go hs hx h1
def fAndT (f g : FT) : FT := fun env st => bnd (f env st) fun b st => if b then g env st else ret false st
def fOrT (f g : FT) : FT := fun env st => bnd (f env st) fun b st => if b then ret true st else g env st
def fNotT (f : FT) : FT := fun env st => bnd (f env st) fun b st => ret (!b) st
theorem pdw_and1 {f : FT} (h : PDT X EX U a f) : PDW X EX U (.BoolOp .And [a] pos) f := pw_and1 h
theorem pdw_or1 {f : FT} (h : PDT X EX U a f) : PDW X EX U (.BoolOp .Or [a] pos) f := pw_or1 h
theorem pdw_and {rest : List Expr} {f g : FT} (ha : PDT X EX U a f) (hb : PDW X EX U (.BoolOp .And (b :: rest) pos) g) : PDW X EX U (.BoolOp .And (a :: b :: rest) pos) (fAndT f g) := by
  refine (pw_and ha hb).imp fun σ H Q h => ?_
  refine (tG_bind (r1 := rB) (g := fun env b st => if b then g env st else ret false st) h).imp fun x H1 h1 => ?_
  obtain ⟨ρ, env, st, w, r', st', R, E, rw', e, p⟩ := h1
  obtain rfl : w = x := rw'
  cases w with
  | true => exact ⟨ρ, env, st, r', st', R, E, e, p⟩
  | false =>
    cases e
    exact p _ H1 ρ (Ext.refl _ _) R rfl
theorem pdw_or {rest : List Expr} {f g : FT} (ha : PDT X EX U a f) (hb : PDW X EX U (.BoolOp .Or (b :: rest) pos) g) : PDW X EX U (.BoolOp .Or (a :: b :: rest) pos) (fOrT f g) := by
  refine (pw_or ha hb).imp fun σ H Q h => ?_
  refine (tG_bind (r1 := rB) (g := fun env b st => if b then ret true st else g env st) h).imp fun x H1 h1 => ?_
  obtain ⟨ρ, env, st, w, r', st', R, E, rw', e, p⟩ := h1
  obtain rfl : w = x := rw'
  cases w with
  | false => exact ⟨ρ, env, st, r', st', R, E, e, p⟩
  | true =>
    cases e
    exact p _ H1 ρ (Ext.refl _ _) R rfl
theorem pdt_not {f : FT} (h : PDT X EX U a f) : PDT X EX U (.UnaryOp .Not a pos) (fNotT f) := by
  refine (pt_not h).imp fun σ H Q h => ?_
  refine (tG_bind (r1 := rB) (g := fun env b st => ret (!b) st) h).imp fun x H1 h1 => ?_
  obtain ⟨ρ, env, st, w, r', st', R, E, rw', e, p⟩ := h1
  cases rw'
  cases e
  exact p _ H1 ρ (Ext.refl _ _) R rfl
/-- .. as values -/
def fAnd (f g : FE) : FE := fun env st => bnd (f env st) fun w st => bnd (asB w st) fun b st => if b then g env st else ret (.bl false) st
def fOr (f g : FE) : FE := fun env st => bnd (f env st) fun w st => bnd (asB w st) fun b st => if b then ret (.bl true) st else g env st
def fNot (f : FE) : FE := fun env st => bnd (f env st) fun w st => bnd (asB w st) fun b st => ret (.bl (!b)) st
theorem asB_some {w : W} {st : Sto} {β : Type} {k : Bool → Sto → Out β} {o : R β × Sto} (e : bnd (asB w st) k = some o) : ∃ b, w = .bl b ∧ k b st = some o := by
  unfold asB at e
  split at e
  · exact ⟨_, rfl, e⟩
  · cases e
theorem pd_one {op} {f : FE} (h : PD X EX U a f) : PD X EX U (.BoolOp op [a] pos) f := pe_one h
theorem pd_and {rest : List Expr} {f g : FE} (ha : PD X EX U a f) (hb : PD X EX U (.BoolOp .And (b :: rest) pos) g) : PD X EX U (.BoolOp .And (a :: b :: rest) pos) (fAnd f g) := by
  refine (pe_and ha hb).imp fun σ H Q h => ?_
  refine (tG_bind (r1 := Rep X.K) (g := fun env w st => bnd (asB w st) fun b st => if b then g env st else ret (.bl false) st) h).imp fun x H1 h1 => ?_
  obtain ⟨ρ, env, st, w, r', st', R, E, rw', e, p⟩ := h1
  obtain ⟨b, rfl, e⟩ := asB_some e
  cases rw'
  refine ⟨b, rfl, ?_⟩
  cases b with
  | true => exact ⟨ρ, env, st, r', st', R, E, e, p⟩
  | false =>
    cases e
    exact p _ H1 ρ (Ext.refl _ _) R (Rep.bl _)
theorem pd_or {rest : List Expr} {f g : FE} (ha : PD X EX U a f) (hb : PD X EX U (.BoolOp .Or (b :: rest) pos) g) : PD X EX U (.BoolOp .Or (a :: b :: rest) pos) (fOr f g) := by
  refine (pe_or ha hb).imp fun σ H Q h => ?_
  refine (tG_bind (r1 := Rep X.K) (g := fun env w st => bnd (asB w st) fun b st => if b then ret (.bl true) st else g env st) h).imp fun x H1 h1 => ?_
  obtain ⟨ρ, env, st, w, r', st', R, E, rw', e, p⟩ := h1
  obtain ⟨b, rfl, e⟩ := asB_some e
  cases rw'
  refine ⟨b, rfl, ?_⟩
  cases b with
  | false => exact ⟨ρ, env, st, r', st', R, E, e, p⟩
  | true =>
    cases e
    exact p _ H1 ρ (Ext.refl _ _) R (Rep.bl _)
theorem pd_not {f : FE} (h : PD X EX U a f) : PD X EX U (.UnaryOp .Not a pos) (fNot f) := by
  refine (pe_not h).imp fun σ H Q h => ?_
  refine (tG_bind (r1 := Rep X.K) (g := fun env w st => bnd (asB w st) fun b st => ret (W.bl (!b)) st) h).imp fun x H1 h1 => ?_
  obtain ⟨ρ, env, st, w, r', st', R, E, rw', e, p⟩ := h1
  obtain ⟨b, rfl, e⟩ := asB_some e
  cases rw'
  cases e
  exact ⟨b, rfl, p _ H1 ρ (Ext.refl _ _) R (Rep.bl _)⟩
def fIf (c : FT) (f g : FE) : FE := fun env st => bnd (c env st) fun b st => if b then f env st else g env st
theorem pd_if {fc : FT} {f g : FE} (hc : PDT X EX U c fc) (ha : PD X EX U a f) (hb : PD X EX U b g) : PD X EX U (.IfExp c a b pos) (fIf fc f g) := by
  refine (pe_ifExp hc ha hb).imp fun σ H Q h => ?_
  refine (tG_bind (r1 := rB) (g := fun env b st => if b then f env st else g env st) h).imp fun x H1 h1 => ?_
  obtain ⟨ρ, env, st, w, r', st', R, E, rw', e, p⟩ := h1
  obtain rfl : w = x := rw'
  cases w with
  | true => exact ⟨ρ, env, st, r', st', R, E, e, p⟩
  | false => exact ⟨ρ, env, st, r', st', R, E, e, p⟩

/-! ### arguments, displays -/
def fNil : FA := fun _ st => ret [] st
def fCons (f : FE) (g : FA) : FA := fun env st => bnd (f env st) fun w st => bnd (g env st) fun ws st => ret (w :: ws) st
theorem pda_nil : PDA X EX U [] fNil := pa_nil.imp fun σ H Q ⟨ρ, env, st, r, st', R, E, e, p⟩ => by
  cases e
  exact p _ H ρ (Ext.refl _ _) R .nil
theorem pda_cons {e : Expr} {es : List Expr} {f : FE} {g : FA} (he : PD X EX U e f) (hr : PDA X EX U es g) (hs : starEach (e :: es) X.env = (false, eval e X.env) :: starEach es X.env := by rfl) : PDA X EX U (e :: es) (fCons f g) := by
  refine (pa_cons he hr hs).imp fun σ H Q h => ?_
  refine (tG_bind (r1 := Rep X.K) (g := fun env w st => bnd (g env st) fun ws st => ret (w :: ws) st) h).imp fun x H1 h1 => ?_
  refine (tK_tG (tK_bind (r1 := RepAll X.K) (f := fun env _ st => g env st) (g := fun _ a b st => ret (a :: b) st) mono_rep h1)).imp fun y H2 h2 => ?_
  obtain ⟨ρ, env, st, ⟨a, b⟩, r', st', R, E, ⟨ra, rb⟩, e, p⟩ := h2
  cases e
  exact p _ H2 ρ (Ext.refl _ _) R (.cons ra rb)
def szW (n : Nat) : Bool := decide (n ≤ 1000000)
def fTup (f : FA) : FE := fun env st => bnd (f env st) fun ws st => if szW ws.length then ret (.tup ws) st else none
def newL (ws : List W) (st : Sto) : Out W := if szW ws.length then some (.ok (.ref st.length), st ++ [.lst ws]) else none
def fLst (f : FA) : FE := fun env st => bnd (f env st) fun ws st => newL ws st
theorem sz_ok {n : Nat} (h : szW n = true) : n ≤ sizeLine := Nat.le_trans (of_decide_eq_true h) (by decide)
theorem newL_some {ws : List W} {st : Sto} {o : R W × Sto} (e : newL ws st = some o) : szW ws.length = true ∧ o = (.ok (.ref st.length), st ++ [.lst ws]) := by
  unfold newL at e
  split at e
  · rename_i h; cases e; exact ⟨h, rfl⟩
  · cases e
theorem pd_tup {es : List Expr} {k} {f : FA} (h : PDA X EX U es f) : PD X EX U (.Tuple es k pos) (fTup f) := by
  refine (pe_tup h).imp fun σ H Q h => ?_
  refine (tG_bind (r1 := RepAll X.K) (g := fun env ws st => if szW ws.length then ret (W.tup ws) st else none) h).imp fun x H1 h1 => ?_
  obtain ⟨ρ, env, st, ws, r', st', R, E, rw', e, p⟩ := h1
  have e : (if szW ws.length then ret (W.tup ws) st else none) = some (r', st') := e
  split at e
  · rename_i hz
    cases e
    refine ⟨by rw [← rw'.length]; exact sz_ok hz, fun q hq => ?_⟩
    exact p _ _ ρ (Ext.tup hq) (R.tup hq) (.tup (SqT.of upd_same) (rw'.mono R (Ext.tup hq)))
  · cases e
theorem new_go {K : PySem.W.Frag} {ws : List W} {xs : List V} {st : Sto} {H : Hp} {ρ : List Addr} {Q : VK} {r' : R W} {st' : Sto} {σ : L2.St} (R : HR K H ρ st) (rw' : RepAll K H ρ ws xs) (e : newL ws st = some (r', st')) (p : Post K EX U (Rep K) σ H ρ r' st' Q) :
    xs.length ≤ sizeLine ∧ ∀ q, H q = none → Q (.ref q) (upd H q (.lst xs)) := by
  obtain ⟨hz, e⟩ := newL_some e
  cases e
  refine ⟨by rw [← rw'.length]; exact sz_ok hz, fun q hq => ?_⟩
  refine p _ _ (ρ ++ [q]) (Ext.alloc hq) (R.lst hq rw') (.ref ?_)
  rw [← R.len]
  simp
theorem pd_lst {es : List Expr} {f : FA} (h : PDA X EX U es f) : PD X EX U (.List es pos) (fLst f) := by
  refine (pe_lst h).imp fun σ H Q h => ?_
  refine (tG_bind (r1 := RepAll X.K) (g := fun env ws st => newL ws st) h).imp fun x H1 h1 => ?_
  obtain ⟨ρ, env, st, ws, r', st', R, E, rw', e, p⟩ := h1
  exact new_go R rw' e p
end
end DI

namespace DI
open PySem L2

/-! ### data -/
def allD (f : W → Option PyData) : List W → Option (List PyData)
  | [] => some []
  | w :: ws => match f w, allD f ws with
    | some d, some ds => some (d :: ds)
    | _, _ => none
def toD (st : Sto) : Nat → W → Option PyData
  | 0, _ => none
  | _ + 1, .non => some .none
  | _ + 1, .bl b => some (.bool b)
  | _ + 1, .int i => some (.int i)
  | _ + 1, .str x => some (.str x)
  | n + 1, .tup ws => (allD (toD st n) ws).map .tuple
  | n + 1, .ils ws => (allD (toD st n) ws).map .list
  | n + 1, .ref k => match st[k]? with
    | some (.lst ws) => (allD (toD st n) ws).map .list
    | some .emp => some (.dict [])
    | none => none
mutual
def hasL : PyData → Bool
  | .none | .bool _ | .int _ | .str _ | .dict _ => false
  | .list _ => true
  | .tuple xs => hasLAll xs
def hasLAll : List PyData → Bool
  | [] => false
  | x :: xs => hasL x || hasLAll xs
end
section
variable {X : Cx} {pins : List (Addr × Obj)} {σ : L2.St} {H : Hp} {s : Shared} {ρ : List Addr} {st : Sto}
theorem rd_list {a : Addr} {xs : List V} (h : Rd H a (.lst xs)) : SqL X.K H a xs := .inl h
theorem readsAll_of {n : Nat} (ih : ∀ (w : W) (v : V) (u : Value) (d : PyData), Rep X.K H ρ w v → RelV v u → toD st n w = some d → ∃ as, Reads s.heap u d as ∧ (hasL d = false → sysModules ∉ as)) :
    ∀ (ws : List W) (vs : List V) (us : List Value) (ds : List PyData), RepAll X.K H ρ ws vs → Vals vs us → allD (toD st n) ws = some ds → ∃ as, ReadsAll s.heap us ds as ∧ (hasLAll ds = false → sysModules ∉ as)
  | [], _, _, _, h, r, e => by
    cases h; cases r; cases e
    exact ⟨_, .nil, fun _ => by simp⟩
  | w :: ws, _, _, ds, h, r, e => by
    cases h with
    | cons h1 h2 =>
      cases r with
      | cons r1 r2 =>
        unfold allD at e
        split at e
        · rename_i d ds' e1 e2
          cases e
          obtain ⟨as, q1, n1⟩ := ih _ _ _ _ h1 r1 e1
          obtain ⟨bs, q2, n2⟩ := readsAll_of ih ws _ _ _ h2 r2 e2
          refine ⟨_, .cons q1 q2, fun z => ?_⟩
          unfold hasLAll at z
          rw [Bool.or_eq_false_iff] at z
          intro m
          rcases List.mem_append.mp m with m | m
          · exact n1 z.1 m
          · exact n2 z.2 m
        · cases e
theorem reads_of (I : Inv X pins σ H s) (R : HR X.K H ρ st) : ∀ (n : Nat) (w : W) (v : V) (u : Value) (d : PyData), Rep X.K H ρ w v → RelV v u → toD st n w = some d → ∃ as, Reads s.heap u d as ∧ (hasL d = false → sysModules ∉ as)
  | 0, _, _, _, _, _, _, e => by cases e
  | n + 1, w, v, u, d, h, r, e => by
    have ih : ∀ (w : W) (v : V) (u : Value) (d : PyData), Rep X.K H ρ w v → RelV v u → toD st n w = some d → ∃ as, Reads s.heap u d as ∧ (hasL d = false → sysModules ∉ as) := reads_of I R n
    cases h with
    | non => cases e; cases r; exact ⟨_, .none, fun _ => by simp⟩
    | bl b => cases e; cases r; exact ⟨_, .bool b, fun _ => by simp⟩
    | int i => cases e; obtain ⟨t, rfl⟩ := r; exact ⟨_, .int i t, fun _ => by simp⟩
    | str x => cases e; obtain ⟨t, rfl⟩ := r; exact ⟨_, .str x t, fun _ => by simp⟩
    | @tup a xs ws hs ha =>
      cases r
      have e : (allD (toD st n) ws).map PyData.tuple = some d := e
      cases q : allD (toD st n) ws with
      | none => rw [q] at e; cases e
      | some ds =>
        rw [q] at e; cases e
        obtain ⟨its, rv, ⟨o, ho, hc, m, hd⟩, _⟩ := I.tuple hs
        obtain ⟨as, hr, hn⟩ := readsAll_of ih ws _ _ _ ha rv q
        exact ⟨_, .tuple ho hc hd hr, fun z => hn (by unfold hasL at z; exact z)⟩
    | @ils a xs ws hs ha =>
      cases r
      have e : (allD (toD st n) ws).map PyData.list = some d := e
      cases q : allD (toD st n) ws with
      | none => rw [q] at e; cases e
      | some ds =>
        rw [q] at e; cases e
        obtain ⟨its, rv, ⟨o, m, ho, hc, _, hd⟩, _⟩ := I.list hs.sq
        obtain ⟨as, hr, _⟩ := readsAll_of ih ws _ _ _ ha rv q
        exact ⟨_, .list ho hc hd hr, fun z => by unfold hasL at z; cases z⟩
    | @ref k a hk =>
      cases r
      unfold toD at e
      have lst : ∀ (ws : List W) (xs : List V), Rd H a (.lst xs) → RepAll X.K H ρ ws xs → (allD (toD st n) ws).map PyData.list = some d → ∃ as, Reads s.heap (.ref a) d as ∧ (hasL d = false → sysModules ∉ as) := fun ws xs h1 h2 e => by
        cases q : allD (toD st n) ws with
        | none => rw [q] at e; cases e
        | some ds =>
          rw [q] at e; cases e
          obtain ⟨its, rv, ⟨o, m, ho, hc, _, hd⟩, _⟩ := I.list (rd_list h1)
          obtain ⟨as, hr, _⟩ := readsAll_of ih ws _ _ _ h2 rv q
          exact ⟨_, .list ho hc hd hr, fun z => by unfold hasL at z; cases z⟩
      split at e
      · rename_i ws hw
        obtain ⟨xs, h1, h2⟩ := R.ob k a _ hk hw
        exact lst ws xs (.inl h1) h2 e
      · rename_i hw
        cases e
        have h1 : H a = some (.dK []) := R.ob k a _ hk hw
        obtain ⟨_, hsm, vs, kv, o, es, ep, ho, ⟨hc, hrest⟩, hd, hes, hp, _⟩ := I.hok a _ h1
        cases kv
        have he : es.toList = [] := by
          cases q : es.toList with
          | nil => rfl
          | cons x xs => rw [q] at hp; exact absurd hp (by intro z; cases z)
        refine ⟨_, .dict (kvs := []) (as := []) (bs := []) ho hc hd (by rw [he]; exact .nil) (by rw [he]; exact .nil), fun _ m => ?_⟩
        have m : sysModules = a := by simpa using m
        rw [← m] at hsm
        simp at hsm
      · cases e
end

/-! ### equality, in -/
def shD (d : PyData) : Bool := SeqAt.shaped d
def eqW (a b : W) (st : Sto) : Option Bool := match toD st 24 a, toD st 24 b with
  | some d, some e => if shD d && shD e then some (PyData.eqv d e) else none
  | _, _ => none
def bOut (o : Option Bool) (st : Sto) : Out W := match o with
  | some b => ret (.bl b) st
  | none => none
def opEq : O2 := fun a b st => bOut (eqW a b st) st
def opNe : O2 := fun a b st => bOut ((eqW a b st).map (!·)) st
/-- the reading of a comparison of data -/
def rData (K : PySem.W.Frag) (F : PyData → PyData → Option Bool) : R2 := fun x y H Q => ∃ (ρ : List Addr) (st : Sto) (a b : W) (d e : PyData) (r : Bool), HR K H ρ st ∧ Rep K H ρ a x ∧ Rep K H ρ b y ∧ toD st 24 a = some d ∧ toD st 24 b = some e ∧ F d e = some r ∧ Q (.bl r) H
def dEq (d e : PyData) : Option Bool := if shD d && shD e then some (PyData.eqv d e) else none
def dNe (d e : PyData) : Option Bool := if shD d && shD e then some (!PyData.eqv d e) else none
def dIn (d e : PyData) : Option Bool := match e with
  | .list ds => if shD d && shD e then some (ds.any fun z => PyData.eqv z d) else none
  | .tuple ds => if shD d && shD e then some (ds.any fun z => PyData.eqv z d) else none
  | _ => none
def dNotIn (d e : PyData) : Option Bool := (dIn d e).map (!·)
section
variable {X : Cx}
theorem op_dEq (hu : X.A.units + 64 < cLine) : OpR X (compareOp .Eq) (rData X.K dEq) := by
  intro pins s σ H x y v u Q I rx ry h
  obtain ⟨ρ, st, a, b, d, e, r, R, ra, rb, ea, eb, ef, q⟩ := h
  obtain ⟨as, r1, _⟩ := reads_of I R _ _ _ _ _ ra rx ea
  obtain ⟨bs, r2, _⟩ := reads_of I R _ _ _ _ _ rb ry eb
  unfold dEq at ef
  split at ef
  · rename_i hs
    rw [Bool.and_eq_true] at hs
    cases ef
    exact SeqAt.compareEq_shaped r1 r2 hs.1 hs.2 hu ⟨.bl _, H, I, rfl, q⟩
  · cases ef
theorem op_dNe (hu : X.A.units + 64 < cLine) : OpR X (compareOp .NotEq) (rData X.K dNe) := by
  intro pins s σ H x y v u Q I rx ry h
  obtain ⟨ρ, st, a, b, d, e, r, R, ra, rb, ea, eb, ef, q⟩ := h
  obtain ⟨as, r1, _⟩ := reads_of I R _ _ _ _ _ ra rx ea
  obtain ⟨bs, r2, _⟩ := reads_of I R _ _ _ _ _ rb ry eb
  unfold dNe at ef
  split at ef
  · rename_i hs
    rw [Bool.and_eq_true] at hs
    cases ef
    exact SeqAt.compareNe_shaped r1 r2 hs.1 hs.2 hu ⟨.bl _, H, I, rfl, q⟩
  · cases ef
theorem op_dIn (hu : X.A.units + 65 < cLine) : OpR X (compareOp .In) (rData X.K dIn) := by
  intro pins s σ H x y v u Q I rx ry h
  obtain ⟨ρ, st, a, b, d, e, r, R, ra, rb, ea, eb, ef, q⟩ := h
  obtain ⟨as, r1, _⟩ := reads_of I R _ _ _ _ _ ra rx ea
  obtain ⟨bs, r2, _⟩ := reads_of I R _ _ _ _ _ rb ry eb
  unfold dIn at ef
  split at ef
  · split at ef
    · rename_i hs
      rw [Bool.and_eq_true] at hs
      cases ef
      exact SeqAt.in_list_reads r2 r1 (SeqAt.canLay_of_shaped hs.2) (SeqAt.canLay_of_shaped hs.1) (PyProof.Rows.room_in_shaped hs.1 hu) ⟨.bl _, H, I, rfl, q⟩
    · cases ef
  · split at ef
    · rename_i hs
      rw [Bool.and_eq_true] at hs
      cases ef
      exact SeqAt.in_tuple_reads r2 r1 (SeqAt.canLay_of_shaped hs.2) (SeqAt.canLay_of_shaped hs.1) (PyProof.Rows.room_in_shaped hs.1 hu) ⟨.bl _, H, I, rfl, q⟩
    · cases ef
  · cases ef
theorem op_dNotIn (hu : X.A.units + 65 < cLine) : OpR X (compareOp .NotIn) (rData X.K dNotIn) := by
  intro pins s σ H x y v u Q I rx ry h
  obtain ⟨ρ, st, a, b, d, e, r, R, ra, rb, ea, eb, ef, q⟩ := h
  obtain ⟨as, r1, _⟩ := reads_of I R _ _ _ _ _ ra rx ea
  obtain ⟨bs, r2, _⟩ := reads_of I R _ _ _ _ _ rb ry eb
  unfold dNotIn dIn at ef
  split at ef
  · split at ef
    · rename_i hs
      rw [Bool.and_eq_true] at hs
      cases ef
      exact SeqAt.notIn_list_reads r2 r1 (SeqAt.canLay_of_shaped hs.2) (SeqAt.canLay_of_shaped hs.1) (PyProof.Rows.room_in_shaped hs.1 hu) ⟨.bl _, H, I, rfl, q⟩
    · cases ef
  · split at ef
    · rename_i hs
      rw [Bool.and_eq_true] at hs
      cases ef
      exact SeqAt.notIn_tuple_reads r2 r1 (SeqAt.canLay_of_shaped hs.2) (SeqAt.canLay_of_shaped hs.1) (PyProof.Rows.room_in_shaped hs.1 hu) ⟨.bl _, H, I, rfl, q⟩
    · cases ef
  · cases ef
end
/-- an operation that compares data -/
def opData (F : PyData → PyData → Option Bool) : O2 := fun a b st => match toD st 24 a, toD st 24 b with
  | some d, some e => bOut (F d e) st
  | _, _ => none
theorem bOut_some {o : Option Bool} {st st' : Sto} {r : R W} (e : bOut o st = some (r, st')) : ∃ b, o = some b ∧ r = .ok (.bl b) ∧ st' = st := by
  cases o with
  | none => cases e
  | some b => cases e; exact ⟨b, rfl, rfl, rfl⟩
theorem opr_data {K : PySem.W.Frag} {F : PyData → PyData → Option Bool} : OPR K (rData K F) (opData F) := by
  intro x y H Q ρ st st' a b w R ra rb e p
  unfold opData at e
  split at e
  · rename_i d e' h1 h2
    obtain ⟨r, hf, hr, rfl⟩ := bOut_some e
    cases hr
    exact ⟨ρ, st', a, b, d, e', r, R, ra, rb, h1, h2, hf, p _ H ρ (Ext.refl _ _) R (.bl r)⟩
  · cases e
theorem nox_data {F : PyData → PyData → Option Bool} (a b : W) (st : Sto) : NoX (opData F a b st) := by
  intro x st' e
  unfold opData at e
  split at e
  · obtain ⟨_, _, h, _⟩ := bOut_some e
    cases h
  · cases e
end DI

namespace DI
open PySem L2

/-! ### arithmetic -/
def opI (c : Int → Int → Bool) (g : Int → Int → W) : O2 := fun a b st => match a, b with
  | .int i, .int j => if c i j then ret (g i j) st else none
  | _, _ => none
theorem opI_some {c : Int → Int → Bool} {g : Int → Int → W} {a b : W} {st st' : Sto} {r : R W} (e : opI c g a b st = some (r, st')) : ∃ i j, a = .int i ∧ b = .int j ∧ c i j = true ∧ r = .ok (g i j) ∧ st' = st := by
  unfold opI at e
  split at e
  · split at e
    · rename_i h; cases e; exact ⟨_, _, rfl, rfl, h, rfl, rfl⟩
    · cases e
  · cases e
theorem nox_I {c : Int → Int → Bool} {g : Int → Int → W} (a b : W) (st : Sto) : NoX (opI c g a b st) := fun x st' e => by
  obtain ⟨_, _, _, _, _, h, _⟩ := opI_some e
  cases h
def yes2 (_ _ : Int) : Bool := true
/-- plain ones: an int, a bool of two ints -/
def gI (f : Int → Int → Int) (i j : Int) : W := .int (f i j)
def gB (f : Int → Int → Bool) (i j : Int) : W := .bl (f i j)
theorem opr_I0i {K : PySem.W.Frag} {f : Int → Int → Int} : OPR K (rI0 fun i j => .int (f i j)) (opI yes2 (gI f)) := by
  intro x y H Q ρ st st' a b w R ra rb e p
  obtain ⟨i, j, rfl, rfl, _, h, rfl⟩ := opI_some e
  cases h; cases ra; cases rb
  exact ⟨i, j, rfl, rfl, p _ H ρ (Ext.refl _ _) R (.int _)⟩
theorem opr_I0b {K : PySem.W.Frag} {f : Int → Int → Bool} : OPR K (rI0 fun i j => .bl (f i j)) (opI yes2 (gB f)) := by
  intro x y H Q ρ st st' a b w R ra rb e p
  obtain ⟨i, j, rfl, rfl, _, h, rfl⟩ := opI_some e
  cases h; cases ra; cases rb
  exact ⟨i, j, rfl, rfl, p _ H ρ (Ext.refl _ _) R (.bl _)⟩
theorem opr_Ii {K : PySem.W.Frag} {C : Int → Int → Prop} {c : Int → Int → Bool} {f : Int → Int → Int} (hc : ∀ i j, c i j = true → C i j) : OPR K (rI C fun i j => .int (f i j)) (opI c (gI f)) := by
  intro x y H Q ρ st st' a b w R ra rb e p
  obtain ⟨i, j, rfl, rfl, k, h, rfl⟩ := opI_some e
  cases h; cases ra; cases rb
  exact ⟨i, j, rfl, rfl, hc _ _ k, p _ H ρ (Ext.refl _ _) R (.int _)⟩
def cMul (i j : Int) : Bool := (decide (-(2 ^ 64) < i) && decide (i < 2 ^ 64)) || (decide (-(2 ^ 64) < j) && decide (j < 2 ^ 64))
def cMod (_ j : Int) : Bool := decide (0 < j)
def cDiv (_ j : Int) : Bool := decide (0 < j) && decide (j < 1073741824)
def cPow (i j : Int) : Bool := decide (0 ≤ j) && decide (j ≤ 1000000) && decide (i.natAbs < 2 ^ 64)
theorem cMul_ok (i j : Int) (h : cMul i j = true) : CMul i j := by
  unfold cMul at h
  rw [Bool.or_eq_true, Bool.and_eq_true, Bool.and_eq_true] at h
  rcases h with ⟨a, b⟩ | ⟨a, b⟩
  · exact .inl ⟨of_decide_eq_true a, of_decide_eq_true b⟩
  · exact .inr ⟨of_decide_eq_true a, of_decide_eq_true b⟩
theorem cMod_ok (i j : Int) (h : cMod i j = true) : 0 < j := of_decide_eq_true h
theorem cDiv_ok (i j : Int) (h : cDiv i j = true) : CDiv i j := by
  unfold cDiv at h
  rw [Bool.and_eq_true] at h
  exact ⟨of_decide_eq_true h.1, of_decide_eq_true h.2⟩
theorem cPow_ok (i j : Int) (h : cPow i j = true) : CPow i j := by
  unfold cPow at h
  rw [Bool.and_eq_true, Bool.and_eq_true] at h
  exact ⟨of_decide_eq_true h.1.1, of_decide_eq_true h.1.2, of_decide_eq_true h.2⟩
abbrev opSub : O2 := opI yes2 (gI fun i j => i - j)
abbrev opMul : O2 := opI cMul (gI fun i j => i * j)
abbrev opMod : O2 := opI cMod (gI fun i j => i % j)
abbrev opDiv : O2 := opI cDiv (gI fun i j => i / j)
abbrev opPow : O2 := opI cPow (gI fun i j => i ^ j.toNat)
abbrev opLt : O2 := opI yes2 (gB fun i j => decide (i < j))
abbrev opLe : O2 := opI yes2 (gB fun i j => decide (i ≤ j))
abbrev opGt : O2 := opI yes2 (gB fun i j => decide (j < i))
abbrev opGe : O2 := opI yes2 (gB fun i j => decide (j ≤ i))
/-- == and != of anything: texts as such, else as data -/
def opEqD : O2 := fun a b st => match a, b with
  | .str x, .str y => ret (.bl (x == y)) st
  | _, _ => opData dEq a b st
def opNeD : O2 := fun a b st => match a, b with
  | .str x, .str y => ret (.bl (!(x == y))) st
  | _, _ => opData dNe a b st
theorem dec_str (x y : Str) : decide (V.str x = V.str y) = (x == y) := by
  by_cases e : x = y
  · subst e; simp
  · have h : ¬ V.str x = V.str y := fun z => e (by injection z)
    rw [decide_eq_false h]
    exact (beq_eq_false_iff_ne.mpr e).symm
theorem opr_eq2 {K : PySem.W.Frag} : OPR K (rOr rEq (rData K dEq)) opEqD := by
  intro x y H Q ρ st st' a b w R ra rb e p
  unfold opEqD at e
  split at e
  · cases e; cases ra; cases rb
    refine .inl ⟨rfl, ?_⟩
    rw [dec_str]
    exact p _ H ρ (Ext.refl _ _) R (.bl _)
  · exact .inr (opr_data R ra rb e p)
theorem opr_ne2 {K : PySem.W.Frag} : OPR K (rOr rNe (rData K dNe)) opNeD := by
  intro x y H Q ρ st st' a b w R ra rb e p
  unfold opNeD at e
  split at e
  · cases e; cases ra; cases rb
    refine .inl ⟨rfl, ?_⟩
    rw [dec_str]
    exact p _ H ρ (Ext.refl _ _) R (.bl _)
  · exact .inr (opr_data R ra rb e p)
theorem nox_eq2 (a b : W) (st : Sto) : NoX (opEqD a b st) := fun x st' e => by
  unfold opEqD at e
  split at e
  · cases e
  · exact nox_data _ _ _ _ _ e
theorem nox_ne2 (a b : W) (st : Sto) : NoX (opNeD a b st) := fun x st' e => by
  unfold opNeD at e
  split at e
  · cases e
  · exact nox_data _ _ _ _ _ e
theorem op_eq2 {X : Cx} (hu : X.A.units + 64 < cLine) : OpR X (compareOp .Eq) (rOr rEq (rData X.K dEq)) := op_or2 op_eq (op_dEq hu)
theorem op_ne2 {X : Cx} (hu : X.A.units + 64 < cLine) : OpR X (compareOp .NotEq) (rOr rNe (rData X.K dNe)) := op_or2 op_ne (op_dNe hu)

/-! ### + of anything -/
def opAdd : O2 := fun a b st => match a, b with
  | .int i, .int j => ret (.int (i + j)) st
  | .str x, .str y => if szW (x.length + y.length) then ret (.str (x ++ y)) st else none
  | .tup xs, .tup ys => if szW (xs.length + ys.length) then ret (.tup (xs ++ ys)) st else none
  | .ref m, .ref n => match st[m]?, st[n]? with
    | some (.lst xs), some (.lst ys) => newL (xs ++ ys) st
    | _, _ => none
  | _, _ => none
def rStr2 : R2 := fun x y H Q => ∃ i j, x = .str i ∧ y = .str j ∧ i.length + j.length ≤ sizeLine ∧ Q (.str (i ++ j)) H
abbrev rAdd4 (K : PySem.W.Frag) : R2 := rOr (rI0 fun i j => .int (i + j)) (rOr rStr2 (rOr rCat (rCatA K)))
theorem op_add4 {X : Cx} : OpR X (binaryOp .Add) (rAdd4 X.K) := op_or2 op_add (op_or2 op_add_str (op_or2 op_cat op_catA))
theorem opr_add {K : PySem.W.Frag} : OPR K (rAdd4 K) opAdd := by
  intro x y H Q ρ st st' a b w R ra rb e p
  unfold opAdd at e
  split at e
  · cases e; cases ra; cases rb
    exact .inl ⟨_, _, rfl, rfl, p _ H ρ (Ext.refl _ _) R (.int _)⟩
  · split at e
    · rename_i hz
      cases e; cases ra; cases rb
      exact .inr (.inl ⟨_, _, rfl, rfl, sz_ok hz, p _ H ρ (Ext.refl _ _) R (.str _)⟩)
    · cases e
  · split at e
    · rename_i xs ys hz
      cases e
      cases ra with
      | @tup a1 us _ h1 r1 =>
      cases rb with
      | @tup a2 vs _ h2 r2 =>
      have hz := sz_ok hz
      rw [r1.length, r2.length] at hz
      refine .inr (.inr (.inr ⟨a1, a2, us, vs, rfl, rfl, h1, h2, hz, fun z => ?_, fun _ z => ?_, fun _ _ q hq => ?_⟩))
      · subst z
        cases r1
        exact p _ H ρ (Ext.refl _ _) R (.tup h2 r2)
      · subst z
        cases r2
        refine p _ H ρ (Ext.refl _ _) R (.tup h1 ?_)
        rw [List.append_nil]; exact r1
      · exact p _ _ ρ (Ext.tup hq) (R.tup hq) (.tup (SqT.of upd_same) ((r1.append r2).mono R (Ext.tup hq)))
    · cases e
  · split at e
    · rename_i m n _ _ xs ys h1 h2
      cases ra with
      | @ref _ a1 k1 =>
      cases rb with
      | @ref _ a2 k2 =>
      obtain ⟨us, e1, r1⟩ := R.ob m a1 _ k1 h1
      obtain ⟨vs, e2, r2⟩ := R.ob n a2 _ k2 h2
      obtain ⟨hz, q⟩ := new_go (EX := fun _ _ _ _ _ => False) (U := fun _ _ _ _ => False) (σ := []) (Q := Q) R (r1.append r2) e p
      rw [List.length_append] at hz
      exact .inr (.inr (.inl ⟨a1, a2, us, vs, rfl, rfl, e1, e2, hz, q⟩))
    · cases e
  · cases e
theorem newL_nox (ws : List W) (st : Sto) : NoX (newL ws st) := fun x st' e => by
  have h := (newL_some e).2
  cases h
theorem nox_add (a b : W) (st : Sto) : NoX (opAdd a b st) := fun x st' e => by
  unfold opAdd at e
  split at e
  · cases e
  · split at e <;> cases e
  · split at e <;> cases e
  · split at e
    · exact newL_nox _ _ _ _ e
    · cases e
  · cases e

/-! ### in -/
def opIn : O2 := fun a b st => match a, b with
  | .str x, .str y => match x.cps.toList with
    | [c] => ret (.bl (decide (c ∈ y.cps.toList))) st
    | _ => none
  | _, _ => opData dIn a b st
def opNotIn : O2 := fun a b st => match a, b with
  | .str x, .str y => match x.cps.toList with
    | [c] => ret (.bl (!decide (c ∈ y.cps.toList))) st
    | _ => none
  | _, _ => opData dNotIn a b st
def rSign (f : Bool → Bool) : R2 := fun x y H Q => ∃ (c : Nat) (z : Str), x = .str ⟨#[c]⟩ ∧ y = .str z ∧ Q (.bl (f (decide (c ∈ z.cps.toList)))) H
theorem op_in2 {X : Cx} (hu : X.A.units + 65 < cLine) : OpR X (compareOp .In) (rOr (rSign id) (rData X.K dIn)) := op_or2 op_in_sign (op_dIn hu)
theorem op_notIn2 {X : Cx} (hu : X.A.units + 65 < cLine) : OpR X (compareOp .NotIn) (rOr (rSign not) (rData X.K dNotIn)) := op_or2 op_notIn_sign (op_dNotIn hu)
theorem str_one {x : Str} {c : Nat} (h : x.cps.toList = [c]) : x = ⟨#[c]⟩ := by
  obtain ⟨⟨l⟩⟩ := x
  have h : l = [c] := h
  subst h
  rfl
theorem opr_in {K : PySem.W.Frag} : OPR K (rOr (rSign id) (rData K dIn)) opIn := by
  intro x y H Q ρ st st' a b w R ra rb e p
  unfold opIn at e
  split at e
  · split at e
    · rename_i x y _ c hc
      cases e; cases ra; cases rb
      exact .inl ⟨c, _, by rw [str_one hc], rfl, p _ H ρ (Ext.refl _ _) R (.bl _)⟩
    · cases e
  · exact .inr (opr_data R ra rb e p)
theorem opr_notIn {K : PySem.W.Frag} : OPR K (rOr (rSign not) (rData K dNotIn)) opNotIn := by
  intro x y H Q ρ st st' a b w R ra rb e p
  unfold opNotIn at e
  split at e
  · split at e
    · rename_i x y _ c hc
      cases e; cases ra; cases rb
      exact .inl ⟨c, _, by rw [str_one hc], rfl, p _ H ρ (Ext.refl _ _) R (.bl _)⟩
    · cases e
  · exact .inr (opr_data R ra rb e p)
theorem nox_in (a b : W) (st : Sto) : NoX (opIn a b st) := fun x st' e => by
  unfold opIn at e
  split at e
  · split at e <;> cases e
  · exact nox_data _ _ _ _ _ e
theorem nox_notIn (a b : W) (st : Sto) : NoX (opNotIn a b st) := fun x st' e => by
  unfold opNotIn at e
  split at e
  · split at e <;> cases e
  · exact nox_data _ _ _ _ _ e
/-! ### is None -/
def opIsN : O2 := fun a b st => match b with
  | .non => ret (.bl (match a with | .non => true | _ => false)) st
  | _ => none
def opNotN : O2 := fun a b st => match b with
  | .non => ret (.bl (match a with | .non => false | _ => true)) st
  | _ => none
def rIsN (f : Bool → Bool) : R2 := fun x y H Q => y = .non ∧ Q (.bl (f (decide (x = .non)))) H
theorem opr_isN {K : PySem.W.Frag} : OPR K (rIsN id) opIsN := by
  intro x y H Q ρ st st' a b w R ra rb e p
  unfold opIsN at e
  split at e
  · cases e; cases rb
    refine ⟨rfl, p _ H ρ (Ext.refl _ _) R ?_⟩
    cases ra <;> exact .bl _
  · cases e
theorem opr_notN {K : PySem.W.Frag} : OPR K (rIsN not) opNotN := by
  intro x y H Q ρ st st' a b w R ra rb e p
  unfold opNotN at e
  split at e
  · cases e; cases rb
    refine ⟨rfl, p _ H ρ (Ext.refl _ _) R ?_⟩
    cases ra <;> exact .bl _
  · cases e
theorem nox_isN (a b : W) (st : Sto) : NoX (opIsN a b st) := fun x st' e => by
  unfold opIsN at e
  split at e <;> cases e
theorem nox_notN (a b : W) (st : Sto) : NoX (opNotN a b st) := fun x st' e => by
  unfold opNotN at e
  split at e <;> cases e
theorem op_isN' {X : Cx} : OpR X (compareOp .Is) (rIsN id) := op_isN
theorem op_notN' {X : Cx} : OpR X (compareOp .IsNot) (rIsN not) := op_notN

/-! ### a[i], a[lo:hi] -/
theorem atI_rep {K : PySem.W.Frag} {H : Hp} {ρ : List Addr} {ws : List W} {xs : List V} {i : Int} {w : W} (r : RepAll K H ρ ws xs) (h : atI ws i = some w) : ∃ v, atI xs i = some v ∧ Rep K H ρ w v := by
  unfold atI at h ⊢
  rw [r.length] at h
  cases e : ixN xs.length i with
  | none => rw [e] at h; cases h
  | some j => rw [e] at h; exact r.get h
def opIx : O2 := fun a b st => match a, b with
  | .tup ws, .int i => (atI ws i).map fun w => (.ok w, st)
  | .ils ws, .int i => (atI ws i).map fun w => (.ok w, st)
  | .str x, .int i => if szW x.length then (atI x.cps.toList i).map fun c => (.ok (.str ⟨#[c]⟩), st) else none
  | .ref k, .int i => match st[k]? with
    | some (.lst ws) => (atI ws i).map fun w => (.ok w, st)
    | _ => none
  | _, _ => none
theorem opr_ix {K : PySem.W.Frag} : OPR K (rIx K) opIx := by
  intro x y H Q ρ st st' a b w R ra rb e p
  unfold opIx at e
  split at e
  · rename_i ws i
    cases rb
    cases h : atI ws i with
    | none => rw [h] at e; cases e
    | some w' =>
      rw [h] at e; cases e
      cases ra with
      | tup hs hr =>
        obtain ⟨v, h1, h2⟩ := atI_rep hr h
        exact .inr (.inl ⟨_, _, i, v, rfl, rfl, hs, h1, p v H ρ (Ext.refl _ _) R h2⟩)
  · rename_i ws i
    cases rb
    cases h : atI ws i with
    | none => rw [h] at e; cases e
    | some w' =>
      rw [h] at e; cases e
      cases ra with
      | ils hs hr =>
        obtain ⟨v, h1, h2⟩ := atI_rep hr h
        exact .inl ⟨_, _, i, v, rfl, rfl, hs.sq, h1, p v H ρ (Ext.refl _ _) R h2⟩
  · rename_i z i
    cases rb; cases ra
    split at e
    · rename_i hz
      cases h : atI z.cps.toList i with
      | none => rw [h] at e; cases e
      | some c =>
        rw [h] at e; cases e
        exact .inr (.inr ⟨z, i, c, rfl, rfl, sz_ok hz, h, p _ H ρ (Ext.refl _ _) R (.str _)⟩)
    · cases e
  · rename_i k i
    cases rb
    cases ra with
    | @ref _ a1 k1 =>
    have go : ∀ ws us, Rd H a1 (.lst us) → RepAll K H ρ ws us → ((atI ws i).map fun w => (DI.R.ok w, st)) = some (DI.R.ok w, st') → rIx K (.ref a1) (.int i) H Q := fun ws us h1 h2 e => by
      cases h : atI ws i with
      | none => rw [h] at e; cases e
      | some w' =>
        rw [h] at e; cases e
        obtain ⟨v, h3, h4⟩ := atI_rep h2 h
        exact .inl ⟨_, _, i, v, rfl, rfl, .inl h1, h3, p v H ρ (Ext.refl _ _) R h4⟩
    split at e
    · rename_i ws hw
      obtain ⟨us, e1, r1⟩ := R.ob k a1 _ k1 hw
      exact go ws us (.inl e1) r1 e
    · cases e
  · cases e
theorem map_nox {α : Type} {o : Option α} {f : α → W} {st : Sto} : NoX (o.map fun a => (R.ok (f a), st)) := fun x st' e => by
  cases o <;> cases e
theorem nox_ix (a b : W) (st : Sto) : NoX (opIx a b st) := fun x st' e => by
  unfold opIx at e
  split at e
  · exact map_nox (f := fun w => w) _ _ e
  · exact map_nox (f := fun w => w) _ _ e
  · split at e
    · exact map_nox _ _ e
    · cases e
  · split at e
    · exact map_nox (f := fun w => w) _ _ e
    · cases e
  · cases e
section
variable {X : Cx} {EX : XR} {U : WX} {a b : Expr} {pos : Pos}
theorem pd_ix {fa fb : FE} (ha : PD X EX U a fa) (hb : PD X EX U b fb) (hs : PlainIx b := by exact fun _ _ => rfl) : PD X EX U (.Subscript a b pos) (fOp opIx fa fb) :=
  (pe_ix ix_seq ha hb hs).imp fun _ _ _ h => op_go opr_ix nox_ix h
def cutW (ws : List W) (lo hi : Option Int) : List W := (ws.drop (HT.sIx ws.length 0 lo)).take (HT.sIx ws.length ws.length hi - HT.sIx ws.length 0 lo)
theorem cutW_rep {K : PySem.W.Frag} {H : Hp} {ρ : List Addr} {ws : List W} {xs : List V} (r : RepAll K H ρ ws xs) (lo hi : Option Int) : RepAll K H ρ (cutW ws lo hi) (cutV xs lo hi) := by
  unfold cutW cutV
  rw [r.length]
  exact (r.drop _).take _
/-- a part of a slice -/
abbrev FO := Evn → Sto → Out (Option Int)
def fPart (f : FE) : FO := fun env st => bnd (f env st) fun w st => match w with
  | .int i => ret (some i) st
  | _ => none
def fNoPart : FO := fun _ st => ret none st
def rP : Rl (Option Int) (Option Int) := fun _ _ a b => a = b
theorem mono_p {K : PySem.W.Frag} : Mono K rP := fun _ _ _ _ _ _ _ _ _ h => h
abbrev PDO (X : Cx) (EX : XR) (U : WX) (o : Option Expr) (f : FO) : Prop := PO X o (tG X.K EX U rP f)
theorem _root_.L2.PO.imp {X : Cx} {o : Option Expr} {t t' : TO} (h : PO X o t) (w : ∀ σ H Q, t' σ H Q → t σ H Q) : PO X o t' := ⟨fun pins s σ H Q I q => h.run pins s σ H Q I (w σ H Q q)⟩
theorem pdo_none : PDO X EX U none fNoPart := po_none.imp fun σ H Q ⟨ρ, env, st, r, st', R, E, e, p⟩ => by
  cases e
  exact p _ H ρ (Ext.refl _ _) R rfl
theorem pdo_some {e : Expr} {f : FE} (h : PD X EX U e f) : PDO X EX U (some e) (fPart f) := by
  refine (po_some h).imp fun σ H Q h => ?_
  refine (tG_bind (r1 := Rep X.K) (g := fun _ w st => match w with | .int i => ret (some i) st | _ => none) h).imp fun x H1 h1 => ?_
  obtain ⟨ρ, env, st, w, r', st', R, E, rw', e, p⟩ := h1
  cases rw' with
  | int i => cases e; exact ⟨i, rfl, p _ H1 ρ (Ext.refl _ _) R rfl⟩
  | _ => cases e
def opSl : W → Option Int → Option Int → Sto → Out W := fun a lo hi st => match a with
  | .tup ws => ret (.tup (cutW ws lo hi)) st
  | .ils ws => some (.ok (.ref st.length), st ++ [.lst (cutW ws lo hi)])
  | .ref k => match st[k]? with
    | some (.lst ws) => some (.ok (.ref st.length), st ++ [.lst (cutW ws lo hi)])
    | _ => none
  | _ => none
def fSl (fa : FE) (fl fh : FO) : FE := fun env st => bnd (fa env st) fun a st => bnd (fl env st) fun lo st => bnd (fh env st) fun hi st => opSl a lo hi st
theorem sIx_le (n : Nat) : HT.sIx n 0 none = 0 ∧ HT.sIx n n none = n := ⟨rfl, rfl⟩
theorem sl_go {K : PySem.W.Frag} {w : W} {x : V} {lo hi : Option Int} {st st' : Sto} {H : Hp} {ρ : List Addr} {Q : VK} {r : DI.R W} {σ : L2.St} (hR : HR K H ρ st) (rw' : Rep K H ρ w x) (e : opSl w lo hi st = some (r, st')) (p : Post K EX U (Rep K) σ H ρ r st' Q) :
    rSlA K x lo hi H Q ∨ rSlL K x lo hi H Q := by
  unfold opSl at e
  split at e
  · cases e
    cases rw' with
    | @tup a1 us _ h1 r1 =>
    refine .inl ⟨a1, us, rfl, h1, fun hw => ?_, fun _ q hq => ?_⟩
    · refine p _ H ρ (Ext.refl _ _) hR (.tup h1 ?_)
      have c := cutW_rep r1 lo hi
      have e : cutV us lo hi = us := by
        unfold cutV
        rw [hw.1, hw.2]; simp
      rw [e] at c; exact c
    · exact p _ _ ρ (Ext.tup hq) (hR.tup hq) (.tup (SqT.of upd_same) ((cutW_rep r1 lo hi).mono hR (Ext.tup hq)))
  · cases e
    cases rw' with
    | @ils a1 us _ h1 r1 =>
    refine .inr ⟨a1, us, rfl, h1.sq, fun q hq => ?_⟩
    refine p _ _ (ρ ++ [q]) (Ext.alloc hq) (hR.lst hq (cutW_rep r1 lo hi)) (.ref ?_)
    rw [← hR.len]; simp
  · rename_i k
    cases rw' with
    | @ref _ a1 k1 =>
    have go : ∀ ws us, Rd H a1 (.lst us) → RepAll K H ρ ws us → (some (DI.R.ok (W.ref st.length), st ++ [Ob.lst (cutW ws lo hi)]) : Out W) = some (r, st') → rSlL K (.ref a1) lo hi H Q := fun ws us h1 h2 e => by
      cases e
      refine ⟨a1, us, rfl, .inl h1, fun q hq => ?_⟩
      refine p _ _ (ρ ++ [q]) (Ext.alloc hq) (hR.lst hq (cutW_rep h2 lo hi)) (.ref ?_)
      rw [← hR.len]; simp
    split at e
    · rename_i ws hw
      obtain ⟨us, e1, r1⟩ := hR.ob k a1 _ k1 hw
      exact .inr (go ws us (.inl e1) r1 e)
    · cases e
  · cases e
theorem pd_sl {lo hi : Option Expr} {p2 : Pos} {fa : FE} {fl fh : FO} (ha : PD X EX U a fa) (hl : PDO X EX U lo fl) (hh : PDO X EX U hi fh) : PD X EX U (.Subscript a (.Slice lo hi none p2) pos) (fSl fa fl fh) := by
  refine (pe_slice (SlR.or sl_tupA sl_list) ha hl hh).imp fun σ H Q h => ?_
  refine (tG_bind (r1 := Rep X.K) (g := fun env a st => bnd (fl env st) fun lo st => bnd (fh env st) fun hi st => opSl a lo hi st) h).imp fun x H1 h1 => ?_
  refine (tK_tG (tK_bind (r1 := rP) (f := fun env _ st => fl env st) (g := fun env a lo st => bnd (fh env st) fun hi st => opSl a lo hi st) mono_rep h1)).imp fun y H2 h2 => ?_
  refine (tK_tG (tK_bind (r1 := rP) (f := fun env _ st => fh env st) (g := fun env (c : W × Option Int) hi st => opSl c.1 c.2 hi st) (fun _ _ _ _ _ _ _ R e h => ⟨h.1.mono R e, h.2⟩) h2)).imp fun z H3 h3 => ?_
  obtain ⟨ρ, env, st, ⟨⟨w, lo'⟩, hi'⟩, r', st', hR, E, ⟨⟨rw', r1⟩, r2⟩, e, p⟩ := h3
  have r1 : lo' = y := r1
  have r2 : hi' = z := r2
  subst r1 r2
  exact sl_go hR rw' e p
end
end DI

namespace DI
open PySem L2

abbrev OC := List W → Sto → Out W
def CLR (K : PySem.W.Frag) (r : List V → Hp → VK → Prop) (op : OC) : Prop := ∀ {vs : List V} {H : Hp} {Q : VK} {ρ : List Addr} {st st' : Sto} {ws : List W} {w : W}, HR K H ρ st → RepAll K H ρ ws vs → op ws st = some (.ok w, st') →
  (∀ v H' ρ', Ext H ρ H' ρ' → HR K H' ρ' st' → Rep K H' ρ' w v → Q v H') → r vs H Q
def fCB (op : OC) (fa : FA) : FE := fun env st => bnd (fa env st) fun ws st => op ws st
section
variable {X : Cx} {EX : XR} {U : WX} {x : Str} {p pos : Pos} {e : Expr} {es : List Expr} {id T : String} {r : List V → Hp → VK → Prop}
theorem cb_go {op : OC} {fa : FA} (hs : CLR X.K r op) (hx : ∀ ws st, NoX (op ws st)) {σ : L2.St} {H : Hp} {Q : VK} (h : tI X.K EX U (fCB op fa) σ H Q) : tCB r (tA X.K EX U fa) σ H Q := by
  refine (tG_bind (r1 := RepAll X.K) (g := fun env ws st => op ws st) h).imp fun x H1 h1 => ?_
  obtain ⟨ρ, env, st, ws, r', st', hR, E, rw', e, p⟩ := h1
  cases r' with
  | ok w => exact hs hR rw' e p
  | exc x => exact absurd e (hx _ _ _ _)
theorem pd_callB {op : OC} {fa : FA} (hc : CallR X (.builtin id) r) (hs : CLR X.K r op) (hx : ∀ ws st, NoX (op ws st)) (hg : Gl X x) (hm : X.mg x = none) (hv : bootBuiltins x = some (.builtin id)) (ha : PDA X EX U (e :: es) fa) (hn : x ≠ "__name__" := by decide) (hdb : (x == ("__debug__" : Str)) = false := by decide)
    (he : starEach (e :: es) X.env = (false, eval e X.env) :: starEach es X.env := by rfl) (hpl : (backTo pos (starEach es X.env)).any (·.1) = false := by rfl) : PD X EX U (.Call (.Name x p) (e :: es) [] pos) (fCB op fa) :=
  (pe_callB hc hg hm hv ha hn hdb he hpl).imp fun _ _ _ h => cb_go hs hx h
theorem pd_callTy {op : OC} {fa : FA} (hc : CallR X (.type T) r) (hs : CLR X.K r op) (hx : ∀ ws st, NoX (op ws st)) (hg : Gl X x) (hm : X.mg x = none) (hv : bootBuiltins x = some (.type T)) (ha : PDA X EX U (e :: es) fa) (hn : x ≠ "__name__" := by decide) (hdb : (x == ("__debug__" : Str)) = false := by decide)
    (he : starEach (e :: es) X.env = (false, eval e X.env) :: starEach es X.env := by rfl) (hpl : (backTo pos (starEach es X.env)).any (·.1) = false := by rfl) : PD X EX U (.Call (.Name x p) (e :: es) [] pos) (fCB op fa) :=
  (pe_callTy hc hg hm hv ha hn hdb he hpl).imp fun _ _ _ h => cb_go hs hx h
end

/-! ### len -/
def lenW (w : W) (st : Sto) : Option Nat := match w with
  | .str x => if szW x.length then some x.length else none
  | .tup ws => some ws.length
  | .ils ws => some ws.length
  | .ref k => match st[k]? with
    | some (.lst ws) => some ws.length
    | _ => none
  | _ => none
def opLen : OC := fun ws st => match ws with
  | [w] => match lenW w st with
    | some n => ret (.int n) st
    | none => none
  | _ => none
def rLen (K : PySem.W.Frag) : List V → Hp → VK → Prop := fun xs H Q => ∃ x n, xs = [x] ∧ LenV K x H n ∧ Q (.int n) H
theorem lenV_of {K : PySem.W.Frag} {H : Hp} {ρ : List Addr} {st : Sto} {w : W} {v : V} {n : Nat} (hR : HR K H ρ st) (r : Rep K H ρ w v) (h : lenW w st = some n) : LenV K v H n := by
  cases r with
  | str x =>
    have h : (if szW x.length then some x.length else none) = some n := h
    split at h
    · rename_i hz; cases h; exact ⟨sz_ok hz, rfl⟩
    · cases h
  | tup hs ha => cases h; exact .inr ⟨_, hs, ha.length⟩
  | ils hs ha => cases h; exact .inl ⟨_, hs.sq, ha.length⟩
  | @ref k a hk =>
    have h : (match st[k]? with | some (.lst ws) => some ws.length | _ => none) = some n := h
    split at h
    · rename_i ws hw
      obtain ⟨us, e1, r1⟩ := hR.ob k a _ hk hw
      cases h
      exact .inl ⟨us, .inl (.inl e1), r1.length⟩
    · cases h
  | _ => cases h
theorem clr_len {K : PySem.W.Frag} : CLR K (rLen K) opLen := by
  intro vs H Q ρ st st' ws w hR rs e p
  unfold opLen at e
  split at e
  · split at e
    · rename_i w' n hn
      cases e
      cases rs with
      | cons r1 r2 =>
        cases r2
        exact ⟨_, n, rfl, lenV_of hR r1 hn, p _ H ρ (Ext.refl _ _) hR (.int _)⟩
    · cases e
  · cases e
theorem nox_len (ws : List W) (st : Sto) : NoX (opLen ws st) := fun x st' e => by
  unfold opLen at e
  split at e
  · split at e <;> cases e
  · cases e
/-! ### repr -/
mutual
/-- the signs of all texts are signs; no dict holds anything -/
def txtOk : PyData → Bool
  | .none | .bool _ | .int _ => true
  | .str x => PyData.strOk x
  | .list xs | .tuple xs => txtOkAll xs
  | .dict kvs => kvs.isEmpty
def txtOkAll : List PyData → Bool
  | [] => true
  | x :: xs => txtOk x && txtOkAll xs
end
mutual
/-- the text of repr is not longer -/
def bdD : PyData → Nat
  | .none | .bool _ => 5
  | .int _ => 2000
  | .str x => 10 * x.length + 2
  | .list xs | .tuple xs => bdAll xs + 4
  | .dict _ => 2
def bdAll : List PyData → Nat
  | [] => 0
  | x :: xs => (bdD x + 2) + bdAll xs
end
theorem join_le (ts : List Str) : (Str.join ", " ts).length ≤ piled ts := by
  cases ts with
  | nil => decide
  | cons t r => have := join_length_add (t :: r) (by simp); omega
mutual
theorem shown_le : ∀ d : PyData, d.showable = true → txtOk d = true → d.shown.length ≤ bdD d
  | .none, _, _ => by decide
  | .bool b, _, _ => by cases b <;> decide
  | .int i, h, _ => by
    have h : i.natAbs.log2 < 1920 := by simpa [PyData.showable] using h
    have e := int_text_length_le (k := 1920) (by decide) h
    show (Str.ofString (toString i)).length ≤ 2000
    rw [ofString_length]; omega
  | .str x, _, h => by
    have h : x.cps.all (· < 0x110000) = true := h
    rw [← Array.all_toList, List.all_eq_true] at h
    show (reprText x).length ≤ 10 * x.length + 2
    exact StrLaws.reprText_len x fun c hc => Nat.lt_trans (of_decide_eq_true (h c hc)) (by decide)
  | .list xs, h, h2 => by
    have q := shownAll_le xs (by simpa [PyData.showable] using h) (by simpa [txtOk] using h2)
    show (listText (PyData.shownAll xs)).length ≤ bdAll xs + 4
    rw [listText_eq_join, strLen_append, strLen_append]
    have j := join_le (PyData.shownAll xs)
    have e1 : ((("[" : String) : Str)).length = 1 := rfl
    have e2 : ((("]" : String) : Str)).length = 1 := rfl
    omega
  | .tuple xs, h, h2 => by
    have q := shownAll_le xs (by simpa [PyData.showable] using h) (by simpa [txtOk] using h2)
    show (tupleText (PyData.shownAll xs)).length ≤ bdAll xs + 4
    unfold tupleText
    rw [strLen_append, strLen_append]
    have j := join_le (PyData.shownAll xs)
    have e1 : ((("(" : String) : Str)).length = 1 := rfl
    have e3 : (((if (PyData.shownAll xs).length == 1 then ",)" else ")" : String) : Str)).length ≤ 2 := by split <;> decide
    omega
  | .dict kvs, _, h => by
    have h : kvs.isEmpty = true := h
    cases kvs with
    | nil => decide +kernel
    | cons _ _ => cases h
theorem shownAll_le : ∀ xs : List PyData, PyData.showableAll xs = true → txtOkAll xs = true → piled (PyData.shownAll xs) ≤ bdAll xs
  | [], _, _ => by decide
  | x :: xs, h, h2 => by
    have h : x.showable = true ∧ PyData.showableAll xs = true := by simpa [PyData.showableAll] using h
    have h2 : txtOk x = true ∧ txtOkAll xs = true := by simpa [txtOkAll] using h2
    have a := shown_le x h.1 h2.1
    have b := shownAll_le xs h.2 h2.2
    show piled (x.shown :: PyData.shownAll xs) ≤ (bdD x + 2) + bdAll xs
    rw [piled_cons]; omega
end
def okR (d : PyData) : Bool := d.showable && decide (d.depth ≤ 40) && (!d.hasDict || !hasL d) && (txtOk d && decide (bdD d ≤ 1000000))
theorem okR_len {d : PyData} (h : okR d = true) : d.shown.length ≤ sizeLine := by
  unfold okR at h
  simp only [Bool.and_eq_true] at h
  exact Nat.le_trans (shown_le d h.1.1.1 h.2.1) (Nat.le_trans (of_decide_eq_true h.2.2) (by decide))
def opRepr : OC := fun ws st => match ws with
  | [w] => match toD st 24 w with
    | some d => if okR d then ret (.str d.shown) st else none
    | none => none
  | _ => none
def rRepr (K : PySem.W.Frag) : List V → Hp → VK → Prop := fun xs H Q => ∃ (x : V) (ρ : List Addr) (st : Sto) (w : W) (d : PyData), xs = [x] ∧ HR K H ρ st ∧ Rep K H ρ w x ∧ toD st 24 w = some d ∧ okR d = true ∧ Q (.str d.shown) H
theorem call_repr {X : Cx} (hg : X.A.guards = some []) (hu : X.A.units + 64 < cLine) : CallR X (.builtin "repr") (rRepr X.K) := by
  intro pins s σ H xs us Q I r h
  obtain ⟨x, ρ, st, w, d, rfl, hR, rw', ed, ok, q⟩ := h
  cases r with
  | cons r1 r2 =>
    rename_i u us
    cases r2
    obtain ⟨as, rd, hn⟩ := reads_of I hR _ _ _ _ _ rw' r1 ed
    have o4 := okR_len ok
    unfold okR at ok
    rw [Bool.and_eq_true, Bool.and_eq_true, Bool.and_eq_true] at ok
    obtain ⟨⟨⟨o1, o2⟩, o3⟩, _⟩ := ok
    have o2 := of_decide_eq_true o2
    have hsm : d.hasDict = true → sysModules ∉ as := fun z => by
      rw [z] at o3
      exact hn (by simpa using o3)
    cases rd with
    | none => exact P.repr_of_none ⟨.str _, H, I.tok _, ⟨_, rfl⟩, q⟩
    | bool b => exact P.repr_of_bool ⟨.str _, H, I.tok _, ⟨_, rfl⟩, by cases b <;> exact q⟩
    | int i t => exact P.repr_of_int (of_decide_eq_true o1) ⟨.str _, H, I.tok _, ⟨_, rfl⟩, q⟩
    | str x t => exact P.repr_of_str ⟨.str _, H, I.tok _, ⟨_, rfl⟩, q⟩ o4
    | list h1 h2 h3 h4 => exact repr_of_reads' (.list h1 h2 h3 h4) o1 hsm hg (by omega) (fun _ _ e => e) (fun h' u tk hk => ⟨.str _, H, I.kept hk, ⟨_, rfl⟩, q⟩) o4
    | tuple h1 h2 h3 h4 => exact repr_of_reads' (.tuple h1 h2 h3 h4) o1 hsm hg (by omega) (fun _ _ e => e) (fun h' u tk hk => ⟨.str _, H, I.kept hk, ⟨_, rfl⟩, q⟩) o4
    | dict h1 h2 h3 h4 h5 => exact repr_of_reads' (.dict h1 h2 h3 h4 h5) o1 hsm hg (by omega) (fun _ _ e => e) (fun h' u tk hk => ⟨.str _, H, I.kept hk, ⟨_, rfl⟩, q⟩) o4
theorem clr_repr {K : PySem.W.Frag} : CLR K (rRepr K) opRepr := by
  intro vs H Q ρ st st' ws w hR rs e p
  unfold opRepr at e
  split at e
  · split at e
    · rename_i w' d hd
      split at e
      · rename_i ok
        cases e
        cases rs with
        | cons r1 r2 =>
          cases r2
          exact ⟨_, ρ, _, _, d, rfl, hR, r1, hd, ok, p _ H ρ (Ext.refl _ _) hR (.str _)⟩
      · cases e
    · cases e
  · cases e
theorem nox_repr (ws : List W) (st : Sto) : NoX (opRepr ws st) := fun x st' e => by
  unfold opRepr at e
  split at e
  · split at e
    · split at e <;> cases e
    · cases e
  · cases e
/-! ### isinstance with one built-in class -/
def tyW (w : W) (st : Sto) : Option String := match w with
  | .non => some "NoneType"
  | .bl _ => some "bool"
  | .int _ => some "int"
  | .str _ => some "str"
  | .tup _ => some "tuple"
  | .ils _ => some "list"
  | .ref k => match st[k]? with
    | some (.lst _) => some "list"
    | some .emp => some "dict"
    | none => none
def isiB (c t : String) : Option Bool := kitB t c
def opIsi (c : String) : OC := fun ws st => match ws with
  | [w] => match tyW w st with
    | some t => match isiB c t with
      | some b => ret (.bl b) st
      | none => none
    | none => none
  | _ => none
theorem tyX_of {K : PySem.W.Frag} {H : Hp} {ρ : List Addr} {st : Sto} {w : W} {v : V} {t : String} (hR : HR K H ρ st) (r : Rep K H ρ w v) (h : tyW w st = some t) : TyX K H v (.type t) := by
  cases r with
  | non => cases h; exact .base .non
  | bl b => cases h; exact .base (.bl b)
  | int i => cases h; exact .base (.int i)
  | str x => cases h; exact .base (.str x)
  | tup hs ha =>
    cases h
    rcases hs with (hs | ⟨o, hs⟩) | ⟨o, its, n, hs, hc, _⟩
    · exact .base (.tup hs)
    · exact .fTuple hs
    · exact .kTuple hs hc
  | ils hs ha =>
    cases h
    rcases hs with ⟨o, hs⟩ | ⟨o, its, n, hs, hc, _⟩
    · exact .base (.frz hs)
    · exact .kList hs hc
  | @ref k a hk =>
    have h : (match st[k]? with | some (.lst _) => some "list" | some .emp => some "dict" | none => none) = some t := h
    split at h
    · rename_i ws hw
      obtain ⟨us, e1, r1⟩ := hR.ob k a _ hk hw
      cases h; exact .base (.lst e1)
    · rename_i hw
      have e1 : H a = some (.dK []) := hR.ob k a _ hk hw
      cases h; exact .base (.dK e1)
    · cases h
section
variable {X : Cx} {EX : XR} {U : WX} {p p2 pos : Pos} {e : Expr} {c : Str} {T : String}
def fIsi (T : String) (f : FE) : FE := fun env st => bnd (f env st) fun w st => opIsi T [w] st
theorem opIsi_some {w : W} {st st' : Sto} {r : DI.R W} (h : opIsi T [w] st = some (r, st')) : ∃ t b, tyW w st = some t ∧ kitB t T = some b ∧ r = .ok (.bl b) ∧ st' = st := by
  have h : (match tyW w st with | some t => (match isiB T t with | some b => ret (W.bl b) st | none => none) | none => none) = some (r, st') := h
  split at h
  · rename_i t ht
    split at h
    · rename_i b hb
      cases h
      exact ⟨t, b, ht, hb, rfl, rfl⟩
    · cases h
  · cases h
theorem pd_isi {f : FE} (he : PD X EX U e f) (hg : Gl X "isinstance") (hm : X.mg "isinstance" = none) (hgc : Gl X c) (hmc : X.mg c = none) (hvc : bootBuiltins c = some (.type T)) (hn : c ≠ "__name__" := by decide) (hd : (c == ("__debug__" : Str)) = false := by decide)
    (h1 : starEach (e :: [.Name c p2]) X.env = (false, eval e X.env) :: starEach [.Name c p2] X.env := by rfl) (h2 : starEach [.Name c p2] X.env = (false, eval (.Name c p2) X.env) :: starEach [] X.env := by rfl)
    (hpl : (backTo pos (starEach [.Name c p2] X.env)).any (·.1) = false := by rfl) : PD X EX U (.Call (.Name "isinstance" p) [e, .Name c p2] [] pos) (fIsi T f) := by
  refine (pe_callB call_isi hg hm PyProof.Rows.boot_isinstance (pa_cons he (pa_cons (pe_bltn (v := .ty T) hgc hmc hvc rfl hn hd) pa_nil h2) h1) (by decide) (by decide) h1 hpl).imp fun σ H Q h => ?_
  refine (tG_bind (r1 := Rep X.K) (g := fun env w st => opIsi T [w] st) h).imp fun x H1 h1 => ?_
  obtain ⟨ρ, env, st, w, r', st', hR, E, rw', e, p⟩ := h1
  obtain ⟨t, b, ht, hb, rfl, rfl⟩ := opIsi_some e
  exact ⟨x, .ty T, .type t, .type T, b, rfl, .ty T, tyX_of hR rw' ht, kit_ty hb, p _ H1 ρ (Ext.refl _ _) hR (.bl b)⟩
end
end DI

namespace DI
open PySem L2

/-! ### max, min of two, int of a truth value, list, all -/
def opMax2 : OC := fun ws st => match ws with
  | [.int i, .int j] => ret (.int (if j > i then j else i)) st
  | _ => none
def opMin2 : OC := fun ws st => match ws with
  | [.int i, .int j] => ret (.int (if j < i then j else i)) st
  | _ => none
theorem all2 {K : PySem.W.Frag} {H : Hp} {ρ : List Addr} {a b : W} {vs : List V} (r : RepAll K H ρ [a, b] vs) : ∃ x y, vs = [x, y] ∧ Rep K H ρ a x ∧ Rep K H ρ b y := by
  cases r with
  | cons r1 r2 =>
    cases r2 with
    | cons r2 r3 => cases r3; exact ⟨_, _, rfl, r1, r2⟩
theorem all1 {K : PySem.W.Frag} {H : Hp} {ρ : List Addr} {a : W} {vs : List V} (r : RepAll K H ρ [a] vs) : ∃ x, vs = [x] ∧ Rep K H ρ a x := by
  cases r with
  | cons r1 r2 => cases r2; exact ⟨_, rfl, r1⟩
def rMx : List V → Hp → VK → Prop := fun xs H Q => ∃ i j, xs = [.int i, .int j] ∧ Q (.int (if j > i then j else i)) H
def rMn : List V → Hp → VK → Prop := fun xs H Q => ∃ i j, xs = [.int i, .int j] ∧ Q (.int (if j < i then j else i)) H
theorem clr_max {K : PySem.W.Frag} : CLR K rMx opMax2 := by
  intro vs H Q ρ st st' ws w hR rs e p
  unfold opMax2 at e
  split at e
  · cases e
    obtain ⟨x, y, rfl, h1, h2⟩ := all2 rs
    cases h1; cases h2
    exact ⟨_, _, rfl, p _ H ρ (Ext.refl _ _) hR (.int _)⟩
  · cases e
theorem clr_min {K : PySem.W.Frag} : CLR K rMn opMin2 := by
  intro vs H Q ρ st st' ws w hR rs e p
  unfold opMin2 at e
  split at e
  · cases e
    obtain ⟨x, y, rfl, h1, h2⟩ := all2 rs
    cases h1; cases h2
    exact ⟨_, _, rfl, p _ H ρ (Ext.refl _ _) hR (.int _)⟩
  · cases e
theorem nox_max (ws : List W) (st : Sto) : NoX (opMax2 ws st) := fun x st' e => by
  unfold opMax2 at e
  split at e <;> cases e
theorem nox_min (ws : List W) (st : Sto) : NoX (opMin2 ws st) := fun x st' e => by
  unfold opMin2 at e
  split at e <;> cases e
def opInt : OC := fun ws st => match ws with
  | [.int i] => ret (.int i) st
  | [.bl b] => ret (.int (if b then 1 else 0)) st
  | _ => none
def rInt : List V → Hp → VK → Prop := fun xs H Q => (∃ i, xs = [.int i] ∧ Q (.int i) H) ∨ ∃ k, xs = [.bl k] ∧ Q (.int (if k then 1 else 0)) H
theorem clr_int {K : PySem.W.Frag} : CLR K rInt opInt := by
  intro vs H Q ρ st st' ws w hR rs e p
  unfold opInt at e
  split at e
  · cases e
    obtain ⟨x, rfl, h1⟩ := all1 rs
    cases h1
    exact .inl ⟨_, rfl, p _ H ρ (Ext.refl _ _) hR (.int _)⟩
  · cases e
    obtain ⟨x, rfl, h1⟩ := all1 rs
    cases h1
    exact .inr ⟨_, rfl, p _ H ρ (Ext.refl _ _) hR (.int _)⟩
  · cases e
theorem nox_int (ws : List W) (st : Sto) : NoX (opInt ws st) := fun x st' e => by
  unfold opInt at e
  split at e <;> cases e
/-- the items of a list or a tuple -/
def itemsW (w : W) (st : Sto) : Option (List W) := match w with
  | .tup ws => some ws
  | .ils ws => some ws
  | .ref k => match st[k]? with
    | some (.lst ws) => some ws
    | _ => none
  | _ => none
theorem items_of {K : PySem.W.Frag} {H : Hp} {ρ : List Addr} {st : Sto} {w : W} {v : V} {ws : List W} (hR : HR K H ρ st) (r : Rep K H ρ w v) (h : itemsW w st = some ws) : ∃ a xs, v = .ref a ∧ (SqL K H a xs ∨ SqT K H a xs) ∧ RepAll K H ρ ws xs := by
  cases r with
  | tup hs ha => cases h; exact ⟨_, _, rfl, .inr hs, ha⟩
  | ils hs ha => cases h; exact ⟨_, _, rfl, .inl hs.sq, ha⟩
  | @ref k a hk =>
    have h : (match st[k]? with | some (.lst ws) => some ws | _ => none) = some ws := h
    split at h
    · rename_i ws hw
      obtain ⟨us, e1, r1⟩ := hR.ob k a _ hk hw
      cases h; exact ⟨a, us, rfl, .inl (.inl (.inl e1)), r1⟩
    · cases h
  | _ => cases h
def opList : OC := fun ws st => match ws with
  | [w] => match itemsW w st with
    | some us => some (.ok (.ref st.length), st ++ [.lst us])
    | none => none
  | _ => none
def rListOf (K : PySem.W.Frag) : List V → Hp → VK → Prop := fun xs H Q => ∃ p ys, xs = [.ref p] ∧ (SqL K H p ys ∨ SqT K H p ys) ∧ ∀ l, H l = none → Q (.ref l) (upd H l (.lst ys))
theorem clr_list {K : PySem.W.Frag} : CLR K (rListOf K) opList := by
  intro vs H Q ρ st st' ws w hR rs e p
  unfold opList at e
  split at e
  · split at e
    · rename_i w' us hu
      cases e
      obtain ⟨x, rfl, h1⟩ := all1 rs
      obtain ⟨a, xs, rfl, hs, hr⟩ := items_of hR h1 hu
      refine ⟨a, xs, rfl, hs, fun l hl => p _ _ (ρ ++ [l]) (Ext.alloc hl) (hR.lst hl hr) (.ref ?_)⟩
      rw [← hR.len]; simp
    · cases e
  · cases e
theorem nox_list (ws : List W) (st : Sto) : NoX (opList ws st) := fun x st' e => by
  unfold opList at e
  split at e
  · split at e <;> cases e
  · cases e
def allB : List W → Option Bool
  | [] => some true
  | .bl b :: ws => (allB ws).map (b && ·)
  | _ => none
def opAll : OC := fun ws st => match ws with
  | [.ref k] => match st[k]? with
    | some (.lst us) => bOut (allB us) st
    | _ => none
  | _ => none
theorem allB_rep {K : PySem.W.Frag} {H : Hp} {ρ : List Addr} : ∀ {ws : List W} {vs : List V} {b : Bool}, RepAll K H ρ ws vs → allB ws = some b → ∃ bs : List Bool, vs = bs.map V.bl ∧ bs.all id = b
  | [], _, _, r, h => by cases r; cases h; exact ⟨[], rfl, rfl⟩
  | w :: ws, _, b, r, h => by
    cases r with
    | cons r1 r2 =>
      unfold allB at h
      split at h
      · rename_i e; cases e
      · rename_i c us e
        cases e
        cases r1
        cases q : allB ws with
        | none => rw [q] at h; cases h
        | some b' =>
          rw [q] at h; cases h
          obtain ⟨bs, e1, e2⟩ := allB_rep r2 q
          exact ⟨c :: bs, by rw [e1]; rfl, by simp [← e2]⟩
      · cases h
theorem clr_all {K : PySem.W.Frag} : CLR K (rAll K) opAll := by
  intro vs H Q ρ st st' ws w hR rs e p
  unfold opAll at e
  split at e
  · split at e
    · rename_i k _ us hu
      obtain ⟨b, hb, h, rfl⟩ := bOut_some e
      cases h
      obtain ⟨x, rfl, h1⟩ := all1 rs
      cases h1 with
      | @ref _ a hk =>
        obtain ⟨ys, e1, r1⟩ := hR.ob k a _ hk hu
        obtain ⟨bs, rfl, rfl⟩ := allB_rep r1 hb
        exact ⟨a, bs, rfl, .inl (.inl e1), p _ H ρ (Ext.refl _ _) hR (.bl _)⟩
    · cases e
  · cases e
theorem nox_all (ws : List W) (st : Sto) : NoX (opAll ws st) := fun x st' e => by
  unfold opAll at e
  split at e
  · split at e
    · obtain ⟨_, _, h, _⟩ := bOut_some e
      cases h
    · cases e
  · cases e
section
variable {X : Cx} {EX : XR} {U : WX} {a b c : Expr} {pos : Pos}
/-! ### -a, a < b < c, {} -/
def negW (w : W) (st : Sto) : Out W := match w with
  | .int i => ret (.int (-i)) st
  | _ => none
def fNeg (f : FE) : FE := fun env st => bnd (f env st) negW
theorem pd_neg {f : FE} (h : PD X EX U a f) : PD X EX U (.UnaryOp .USub a pos) (fNeg f) := by
  refine (pe_un un_neg h).imp fun σ H Q h => ?_
  refine (tG_bind (r1 := Rep X.K) (g := fun env w st => negW w st) h).imp fun x H1 h1 => ?_
  obtain ⟨ρ, env, st, w, r', st', hR, E, rw', e, p⟩ := h1
  have e : negW w st = some (r', st') := e
  unfold negW at e
  split at e
  · cases e; cases rw'
    exact ⟨_, rfl, p _ H1 ρ (Ext.refl _ _) hR (.int _)⟩
  · cases e
def fChain (o o' : O2) (fa fb fc : FE) : FE := fun env st => bnd (fa env st) fun a st => bnd (fb env st) fun b st => bnd (o a b st) fun w st => bnd (asB w st) fun k st => if k then bnd (fc env st) fun c st => o' b c st else ret (.bl false) st
theorem chain_go {r r' : R2} {o o' : O2} {fa fb fc : FE} (h1 : OPR X.K r o) (n1 : ∀ a b st, NoX (o a b st)) (h2 : OPR X.K r' o') (n2 : ∀ a b st, NoX (o' a b st)) {σ : L2.St} {H : Hp} {Q : VK} (h : tI X.K EX U (fChain o o' fa fb fc) σ H Q) :
    tChain r r' (tI X.K EX U fa) (tI X.K EX U fb) (tI X.K EX U fc) σ H Q := by
  refine (tG_bind (r1 := Rep X.K) (g := fun env a st => bnd (fb env st) fun b st => bnd (o a b st) fun w st => bnd (asB w st) fun k st => if k then bnd (fc env st) fun c st => o' b c st else ret (.bl false) st) h).imp fun x H1 k1 => ?_
  refine (tK_tG (tK_bind (r1 := Rep X.K) (f := fun env _ st => fb env st) (g := fun env a b st => bnd (o a b st) fun w st => bnd (asB w st) fun k st => if k then bnd (fc env st) fun c st => o' b c st else ret (.bl false) st) mono_rep k1)).imp fun y H2 k2 => ?_
  obtain ⟨ρ, env, st, ⟨a, b⟩, r0, st', hR, E, ⟨ra, rb⟩, e, p⟩ := k2
  have e : bnd (o a b st) (fun w st => bnd (asB w st) fun k st => if k then bnd (fc env st) fun c st => o' b c st else ret (.bl false) st) = some (r0, st') := e
  cases q : o a b st with
  | none => rw [q] at e; cases e
  | some z =>
    obtain ⟨z, s1⟩ := z
    rw [q] at e
    cases z with
    | exc x => exact absurd q (n1 _ _ _ _ _)
    | ok w =>
      refine h1 hR ra rb q fun v H3 ρ3 e3 hR3 r3 => ?_
      obtain ⟨k, rfl, e⟩ := asB_some e
      cases r3
      refine ⟨k, rfl, ?_⟩
      have E3 := E.mono hR e3
      have p3 := p.ext e3
      cases k with
      | false =>
        cases e
        exact p3 _ H3 ρ3 (Ext.refl _ _) hR3 (Rep.bl _)
      | true =>
        have rb3 : Rep X.K H3 ρ3 b y := rb.mono hR e3
        have K3 : tK X.K EX U (Rep X.K) (Rep X.K) (fun env b st => bnd (fc env st) fun c st => o' b c st) y σ H3 Q := ⟨ρ3, env, s1, b, r0, st', hR3, E3, rb3, e, p3⟩
        refine (tK_tG (tK_bind (r1 := Rep X.K) (f := fun env _ st => fc env st) (g := fun env b c st => o' b c st) mono_rep K3)).imp fun z H4 k4 => ?_
        obtain ⟨ρ4, env4, st4, ⟨b4, c4⟩, r4, st4', hR4, E4, ⟨rb4, rc4⟩, e4, p4⟩ := k4
        cases r4 with
        | exc x => exact absurd e4 (n2 _ _ _ _ _)
        | ok w4 => exact h2 hR4 rb4 rc4 e4 p4
theorem pd_chain {op op' : CmpOp} {r r' : R2} {o o' : O2} {fa fb fc : FE} (ho : OpR X (compareOp op) r) (h1 : OPR X.K r o) (n1 : ∀ a b st, NoX (o a b st)) (ho' : OpR X (compareOp op') r') (h2 : OPR X.K r' o') (n2 : ∀ a b st, NoX (o' a b st))
    (ha : PD X EX U a fa) (hb : PD X EX U b fb) (hc : PD X EX U c fc) (hm : lastMarks [op, op'] [b, c] = false := by with_unfolding_all rfl) : PD X EX U (.Compare a [op, op'] [b, c] pos) (fChain o o' fa fb fc) :=
  (pe_chain ho ho' ha hb hc hm).imp fun _ _ _ h => chain_go h1 n1 h2 n2 h
theorem pdt_chain {op op' : CmpOp} {r r' : R2} {o o' : O2} {fa fb fc : FE} (ho : OpR X (compareOp op) r) (h1 : OPR X.K r o) (n1 : ∀ a b st, NoX (o a b st)) (ho' : OpR X (compareOp op') r') (h2 : OPR X.K r' o') (n2 : ∀ a b st, NoX (o' a b st))
    (ha : PD X EX U a fa) (hb : PD X EX U b fb) (hc : PD X EX U c fc) (hm : lastMarks [op, op'] [b, c] = false := by with_unfolding_all rfl) : PDT X EX U (.Compare a [op, op'] [b, c] pos) (fTest (fChain o o' fa fb fc)) := by
  refine (pt_chain ho ho' ha hb hc hm).imp fun σ H Q h => ?_
  have k : tB (tI X.K EX U (fChain o o' fa fb fc)) σ H Q := test_go h
  exact chain_go h1 n1 h2 n2 k
def fEmp : FE := fun _ st => some (.ok (.ref st.length), st ++ [.emp])
theorem pd_emp : PD X EX U (.Dict [] [] pos) fEmp := by
  refine pe_dnewK.imp fun σ H Q ⟨ρ, env, st, r, st', hR, E, e, p⟩ => ?_
  cases e
  intro d hd
  refine p _ _ (ρ ++ [d]) (Ext.alloc hd) (hR.emp hd) (.ref ?_)
  rw [← hR.len]; simp
end
end DI

namespace DI
open PySem L2

/-! ### statements -/
inductive Fl where | nx | rt (w : W) | bk | ct | exc (x : Xc)
abbrev OutS := Option (Fl × Evn × Sto)
abbrev FS := Evn → Sto → OutS
section
variable {K : PySem.W.Frag} {EX : XR} {U : WX}
def PostS (K : PySem.W.Frag) (EX : XR) (U : WX) (D : Ends) (H : Hp) (ρ : List Addr) (fl : Fl) (env' : Evn) (st' : Sto) : Prop := match fl with
  | .nx => ∀ σ' H' ρ', Ext H ρ H' ρ' → HR K H' ρ' st' → EnvR K H' ρ' env' σ' → D.nx σ' H'
  | .bk => ∀ σ' H' ρ', Ext H ρ H' ρ' → HR K H' ρ' st' → EnvR K H' ρ' env' σ' → D.bk σ' H'
  | .ct => ∀ σ' H' ρ', Ext H ρ H' ρ' → HR K H' ρ' st' → EnvR K H' ρ' env' σ' → D.ct σ' H'
  | .rt w => ∀ v H' ρ', Ext H ρ H' ρ' → HR K H' ρ' st' → Rep K H' ρ' w v → D.rt v H'
  | .exc x => ∀ cls d σ' H' ρ', Ext H ρ H' ρ' → HR K H' ρ' st' → EX x cls d H' ρ' → U cls d σ' H'
def tS (K : PySem.W.Frag) (EX : XR) (U : WX) (f : FS) : TS := fun D σ H => ∃ ρ env st fl env' st', HR K H ρ st ∧ EnvR K H ρ env σ ∧ f env st = some (fl, env', st') ∧ PostS K EX U D H ρ fl env' st'
theorem PostS.ext {D : Ends} {H H1 : Hp} {ρ ρ1 : List Addr} {fl : Fl} {env' : Evn} {st' : Sto} (e : Ext H ρ H1 ρ1) (p : PostS K EX U D H ρ fl env' st') : PostS K EX U D H1 ρ1 fl env' st' := by
  cases fl with
  | nx => exact fun a b c e' => p a b c (e.trans e')
  | bk => exact fun a b c e' => p a b c (e.trans e')
  | ct => exact fun a b c e' => p a b c (e.trans e')
  | rt w => exact fun a b c e' => p a b c (e.trans e')
  | exc x => exact fun a b c d f e' => p a b c d f (e.trans e')
/-- a statement that begins with an expression's value -/
def bS {α : Type} (o : Out α) (env : Evn) (k : α → Sto → OutS) : OutS := match o with
  | some (.ok a, st) => k a st
  | some (.exc x, st) => some (.exc x, env, st)
  | none => none
/-- the rest of a statement, a value at hand -/
def tKS {γ δ : Type} (K : PySem.W.Frag) (EX : XR) (U : WX) (r1 : Rl γ δ) (f : Evn → γ → Sto → OutS) (x : δ) (D : Ends) (σ : L2.St) (H : Hp) : Prop :=
  ∃ ρ env st c fl env' st', HR K H ρ st ∧ EnvR K H ρ env σ ∧ r1 H ρ c x ∧ f env c st = some (fl, env', st') ∧ PostS K EX U D H ρ fl env' st'
theorem tS_bind {γ δ : Type} {r1 : Rl γ δ} {f : Evn → Sto → Out γ} {g : Evn → γ → Sto → OutS} {D : Ends} {σ : L2.St} {H : Hp} (h : tS K EX U (fun env st => bS (f env st) env (g env)) D σ H) : tG K EX U r1 f σ H (fun x H1 => tKS K EX U r1 g x D σ H1) := by
  obtain ⟨ρ, env, st, fl, env', st', hR, E, e, p⟩ := h
  cases q : f env st with
  | none => simp only [q] at e; cases e
  | some o =>
    obtain ⟨ro, s1⟩ := o
    simp only [q] at e
    cases ro with
    | ok a => exact ⟨ρ, env, st, .ok a, s1, hR, E, q, fun x H1 ρ1 e1 R1 rx => ⟨ρ1, env, s1, a, fl, env', st', R1, E.mono hR e1, rx, e, p.ext e1⟩⟩
    | exc x =>
      cases e
      exact ⟨ρ, env, st, .exc x, st', hR, E, q, fun c d H' ρ' e' R' q' => p c d σ H' ρ' e' R' q'⟩
theorem tKS_bind {γ δ ε ζ : Type} {r0 : Rl ε ζ} {r1 : Rl γ δ} {f : Evn → ε → Sto → Out γ} {g : Evn → ε → γ → Sto → OutS} {x : ζ} {D : Ends} {σ : L2.St} {H : Hp} (m : Mono K r0)
    (h : tKS K EX U r0 (fun env c st => bS (f env c st) env (g env c)) x D σ H) : tK K EX U r0 r1 f x σ H (fun y H1 => tKS K EX U (fun H ρ (p : ε × γ) (q : ζ × δ) => r0 H ρ p.1 q.1 ∧ r1 H ρ p.2 q.2) (fun env p st => g env p.1 p.2 st) (x, y) D σ H1) := by
  obtain ⟨ρ, env, st, c, fl, env', st', hR, E, r0x, e, p⟩ := h
  cases q : f env c st with
  | none => simp only [q] at e; cases e
  | some o =>
    obtain ⟨ro, s1⟩ := o
    simp only [q] at e
    cases ro with
    | ok a => exact ⟨ρ, env, st, c, .ok a, s1, hR, E, r0x, q, fun y H1 ρ1 e1 R1 ry => ⟨ρ1, env, s1, (c, a), fl, env', st', R1, E.mono hR e1, ⟨m _ _ _ _ _ _ _ hR e1 r0x, ry⟩, e, p.ext e1⟩⟩
    | exc x =>
      cases e
      exact ⟨ρ, env, st, c, .exc x, st', hR, E, r0x, q, fun c d H' ρ' e' R' q' => p c d σ H' ρ' e' R' q'⟩
end
abbrev PDS (X : Cx) (EX : XR) (U : WX) (s : Stmt) (f : FS) : Prop := PS X s (tS X.K EX U f)
abbrev PDB (X : Cx) (EX : XR) (U : WX) (s : List Stmt) (f : FS) : Prop := PSs X s (tS X.K EX U f)
section
variable {X : Cx} {EX : XR} {U : WX} {e : Expr} {s : Stmt} {ss : List Stmt} {pos : Pos}
def fNext : FS := fun env st => some (.nx, env, st)
def fSeq (f g : FS) : FS := fun env st => match f env st with
  | some (.nx, env1, st1) => g env1 st1
  | o => o
theorem pdb_nil : PDB X EX U [] fNext := pss_nil.imp fun D σ H ⟨ρ, env, st, fl, env', st', hR, E, e, p⟩ => by
  cases e
  exact p σ H ρ (Ext.refl _ _) hR E
theorem pdb_one {f : FS} (h : PDS X EX U s f) : PDB X EX U [s] f := pss_one h
theorem pdb_cons {f g : FS} (h : PDS X EX U s f) (h2 : PDB X EX U ss g) : PDB X EX U (s :: ss) (fSeq f g) := by
  refine (pss_cons h h2).imp fun D σ H ⟨ρ, env, st, fl, env', st', hR, E, e, p⟩ => ?_
  show tS X.K EX U f { D with nx := tS X.K EX U g D } σ H
  unfold fSeq at e
  split at e
  · rename_i env1 st1 h1
    exact ⟨ρ, env, st, .nx, env1, st1, hR, E, h1, fun σ' H' ρ' e' R' E' => ⟨ρ', env1, st1, fl, env', st', R', E', e, p.ext e'⟩⟩
  · rename_i h1
    refine ⟨ρ, env, st, fl, env', st', hR, E, e, ?_⟩
    cases fl with
    | nx => exact absurd e (h1 _ _)
    | bk => exact p
    | ct => exact p
    | rt w => exact p
    | exc x => exact p
def fSet (i : Nat) (f : FE) : FS := fun env st => bS (f env st) env fun w st => some (.nx, env.set i (some w), st)
theorem pds_set {i : Nat} {x : Str} {f : FE} {pos' : Pos} (hN : X.N.Nodup) (hi : X.N[i]? = some x) (hx : Loc X.env.scope x) (he : PD X EX U e f) (hs : swapsWith e (some (.Name x pos')) pos.line X.env = pure false := by rfl) (hf : X.fn x = true ∨ X.env.scope.names.lookup x = some .local := by first | exact .inl rfl | exact .inr rfl | assumption) :
    PDS X EX U (.Assign [.Name x pos'] e pos) (fSet i f) := by
  refine (ps_set hN hi hx he hs hf).imp fun D σ H h => ?_
  refine (tS_bind (r1 := Rep X.K) (g := fun env w st => some (.nx, env.set i (some w), st)) h).imp fun v H1 h1 => ?_
  obtain ⟨ρ, env, st, w, fl, env', st', hR, E, rw', e, p⟩ := h1
  cases e
  exact p _ H1 ρ (Ext.refl _ _) hR (E.set rw' i)
def fDrop (f : FE) : FS := fun env st => bS (f env st) env fun _ st => some (.nx, env, st)
theorem pds_expr {f : FE} (he : PD X EX U e f) (hs : swapsWith e none pos.line X.env = pure false := by rfl) : PDS X EX U (.Expr e pos) (fDrop f) := by
  refine (ps_expr he hs).imp fun D σ H h => ?_
  refine (tS_bind (r1 := Rep X.K) (g := fun env w st => some (.nx, env, st)) h).imp fun v H1 h1 => ?_
  obtain ⟨ρ, env, st, w, fl, env', st', hR, E, rw', e, p⟩ := h1
  cases e
  exact p _ H1 ρ (Ext.refl _ _) hR E
def fRet (f : FE) : FS := fun env st => bS (f env st) env fun w st => some (.rt w, env, st)
theorem pds_ret {f : FE} (he : PD X EX U e f) : PDS X EX U (.Return (some e) pos) (fRet f) := by
  refine (ps_ret he).imp fun D σ H h => ?_
  refine (tS_bind (r1 := Rep X.K) (g := fun env w st => some (.rt w, env, st)) h).imp fun v H1 h1 => ?_
  obtain ⟨ρ, env, st, w, fl, env', st', hR, E, rw', e, p⟩ := h1
  cases e
  exact p _ H1 ρ (Ext.refl _ _) hR rw'
def fIfS (c : FT) (f g : FS) : FS := fun env st => bS (c env st) env fun b st => if b then f env st else g env st
theorem pds_if {c : Expr} {a b : List Stmt} {fc : FT} {f g : FS} (hc : PDT X EX U c fc) (ha : PDB X EX U a f) (hb : PDB X EX U b g) : PDS X EX U (.If c a b pos) (fIfS fc f g) := by
  refine (ps_if hc ha hb).imp fun D σ H h => ?_
  refine (tS_bind (r1 := rB) (g := fun env b st => if b then f env st else g env st) h).imp fun v H1 h1 => ?_
  obtain ⟨ρ, env, st, w, fl, env', st', hR, E, rw', e, p⟩ := h1
  obtain rfl : w = v := rw'
  cases w with
  | true => exact ⟨ρ, env, st, fl, env', st', hR, E, e, p⟩
  | false => exact ⟨ρ, env, st, fl, env', st', hR, E, e, p⟩
/-! ### xs[i] = e, xs.append(e) -/
def putL (o i w : W) (st : Sto) : Option Sto := match o, i with
  | .ref k, .int j => match st[k]? with
    | some (.lst ws) => (ixN ws.length j).map fun n => st.set k (.lst (ws.set n w))
    | _ => none
  | _, _ => none
def fPut (fo fi fe : FE) : FS := fun env st => bS (fe env st) env fun w st => bS (fo env st) env fun o st => bS (fi env st) env fun i st => (putL o i w st).map fun st => (.nx, env, st)
theorem put_go {K : PySem.W.Frag} {o i w : W} {ov iv v : V} {H : Hp} {ρ : List Addr} {st st' : Sto} (hR : HR K H ρ st) (ro : Rep K H ρ o ov) (ri : Rep K H ρ i iv) (rv : Rep K H ρ w v) (e : putL o i w st = some st') {Q : Hp → Prop} (q : ∀ H', Ext H ρ H' ρ → HR K H' ρ st' → Q H') : rSetL ov iv v H Q := by
  unfold putL at e
  split at e
  · rename_i k j
    split at e
    · rename_i ws hw
      cases ro with
      | @ref _ a hk =>
      cases ri
      obtain ⟨us, e1, r1⟩ := hR.ob k a _ hk hw
      cases h : ixN ws.length j with
      | none => rw [h] at e; cases e
      | some n =>
        rw [h] at e; cases e
        rw [r1.length] at h
        exact ⟨a, us, j, n, rfl, rfl, e1, h, q _ (Ext.mut (List.mem_of_getElem? hk)) (hR.put hk (RepAll.set rv n r1))⟩
    · cases e
  · cases e
theorem pds_put {o i : Expr} {fo fi fe : FE} {p1 : Pos} (he : PD X EX U e fe) (ho : PD X EX U o fo) (hi : PD X EX U i fi) (hg : ∀ to ti, PE X o to → PE X i ti → PG X (.Subscript o i p1) (gSub to ti rSetL))
    (hs : swapsWithSole [.Subscript o i p1] e pos.line X.env = pure false := by rfl) (hw : swappedStores [.Subscript o i p1] e X.env = pure none := by rfl)
    (h1 : (assignEach [.Subscript o i p1] X.env).map (·.2) = [assign (.Subscript o i p1) X.env] := by rfl) : PDS X EX U (.Assign [.Subscript o i p1] e pos) (fPut fo fi fe) := by
  refine (ps_asg he (hg _ _ ho hi) hs hw h1).imp fun D σ H h => ?_
  refine (tS_bind (r1 := Rep X.K) (g := fun env w st => bS (fo env st) env fun o st => bS (fi env st) env fun i st => (putL o i w st).map fun st => (.nx, env, st)) h).imp fun x H1 k1 => ?_
  refine (tK_tG (tKS_bind (r1 := Rep X.K) (f := fun env _ st => fo env st) (g := fun env w o st => bS (fi env st) env fun i st => (putL o i w st).map fun st => (.nx, env, st)) mono_rep k1)).imp fun y H2 k2 => ?_
  refine (tK_tG (tKS_bind (r1 := Rep X.K) (f := fun env _ st => fi env st) (g := fun env (c : W × W) i st => (putL c.2 i c.1 st).map fun st => (.nx, env, st)) (fun _ _ _ _ _ _ _ R e h => ⟨h.1.mono R e, h.2.mono R e⟩) k2)).imp fun z H3 k3 => ?_
  obtain ⟨ρ, env, st, ⟨⟨w, o'⟩, i'⟩, fl, env', st', hR, E, ⟨⟨rw', ro⟩, ri⟩, e, p⟩ := k3
  have e : (putL o' i' w st).map (fun st => (Fl.nx, env, st)) = some (fl, env', st') := e
  cases q : putL o' i' w st with
  | none => rw [q] at e; cases e
  | some s1 =>
    rw [q] at e; cases e
    exact put_go hR ro ri rw' q fun H' e' R' => p σ H' ρ e' R' (E.mono hR e')
def appL (o w : W) (st : Sto) : Option Sto := match o with
  | .ref k => match st[k]? with
    | some (.lst ws) => if szW (ws.length + 1) then some (st.set k (.lst (ws ++ [w]))) else none
    | _ => none
  | _ => none
def isL (o : W) (st : Sto) : Bool := match o with
  | .ref k => match st[k]? with
    | some (.lst _) => true
    | _ => false
  | _ => false
/-- o.append(e), its value None -/
def fApp (fo fe : FE) : FE := fun env st => bnd (fo env st) fun o st => if isL o st then bnd (fe env st) fun w st => (appL o w st).map fun st => (.ok .non, st) else none
theorem isL_of {K : PySem.W.Frag} {H : Hp} {ρ : List Addr} {st : Sto} {o : W} {v : V} (hR : HR K H ρ st) (r : Rep K H ρ o v) (h : isL o st = true) : tyV K "list" v H := by
  unfold isL at h
  split at h
  · rename_i k
    split at h
    · rename_i ws hw
      cases r with
      | @ref _ a hk =>
        obtain ⟨us, e1, r1⟩ := hR.ob k a _ hk hw
        exact .inl ⟨rfl, us, .inl (.inl e1)⟩
    · cases h
  · cases h
theorem pd_app {o : Expr} {fo fe : FE} {apos cpos : Pos} (ho : PD X EX U o fo) (he : PD X EX U e fe) (hm : ∀ to ta, PE X o to → PA X [e] ta → PE X (.Call (.Attribute o "append" apos) [e] [] cpos) (tBM X.K "list" rAppend to ta))
    (hs : starEach (e :: []) X.env = (false, eval e X.env) :: starEach [] X.env := by rfl) : PD X EX U (.Call (.Attribute o "append" apos) [e] [] cpos) (fApp fo fe) := by
  refine (hm _ _ ho (pa_cons he pa_nil hs)).imp fun σ H Q h => ?_
  refine (tG_bind (r1 := Rep X.K) (g := fun env o st => if isL o st then bnd (fe env st) fun w st => (appL o w st).map fun st => (R.ok W.non, st) else none) h).imp fun x H1 k1 => ?_
  obtain ⟨ρ, env, st, w, r', st', hR, E, rw', e1, p⟩ := k1
  have e1 : (if isL w st then bnd (fe env st) fun y st => (appL w y st).map fun st => (R.ok W.non, st) else none) = some (r', st') := e1
  split at e1
  · rename_i hl
    refine ⟨isL_of hR rw' hl, ?_⟩
    have k2 : tK X.K EX U (Rep X.K) (Rep X.K) (fun env w st => bnd (fe env st) fun y st => (appL w y st).map fun st => (R.ok W.non, st)) x σ H1 Q := ⟨ρ, env, st, w, r', st', hR, E, rw', e1, p⟩
    refine (tK_tG (tK_bind (r1 := Rep X.K) (f := fun env _ st => fe env st) (g := fun env w y st => (appL w y st).map fun st => (R.ok W.non, st)) mono_rep k2)).imp fun y H2 k3 => ?_
    obtain ⟨ρ2, env2, st2, ⟨w2, y2⟩, r2, st2', hR2, E2, ⟨rw2, ry2⟩, e2, p2⟩ := k3
    have e2 : (appL w2 y2 st2).map (fun st => (R.ok W.non, st)) = some (r2, st2') := e2
    have rw2 : Rep X.K H2 ρ2 w2 x := rw2
    have ry2 : Rep X.K H2 ρ2 y2 y := ry2
    cases q : appL w2 y2 st2 with
    | none => rw [q] at e2; cases e2
    | some s3 =>
      rw [q] at e2; cases e2
      unfold appL at q
      split at q
      · rename_i k
        split at q
        · rename_i ws hw
          split at q
          · rename_i hz
            cases q
            cases rw2 with
            | @ref _ a hk =>
              obtain ⟨us, e3, r3⟩ := hR2.ob _ a _ hk hw
              have hz := sz_ok hz
              rw [r3.length] at hz
              exact ⟨a, us, y, rfl, rfl, e3, by omega, p2 .non _ ρ2 (Ext.mut (List.mem_of_getElem? hk)) (hR2.put hk (r3.append (.cons ry2 .nil))) Rep.non⟩
          · cases q
        · cases q
      · cases q
  · cases e1
end
end DI

namespace DI
open PySem L2

/-! ### what is walked -/
/-- at each turn: nothing known, the end, an item -/
abbrev Gt := Sto → Nat → Option (Option W)
def gOf (w : W) : Gt := fun st i => match w with
  | .tup ws => some ws[i]?
  | .ils ws => some ws[i]?
  | .str x => some ((x.cps[i]?).map fun c => .str ⟨#[c]⟩)
  | .ref k => match st[k]? with
    | some (.lst ws) => some ws[i]?
    | _ => none
  | _ => none
def gRng (lo : Int) (n : Nat) : Gt := fun _ i => some (if i < n then some (.int (lo + i)) else none)
def ItR (K : PySem.W.Frag) (J : It) (G : Gt) (H0 : Hp) (ρ0 : List Addr) : Prop := ∀ (H : Hp) (ρ : List Addr) (st : Sto) (i : Nat), Ext H0 ρ0 H ρ → HR K H ρ st →
  (G st i = some none → J.stop i H) ∧ ∀ w, G st i = some (some w) → J.go i H ∧ ∀ x H', J.yld i H x H' → H' = H ∧ Rep K H ρ w x
theorem itr_rng {K : PySem.W.Frag} {lo : Int} {n : Nat} {H0 : Hp} {ρ0 : List Addr} : ItR K (Itr lo n) (gRng lo n) H0 ρ0 := fun H ρ st i _ _ => by
  unfold gRng
  refine ⟨fun h => ?_, fun w h => ?_⟩
  · split at h
    · cases h
    · rename_i hi; exact Nat.le_of_not_lt hi
  · split at h
    · rename_i hi
      cases h
      exact ⟨hi, fun x H' y => ⟨y.1, by rw [y.2]; exact .int _⟩⟩
    · cases h
theorem itr_tup {K : PySem.W.Frag} {a : Addr} {xs : List V} {ws : List W} {H0 : Hp} {ρ0 : List Addr} {st0 : Sto} (hR : HR K H0 ρ0 st0) (hs : SqT K H0 a xs) (hr : RepAll K H0 ρ0 ws xs) : ItR K (Itt K a) (gOf (.tup ws)) H0 ρ0 := fun H ρ st i e hR' => by
  have hs' := SqT.mono hR e hs
  have hr' := hr.mono hR e
  refine ⟨fun h => ?_, fun w h => ?_⟩
  · have h : ws[i]? = none := Option.some.inj h
    exact ⟨xs, hs', by rw [← hr.length]; exact List.getElem?_eq_none_iff.mp h⟩
  · have h : ws[i]? = some w := Option.some.inj h
    obtain ⟨v, h1, h2⟩ := hr'.get h
    refine ⟨⟨xs, v, hs', h1⟩, fun x H' y => ⟨y.1, ?_⟩⟩
    have := y.2 xs hs'
    rw [h1] at this
    cases this
    exact h2
theorem itr_lst {K : PySem.W.Frag} {a : Addr} {k : Nat} {H0 : Hp} {ρ0 : List Addr} (hk : ρ0[k]? = some a) : ItR K (Itl K a) (gOf (.ref k)) H0 ρ0 := fun H ρ st i e hR => by
  have hk' := e.at hk
  have go : ∀ ws us, Rd H a (.lst us) → RepAll K H ρ ws us → (some ws[i]? = some (none : Option W) → (Itl K a).stop i H) ∧ ∀ w, some ws[i]? = some (some w) → (Itl K a).go i H ∧ ∀ x H', (Itl K a).yld i H x H' → H' = H ∧ Rep K H ρ w x := fun ws us h1 h2 => by
    refine ⟨fun h => ?_, fun w h => ?_⟩
    · have h : ws[i]? = none := Option.some.inj h
      exact ⟨us, .inl h1, by rw [← h2.length]; exact List.getElem?_eq_none_iff.mp h⟩
    · have h : ws[i]? = some w := Option.some.inj h
      obtain ⟨v, h3, h4⟩ := h2.get h
      refine ⟨⟨us, v, .inl h1, h3⟩, fun x H' y => ⟨y.1, ?_⟩⟩
      have := y.2 us (.inl h1)
      rw [h3] at this
      cases this
      exact h4
  show ((match st[k]? with | some (.lst ws) => some ws[i]? | _ => none) = some none → _) ∧ ∀ w, (match st[k]? with | some (.lst ws) => some ws[i]? | _ => none) = some (some w) → _
  cases q : st[k]? with
  | none => exact ⟨fun h => (by cases h), fun w h => (by cases h)⟩
  | some o =>
    cases o with
    | lst ws =>
      obtain ⟨us, e1, r1⟩ := hR.ob k a _ hk' q
      exact go ws us (.inl e1) r1
    | emp => exact ⟨fun h => (by cases h), fun w h => (by cases h)⟩
theorem itr_ils {K : PySem.W.Frag} {a : Addr} {xs : List V} {ws : List W} {H0 : Hp} {ρ0 : List Addr} {st0 : Sto} (hR : HR K H0 ρ0 st0) (hs : FzL K H0 a xs) (hr : RepAll K H0 ρ0 ws xs) : ItR K (Itl K a) (gOf (.ils ws)) H0 ρ0 := fun H ρ st i e hR' => by
  have hs' := (FzL.mono hR e hs).sq
  have hr' := hr.mono hR e
  refine ⟨fun h => ?_, fun w h => ?_⟩
  · have h : ws[i]? = none := Option.some.inj h
    exact ⟨xs, hs', by rw [← hr.length]; exact List.getElem?_eq_none_iff.mp h⟩
  · have h : ws[i]? = some w := Option.some.inj h
    obtain ⟨v, h1, h2⟩ := hr'.get h
    refine ⟨⟨xs, v, hs', h1⟩, fun x H' y => ⟨y.1, ?_⟩⟩
    have := y.2 xs hs'
    rw [h1] at this
    cases this
    exact h2
theorem itr_str {K : PySem.W.Frag} {z : Str} {H0 : Hp} {ρ0 : List Addr} : ItR K (Its z) (gOf (.str z)) H0 ρ0 := fun H ρ st i _ _ => by
  refine ⟨fun h => ?_, fun w h => ?_⟩
  · have h : (z.cps[i]?).map (fun c => W.str ⟨#[c]⟩) = none := Option.some.inj h
    cases q : z.cps[i]? with
    | none => exact Array.getElem?_eq_none_iff.mp q
    | some c => rw [q] at h; cases h
  · have h : (z.cps[i]?).map (fun c => W.str ⟨#[c]⟩) = some w := Option.some.inj h
    cases q : z.cps[i]? with
    | none => rw [q] at h; cases h
    | some c =>
      rw [q] at h; cases h
      refine ⟨(Array.getElem?_eq_some_iff.mp q).1, fun x H' y => ?_⟩
      obtain ⟨e1, c', e2, rfl⟩ := y
      rw [q] at e2; cases e2
      exact ⟨e1, .str _⟩
/-- how many there are at the start -/
def cnt (w : W) (st : Sto) : Option Nat := match w with
  | .tup ws => some ws.length
  | .ils ws => some ws.length
  | .str x => some x.cps.size
  | .ref k => match st[k]? with
    | some (.lst ws) => some ws.length
    | _ => none
  | _ => none
/-- one turn after another -/
def loop (G : Gt) (j : Nat) (body : FS) : Nat → Nat → Evn → Sto → OutS
  | 0, _, _, _ => none
  | m + 1, i, env, st => match G st i with
    | none => none
    | some none => some (.nx, env, st)
    | some (some w) => match body (env.set j (some w)) st with
      | some (.nx, env1, st1) => loop G j body m (i + 1) env1 st1
      | some (.ct, env1, st1) => loop G j body m (i + 1) env1 st1
      | some (.bk, env1, st1) => some (.nx, env1, st1)
      | o => o
section
variable {X : Cx} {EX : XR} {U : WX} {tg it : Expr} {pos : Pos} {body : List Stmt}
theorem _root_.L2.PI.or {w1 w2 : TI} (h1 : PI X tg it w1) (h2 : PI X tg it w2) : PI X tg it (fun σ H R => w1 σ H R ∨ w2 σ H R) := ⟨fun pins s σ H R I h => h.elim (h1.run pins s σ H R I) (h2.run pins s σ H R I)⟩
/-- the turns of a loop -/
theorem loop_go {K : PySem.W.Frag} {J : It} {G : Gt} {H0 : Hp} {ρ0 : List Addr} {j : Nat} {fb : FS} (hJ : ItR K J G H0 ρ0) {D : Ends} {σ0 : L2.St} {m0 : Nat} {env0 : Evn} {st0 : Sto} {fl : Fl} {env' : Evn} {st' : Sto}
    (hR : HR K H0 ρ0 st0) (E : EnvR K H0 ρ0 env0 σ0) (h : loop G j fb m0 0 env0 st0 = some (fl, env', st')) (p : PostS K EX U D H0 ρ0 fl env' st') :
    ∃ Wd : Nat → Nat → L2.St → Hp → Prop, (∃ m, Wd 0 m σ0 H0) ∧ ∀ i m σ H, Wd i m σ H →
      (J.stop i H ∧ D.nx σ H) ∨ (J.go i H ∧ ∃ Nn : L2.St → Hp → Prop, (∀ σ' H', Nn σ' H' → ∃ m', m' < m ∧ Wd (i + 1) m' σ' H') ∧ ∀ x H', J.yld i H x H' → gName j x σ H' fun σ2 H2 => tS K EX U fb { D with nx := Nn, ct := Nn, bk := D.nx } σ2 H2) := by
  refine ⟨fun i m σ H => ∃ ρ env st, Ext H0 ρ0 H ρ ∧ HR K H ρ st ∧ EnvR K H ρ env σ ∧ loop G j fb m i env st = some (fl, env', st'), ⟨m0, ρ0, env0, st0, Ext.refl _ _, hR, E, h⟩, ?_⟩
  rintro i m σ H ⟨ρ, env, st, e1, R1, E1, h1⟩
  have p1 := p.ext e1
  cases m with
  | zero => cases h1
  | succ m =>
    unfold loop at h1
    obtain ⟨js, jg⟩ := hJ H ρ st i e1 R1
    split at h1
    · cases h1
    · rename_i hg
      cases h1
      exact .inl ⟨js hg, p1 σ H ρ (Ext.refl _ _) R1 E1⟩
    · rename_i w hg
      obtain ⟨go, gy⟩ := jg w hg
      refine .inr ⟨go, fun σ' H' => ∃ ρ env st, Ext H0 ρ0 H' ρ ∧ HR K H' ρ st ∧ EnvR K H' ρ env σ' ∧ loop G j fb m (i + 1) env st = some (fl, env', st'), fun σ' H' q => ⟨m, Nat.lt_succ_self m, q⟩, fun x H' y => ?_⟩
      obtain ⟨rfl, rx⟩ := gy x H' y
      show tS K EX U fb _ (σ.set j (some x)) H'
      have E2 := E1.set rx j
      split at h1
      · rename_i env1 st1 hb
        exact ⟨ρ, _, st, .nx, env1, st1, R1, E2, hb, fun σ2 H2 ρ2 e2 R2 E2 => ⟨ρ2, env1, st1, e1.trans e2, R2, E2, h1⟩⟩
      · rename_i env1 st1 hb
        exact ⟨ρ, _, st, .ct, env1, st1, R1, E2, hb, fun σ2 H2 ρ2 e2 R2 E2 => ⟨ρ2, env1, st1, e1.trans e2, R2, E2, h1⟩⟩
      · rename_i env1 st1 hb
        cases h1
        exact ⟨ρ, _, st, .bk, env', st', R1, E2, hb, p1⟩
      · rename_i n1 n2 n3
        refine ⟨ρ, _, st, fl, env', st', R1, E2, h1, ?_⟩
        cases fl with
        | nx => exact absurd h1 (n1 _ _)
        | ct => exact absurd h1 (n2 _ _)
        | bk => exact absurd h1 (n3 _ _)
        | rt w => exact p1
        | exc x => exact p1
/-- for x in e -/
def fFor (fi : FE) (j : Nat) (fb : FS) : FS := fun env st => bS (fi env st) env fun w st => match cnt w st with
  | some n => loop (gOf w) j fb (n + 1) 0 env st
  | none => none
theorem cnt_ref {K : PySem.W.Frag} {H : Hp} {ρ : List Addr} {st : Sto} {k n : Nat} {a : Addr} (hR : HR K H ρ st) (hk : ρ[k]? = some a) (h : cnt (.ref k) st = some n) : ∃ xs, SqL K H a xs := by
  have h : (match st[k]? with | some (.lst ws) => some ws.length | _ => none) = some n := h
  split at h
  · rename_i ws hw
    obtain ⟨us, e1, r1⟩ := hR.ob k a _ hk hw
    exact ⟨us, .inl (.inl e1)⟩
  · cases h
theorem pds_for {j : Nat} {x : Str} {px : Pos} {fi : FE} {fb : FS} (hp : PassesOwn (model X.prog X.w) X.A X.env X.xe) (hc : X.calm = true) (hN : X.N.Nodup) (hj : X.N[j]? = some x) (hx : Loc X.env.scope x) (hi : PD X EX U it fi) (hb : PDB X EX U body fb)
    (hs : ∀ x, foldedSetIterable it X.env x = pure x := by intro _; rfl) (hf : X.fn x = true ∨ X.env.scope.names.lookup x = some .local := by first | exact .inl rfl | exact .inr rfl | assumption) :
    PDS X EX U (.For (.Name x px) it body [] pos) (fFor fi j fb) := by
  refine (ps_for hp hc ((pi_list hi).or ((pi_tup hi).or (pi_str hi))) (pg_name (i := j) hN hj hx hf) hb hs).imp fun D σ H h => ?_
  obtain ⟨ρ, env, st, fl, env', st', hR, E, e, p⟩ := h
  have e : bS (fi env st) env (fun w st => match cnt w st with | some n => loop (gOf w) j fb (n + 1) 0 env st | none => none) = some (fl, env', st') := e
  cases q : fi env st with
  | none => rw [q] at e; cases e
  | some o =>
    obtain ⟨ro, s1⟩ := o
    rw [q] at e
    cases ro with
    | exc x =>
      cases e
      exact .inl ⟨ρ, env, st, .exc x, st', hR, E, q, fun c d H' ρ' e' R' q' => p c d σ H' ρ' e' R' q'⟩
    | ok w =>
      have e : (match cnt w s1 with | some n => loop (gOf w) j fb (n + 1) 0 env s1 | none => none) = some (fl, env', st') := e
      split at e
      · rename_i n hn
        cases w with
        | ref k =>
          refine .inl ⟨ρ, env, st, .ok (.ref k), s1, hR, E, q, fun x H1 ρ1 e1 R1 rx => ?_⟩
          cases rx with
          | @ref _ a hk => exact ⟨a, rfl, cnt_ref R1 hk hn, loop_go (itr_lst hk) R1 (E.mono hR e1) e (p.ext e1)⟩
        | tup ws =>
          refine .inr (.inl ⟨ρ, env, st, .ok (.tup ws), s1, hR, E, q, fun x H1 ρ1 e1 R1 rx => ?_⟩)
          cases rx with
          | @tup a xs _ h1 h2 => exact ⟨a, rfl, ⟨xs, h1⟩, loop_go (itr_tup R1 h1 h2) R1 (E.mono hR e1) e (p.ext e1)⟩
        | ils ws =>
          refine .inl ⟨ρ, env, st, .ok (.ils ws), s1, hR, E, q, fun x H1 ρ1 e1 R1 rx => ?_⟩
          cases rx with
          | @ils a xs _ h1 h2 => exact ⟨a, rfl, ⟨xs, h1.sq⟩, loop_go (itr_ils R1 h1 h2) R1 (E.mono hR e1) e (p.ext e1)⟩
        | str z =>
          refine .inr (.inr ⟨ρ, env, st, .ok (.str z), s1, hR, E, q, fun x H1 ρ1 e1 R1 rx => ?_⟩)
          cases rx with
          | str _ => exact ⟨z, rfl, loop_go itr_str R1 (E.mono hR e1) e (p.ext e1)⟩
        | non => cases hn
        | bl b => cases hn
        | int i => cases hn
      · cases e
/-- for x in range(e), range(a, b) -/
def rng1 (ws : List W) : Option (Int × Nat) := match ws with
  | [.int n] => if decide (-(2 ^ 62) ≤ n) && decide (n < 2 ^ 62) then some (0, n.toNat) else none
  | _ => none
def rng2 (ws : List W) : Option (Int × Nat) := match ws with
  | [.int lo, .int hi] => if (decide (-(2 ^ 62) ≤ lo) && decide (lo < 2 ^ 62)) && (decide (-(2 ^ 62) ≤ hi) && decide (hi < 2 ^ 62)) then some (lo, (hi - lo).toNat) else none
  | _ => none
def fForR (rg : List W → Option (Int × Nat)) (fa : FA) (j : Nat) (fb : FS) : FS := fun env st => bS (fa env st) env fun ws st => match rg ws with
  | some (lo, n) => loop (gRng lo n) j fb (n + 1) 0 env st
  | none => none
theorem forR_go {K : PySem.W.Frag} {rg : List W → Option (Int × Nat)} {j : Nat} {fb : FS} {vs : List V} {D : Ends} {σ : L2.St} {H : Hp} (k : tKS K EX U (RepAll K) (fun env ws st => match rg ws with | some (lo, n) => loop (gRng lo n) j fb (n + 1) 0 env st | none => none) vs D σ H) :
    ∃ lo n ws ρ, rg ws = some (lo, n) ∧ RepAll K H ρ ws vs ∧ ∃ Wd : Nat → Nat → L2.St → Hp → Prop, (∃ m, Wd 0 m σ H) ∧ ∀ i m σ H, Wd i m σ H →
      ((Itr lo n).stop i H ∧ D.nx σ H) ∨ ((Itr lo n).go i H ∧ ∃ Nn : L2.St → Hp → Prop, (∀ σ' H', Nn σ' H' → ∃ m', m' < m ∧ Wd (i + 1) m' σ' H') ∧ ∀ x H', (Itr lo n).yld i H x H' → gName j x σ H' fun σ2 H2 => tS K EX U fb { D with nx := Nn, ct := Nn, bk := D.nx } σ2 H2) := by
  obtain ⟨ρ, env, st, ws, fl, env', st', hR, E, rw', e, p⟩ := k
  have e : (match rg ws with | some (lo, n) => loop (gRng lo n) j fb (n + 1) 0 env st | none => none) = some (fl, env', st') := e
  split at e
  · rename_i lo n hn
    exact ⟨lo, n, ws, ρ, hn, rw', loop_go itr_rng hR E e p⟩
  · cases e
theorem pds_forR1 {a : Expr} {j : Nat} {x : Str} {p0 p1 px : Pos} {fa : FA} {fb : FS} (hp : PassesOwn (model X.prog X.w) X.A X.env X.xe) (hc : X.calm = true) (hN : X.N.Nodup) (hj : X.N[j]? = some x) (hx : Loc X.env.scope x) (hg : Gl X "range") (hm : X.mg "range" = none) (ha : PDA X EX U [a] fa) (hb : PDB X EX U body fb)
    (hst : starEach [a] X.env = [(false, eval a X.env)] := by rfl)
    (hs : ∀ y, foldedSetIterable (.Call (.Name "range" p0) [a] [] p1) X.env y = pure y := by intro _; rfl) (hf : X.fn x = true ∨ X.env.scope.names.lookup x = some .local := by first | exact .inl rfl | exact .inr rfl | assumption) :
    PDS X EX U (.For (.Name x px) (.Call (.Name "range" p0) [a] [] p1) body [] pos) (fForR rng1 fa j fb) := by
  refine (ps_for hp hc (pi_range1 hg hm ha hst) (pg_name (i := j) hN hj hx hf) hb hs).imp fun D σ H h => ?_
  refine (tS_bind (r1 := RepAll X.K) (g := fun env ws st => match rng1 ws with | some (lo, n) => loop (gRng lo n) j fb (n + 1) 0 env st | none => none) h).imp fun vs H1 k => ?_
  obtain ⟨lo, n, ws, ρ, hn, rw', kk⟩ := forR_go k
  unfold rng1 at hn
  split at hn
  · split at hn
    · rename_i hz
      rw [Bool.and_eq_true] at hz
      cases hn
      obtain ⟨v, rfl, rv⟩ := all1 rw'
      cases rv
      exact ⟨_, rfl, of_decide_eq_true hz.1, of_decide_eq_true hz.2, kk⟩
    · cases hn
  · cases hn
theorem pds_forR2 {a b : Expr} {j : Nat} {x : Str} {p0 p1 px : Pos} {fa : FA} {fb : FS} (hp : PassesOwn (model X.prog X.w) X.A X.env X.xe) (hc : X.calm = true) (hN : X.N.Nodup) (hj : X.N[j]? = some x) (hx : Loc X.env.scope x) (hg : Gl X "range") (hm : X.mg "range" = none) (ha : PDA X EX U [a, b] fa) (hb : PDB X EX U body fb)
    (hst : starEach [a, b] X.env = [(false, eval a X.env), (false, eval b X.env)] := by rfl) (hst2 : starEach [b] X.env = [(false, eval b X.env)] := by rfl)
    (hs : ∀ y, foldedSetIterable (.Call (.Name "range" p0) [a, b] [] p1) X.env y = pure y := by intro _; rfl) (hf : X.fn x = true ∨ X.env.scope.names.lookup x = some .local := by first | exact .inl rfl | exact .inr rfl | assumption) :
    PDS X EX U (.For (.Name x px) (.Call (.Name "range" p0) [a, b] [] p1) body [] pos) (fForR rng2 fa j fb) := by
  refine (ps_for hp hc (pi_range2 hg hm ha hst hst2) (pg_name (i := j) hN hj hx hf) hb hs).imp fun D σ H h => ?_
  refine (tS_bind (r1 := RepAll X.K) (g := fun env ws st => match rng2 ws with | some (lo, n) => loop (gRng lo n) j fb (n + 1) 0 env st | none => none) h).imp fun vs H1 k => ?_
  obtain ⟨lo, n, ws, ρ, hn, rw', kk⟩ := forR_go k
  unfold rng2 at hn
  split at hn
  · split at hn
    · rename_i hz
      rw [Bool.and_eq_true, Bool.and_eq_true, Bool.and_eq_true] at hz
      cases hn
      obtain ⟨v, v2, rfl, rv, rv2⟩ := all2 rw'
      cases rv
      cases rv2
      exact ⟨_, _, rfl, ⟨of_decide_eq_true hz.1.1, of_decide_eq_true hz.1.2, of_decide_eq_true hz.2.1, of_decide_eq_true hz.2.2⟩, kk⟩
    · cases hn
  · cases hn
end

/-! ### [e for x in it if t] -/
section
variable {K : PySem.W.Frag} {H : Hp} {ρ : List Addr} {st : Sto}
theorem FzL.other {D a : Addr} {xs ys : List V} {o : HO} (hD : H D = some (.lst ys)) (h : FzL K H a xs) : FzL K (upd H D o) a xs := by
  rcases h with ⟨u, h⟩ | h
  · exact .inl ⟨u, by rw [upd_ne (ne_of h hD (by intro z; cases z))]; exact h⟩
  · exact .inr h
theorem SqT.other {D a : Addr} {xs ys : List V} {o : HO} (hD : H D = some (.lst ys)) (h : SqT K H a xs) : SqT K (upd H D o) a xs := by
  rcases h with (h | ⟨u, h⟩) | h
  · exact .inl (.inl (by rw [upd_ne (ne_of h hD (by intro z; cases z))]; exact h))
  · exact .inl (.inr ⟨u, by rw [upd_ne (ne_of h hD (by intro z; cases z))]; exact h⟩)
  · exact .inr h
mutual
theorem Rep.other {D : Addr} {ys : List V} {o : HO} (hD : H D = some (.lst ys)) : ∀ {w : W} {v : V}, Rep K H ρ w v → Rep K (upd H D o) ρ w v
  | _, _, .non => .non
  | _, _, .bl b => .bl b
  | _, _, .int i => .int i
  | _, _, .str x => .str x
  | _, _, .tup h hs => .tup (SqT.other hD h) (RepAll.other hD hs)
  | _, _, .ils h hs => .ils (FzL.other hD h) (RepAll.other hD hs)
  | _, _, .ref h => .ref h
theorem RepAll.other {D : Addr} {ys : List V} {o : HO} (hD : H D = some (.lst ys)) : ∀ {ws : List W} {vs : List V}, RepAll K H ρ ws vs → RepAll K (upd H D o) ρ ws vs
  | _, _, .nil => .nil
  | _, _, .cons h hs => .cons (Rep.other hD h) (RepAll.other hD hs)
end
mutual
theorem Rep.num {ρ' : List Addr} (at' : ∀ {n : Nat} {a : Addr}, ρ[n]? = some a → ρ'[n]? = some a) : ∀ {w : W} {v : V}, Rep K H ρ w v → Rep K H ρ' w v
  | _, _, .non => .non
  | _, _, .bl b => .bl b
  | _, _, .int i => .int i
  | _, _, .str x => .str x
  | _, _, .tup h hs => .tup h (RepAll.num at' hs)
  | _, _, .ils h hs => .ils h (RepAll.num at' hs)
  | _, _, .ref h => .ref (at' h)
theorem RepAll.num {ρ' : List Addr} (at' : ∀ {n : Nat} {a : Addr}, ρ[n]? = some a → ρ'[n]? = some a) : ∀ {ws : List W} {vs : List V}, RepAll K H ρ ws vs → RepAll K H ρ' ws vs
  | _, _, .nil => .nil
  | _, _, .cons h hs => .cons (Rep.num at' h) (RepAll.num at' hs)
end
theorem HR.other (hR : HR K H ρ st) {D : Addr} {ys : List V} {o : HO} (hD : H D = some (.lst ys)) (nD : D ∉ ρ) : HR K (upd H D o) ρ st := by
  refine ⟨hR.len, hR.nd, fun n a u hn hs => ?_⟩
  have q := hR.ob n a u hn hs
  have ne : a ≠ D := fun z => nD (z ▸ List.mem_of_getElem? hn)
  cases u with
  | lst ws => obtain ⟨xs, h1, h2⟩ := q; exact ⟨xs, by rw [upd_ne ne]; exact h1, h2.other hD⟩
  | emp => show upd H D o a = _; rw [upd_ne ne]; exact q
/-- a list that stood apart gets its number -/
theorem HR.adopt (hR : HR K H ρ st) {D : Addr} {xs : List V} {ws : List W} (hD : H D = some (.lst xs)) (nD : D ∉ ρ) (r : RepAll K H ρ ws xs) : HR K H (ρ ++ [D]) (st ++ [.lst ws]) := by
  have up : ∀ {ws : List W} {xs : List V}, RepAll K H ρ ws xs → RepAll K H (ρ ++ [D]) ws xs := by
    have at' : ∀ {n : Nat} {a : Addr}, ρ[n]? = some a → (ρ ++ [D])[n]? = some a := fun {n a} h => by
      rw [List.getElem?_append_left (List.getElem?_eq_some_iff.mp h).1]; exact h
    exact fun {_ _} r => RepAll.num at' r
  refine ⟨by simp [hR.len], ?_, fun n a u hn hs => ?_⟩
  · rw [List.nodup_append]
    exact ⟨hR.nd, by simp, fun a ha b hb => by rw [List.mem_singleton.mp hb]; rintro rfl; exact nD ha⟩
  · by_cases hl : n < ρ.length
    · rw [List.getElem?_append_left hl] at hn
      rw [List.getElem?_append_left (by rw [← hR.len]; exact hl)] at hs
      have q := hR.ob n a u hn hs
      cases u with
      | lst ws => obtain ⟨xs, h1, h2⟩ := q; exact ⟨xs, h1, up h2⟩
      | emp => exact q
    · rw [List.getElem?_append_right (by omega)] at hn
      rw [List.getElem?_append_right (by rw [← hR.len]; omega)] at hs
      rw [hR.len] at hn
      cases k : n - st.length with
      | zero =>
        rw [k] at hn hs
        cases hn; cases hs
        exact ⟨xs, hD, up r⟩
      | succ j => rw [k] at hn; simp at hn
end
end DI

namespace DI
open PySem L2

def U0 : WX := fun _ _ _ _ => False
def lcLoop (G : Gt) (j : Nat) (t : FT) (f : FE) (env : Evn) : Nat → Nat → List W → Sto → Out (List W)
  | 0, _, _, _ => none
  | m + 1, i, acc, st => match G st i with
    | none => none
    | some none => if szW acc.length then ret acc st else none
    | some (some w) => match t (env.set j (some w)) st with
      | some (.ok true, st1) => match f (env.set j (some w)) st1 with
        | some (.ok y, st2) => if szW acc.length then lcLoop G j t f env m (i + 1) (acc ++ [y]) st2 else none
        | _ => none
      | some (.ok false, st1) => lcLoop G j t f env m (i + 1) acc st1
      | _ => none
def addL (ws : List W) (st : Sto) : Out W := some (.ok (.ref st.length), st ++ [.lst ws])
def fLc (fi : FE) (j : Nat) (t : FT) (f : FE) : FE := fun env st => bnd (fi env st) fun w st => match cnt w st with
  | some n => bnd (lcLoop (gOf w) j t f (env.set j none) (n + 1) 0 [] st) addL
  | none => none
def fLcR (rg : List W → Option (Int × Nat)) (fa : FA) (j : Nat) (t : FT) (f : FE) : FE := fun env st => bnd (fa env st) fun ws st => match rg ws with
  | some (lo, n) => bnd (lcLoop (gRng lo n) j t f (env.set j none) (n + 1) 0 [] st) addL
  | none => none
theorem lcLoop_nox {G : Gt} {j : Nat} {t : FT} {f : FE} {env : Evn} : ∀ (m i : Nat) (acc : List W) (st : Sto), NoX (lcLoop G j t f env m i acc st)
  | 0, _, _, _ => fun x s h => by cases h
  | m + 1, i, acc, st => fun x s h => by
    unfold lcLoop at h
    split at h
    · cases h
    · split at h <;> cases h
    · split at h
      · split at h
        · split at h
          · exact lcLoop_nox m _ _ _ x s h
          · cases h
        · cases h
      · exact lcLoop_nox m _ _ _ x s h
      · cases h
section
variable {EX : XR}
theorem EnvR.wipe1 {K : PySem.W.Frag} {H : Hp} {ρ : List Addr} {env : Evn} {σ : L2.St} (h : EnvR K H ρ env σ) (j : Nat) : EnvR K H ρ (env.set j none) (σ.set j none) := by
  refine ⟨by simp [h.1], fun i w q => ?_⟩
  by_cases e : j = i
  · subst e
    by_cases hl : j < env.length
    · rw [List.getElem?_set_self hl] at q; cases q
    · rw [List.getElem?_eq_none (by simpa using Nat.le_of_not_lt hl)] at q; cases q
  · rw [List.getElem?_set_ne e] at q
    rw [List.getElem?_set_ne e]
    exact h.2 i w q
theorem lc_go {K : PySem.W.Frag} {J : It} {G : Gt} {H0 : Hp} {ρ0 : List Addr} {j : Nat} {ft : FT} {fe : FE} (hJ : ItR K J G H0 ρ0) {σ : L2.St} {env : Evn} {m0 : Nat} {st0 st' : Sto} {ws : List W} {Q : VK}
    (hR : HR K H0 ρ0 st0) (E : EnvR K H0 ρ0 env σ) (h : lcLoop G j ft fe (env.set j none) m0 0 [] st0 = some (.ok ws, st'))
    (p : ∀ v H' ρ', Ext H0 ρ0 H' ρ' → HR K H' ρ' (st' ++ [.lst ws]) → Rep K H' ρ' (.ref st'.length) v → Q v H') (D : Addr) (hD : H0 D = none) :
    ∃ Wd : Nat → Nat → Hp → Prop, (∃ m, Wd 0 m (upd H0 D (.lst []))) ∧ ∀ i m H, Wd i m H → (J.stop i H ∧ Q (.ref D) H) ∨ (J.go i H ∧ ∃ Nx : Hp → Prop, (∀ H', Nx H' → ∃ m', m' < m ∧ Wd (i + 1) m' H') ∧
      ∀ x H', J.yld i H x H' → gName j x (wipe σ [j]) H' fun σ2 H2 => wipe σ2 [j] = wipe σ [j] ∧ tT K EX U0 ft σ2 H2 fun b H3 =>
        if b = true then tI K EX U0 fe σ2 H3 fun y H4 => ∃ acc, H4 D = some (.lst acc) ∧ acc.length < sizeLine ∧ Nx (upd H4 D (.lst (acc ++ [y]))) else Nx H3) := by
  have nD0 := hR.fresh hD
  let Wd : Nat → Nat → Hp → Prop := fun i m H => ∃ ρ st acc xs, Ext H0 ρ0 H ρ ∧ HR K H ρ st ∧ D ∉ ρ ∧ H D = some (.lst xs) ∧ RepAll K H ρ acc xs ∧ lcLoop G j ft fe (env.set j none) m i acc st = some (.ok ws, st')
  refine ⟨Wd, ⟨m0, ρ0, st0, [], [], Ext.tup hD, hR.tup hD, nD0, upd_same, .nil, h⟩, ?_⟩
  rintro i m H ⟨ρ, st, acc, xs, e1, R1, nD, eD, ra, h1⟩
  cases m with
  | zero => cases h1
  | succ m =>
    unfold lcLoop at h1
    obtain ⟨js, jg⟩ := hJ H ρ st i e1 R1
    split at h1
    · cases h1
    · rename_i hg
      split at h1
      · cases h1
        refine .inl ⟨js hg, p _ H (ρ ++ [D]) ?_ (R1.adopt eD nD ra) (.ref ?_)⟩
        · obtain ⟨⟨l, rfl⟩, k1, n1⟩ := e1
          refine ⟨⟨l ++ [D], by simp⟩, k1, fun a ha => ?_⟩
          rcases List.mem_append.mp ha with z | z
          · exact n1 a z
          · rw [List.mem_singleton.mp z]; exact .inr hD
        · rw [← R1.len]; simp
      · cases h1
    · rename_i w hg
      obtain ⟨go, gy⟩ := jg w hg
      refine .inr ⟨go, Wd (i + 1) m, fun H' q => ⟨m, Nat.lt_succ_self m, q⟩, fun x H' y => ?_⟩
      obtain ⟨rfl, rx⟩ := gy x H' y
      have E2 : EnvR K H' ρ ((env.set j none).set j (some w)) ((σ.set j none).set j (some x)) := ((E.mono hR e1).wipe1 j).set rx j
      refine ⟨by show ((σ.set j none).set j (some x)).set j none = σ.set j none; rw [List.set_set, List.set_set], ?_⟩
      show tT K EX U0 ft ((σ.set j none).set j (some x)) H' _
      split at h1
      · rename_i st1 ht
        refine ⟨ρ, _, st, .ok true, st1, R1, E2, ht, fun b H3 ρ3 e3 R3 hb => ?_⟩
        obtain rfl : true = b := hb
        rw [if_pos rfl]
        split at h1
        · rename_i yw st2 hf
          split at h1
          · rename_i hz
            refine ⟨ρ3, _, st1, .ok yw, st2, R3, E2.mono R1 e3, hf, fun y4 H4 ρ4 e4 R4 r4 => ?_⟩
            have e34 := e3.trans e4
            have eD4 : H4 D = some (.lst xs) := e34.keep D _ eD nD
            have nD4 : D ∉ ρ4 := fun z => by
              rcases e34.new D z with z | z
              · exact nD z
              · rw [eD] at z; cases z
            have hz := sz_ok hz
            refine ⟨xs, eD4, ?_, ρ4, st2, acc ++ [yw], xs ++ [y4], ?_, R4.other eD4 nD4, nD4, upd_same, ?_, h1⟩
            · rw [← ra.length]
              exact Nat.lt_of_le_of_lt (of_decide_eq_true (by assumption)) (by decide)
            · obtain ⟨p4, k4, n4⟩ := e1.trans e34
              exact ⟨p4, fun a o ha hn => by rw [upd_ne (ne_of_none ha hD)]; exact k4 a o ha hn, n4⟩
            · exact ((ra.mono R1 e34).append (.cons r4 .nil)).other eD4
          · cases h1
        · cases h1
      · rename_i st1 ht
        refine ⟨ρ, _, st, .ok false, st1, R1, E2, ht, fun b H3 ρ3 e3 R3 hb => ?_⟩
        obtain rfl : false = b := hb
        rw [if_neg Bool.false_ne_true]
        have nD3 : D ∉ ρ3 := fun z => by
          rcases e3.new D z with z | z
          · exact nD z
          · rw [eD] at z; cases z
        exact ⟨ρ3, st1, acc, xs, e1.trans e3, R3, nD3, e3.keep D _ eD nD, ra.mono R1 e3, h1⟩
      · cases h1
end
def fYes : FT := fun _ st => ret true st
section
variable {X : Cx} {EX : XR} {U : WX} {it elt : Expr} {ifs : List Expr} {scope : Scope} {pos px : Pos} {x : Str} {j : Nat}
theorem _root_.L2.PTs.imp {X : Cx} {es : List Expr} {t t' : TT} (h : PTs X es t) (w : ∀ σ H Q, t' σ H Q → t σ H Q) : PTs X es t' := ⟨fun pins s σ H Q I q => h.run pins s σ H Q I (w σ H Q q)⟩
theorem pdts_nil : PTs X [] (tT X.K EX U fYes) := pts_nil.imp fun σ H Q ⟨ρ, env, st, r, st', hR, E, e, p⟩ => by
  cases e
  exact p true H ρ (Ext.refl _ _) hR rfl
theorem pdts_one {c : Expr} {f : FT} (h : PDT X EX U c f) : PTs X [c] (tT X.K EX U f) := pts_one h
/-- what goes on behind the walk -/
theorem lcB {K : PySem.W.Frag} {G : Gt} {ft : FT} {fe : FE} {env : Evn} {m : Nat} {st st' : Sto} {r : R W} (e : bnd (lcLoop G j ft fe env m 0 [] st) addL = some (r, st')) : ∃ ws s1, lcLoop G j ft fe env m 0 [] st = some (.ok ws, s1) ∧ r = .ok (.ref s1.length) ∧ st' = s1 ++ [.lst ws] := by
  cases q : lcLoop G j ft fe env m 0 [] st with
  | none => rw [q] at e; cases e
  | some o =>
    obtain ⟨ro, s1⟩ := o
    cases ro with
    | exc x => exact absurd q (lcLoop_nox _ _ _ _ _ _)
    | ok ws => rw [q] at e; cases e; exact ⟨ws, s1, rfl, rfl, rfl⟩
theorem lc_main {fi : FE} {ft : FT} {fe : FE} {σ : L2.St} {H : Hp} {Q : VK} {te : TE} {tt : TT} (h : tI X.K EX U (fLc fi j ft fe) σ H Q) :
    tLc (fun σ H R => iList X.K (tI X.K EX U fi) σ H R ∨ (iTup X.K (tI X.K EX U fi) σ H R ∨ iStr (tI X.K EX U fi) σ H R)) (gName j) (tT X.K EX U0 ft) (tI X.K EX U0 fe) [j] σ H Q := by
  obtain ⟨ρ, env, st, r, st', hR, E, e, p⟩ := h
  have e : bnd (fi env st) (fun w st => match cnt w st with | some n => bnd (lcLoop (gOf w) j ft fe (env.set j none) (n + 1) 0 [] st) addL | none => none) = some (r, st') := e
  cases q : fi env st with
  | none => rw [q] at e; cases e
  | some o =>
    obtain ⟨ro, s1⟩ := o
    rw [q] at e
    cases ro with
    | exc x =>
      cases e
      exact .inl ⟨ρ, env, st, .exc x, st', hR, E, q, p⟩
    | ok w =>
      have e : (match cnt w s1 with | some n => bnd (lcLoop (gOf w) j ft fe (env.set j none) (n + 1) 0 [] s1) addL | none => none) = some (r, st') := e
      split at e
      · rename_i n hn
        obtain ⟨ws, s2, hl, rfl, rfl⟩ := lcB (K := X.K) e
        cases w with
        | ref k =>
          refine .inl ⟨ρ, env, st, .ok (.ref k), s1, hR, E, q, fun x H1 ρ1 e1 R1 rx => ?_⟩
          cases rx with
          | @ref _ a hk => exact ⟨a, rfl, cnt_ref R1 hk hn, fun D hD => lc_go (itr_lst hk) R1 (E.mono hR e1) hl (fun v H' ρ' e' => p v H' ρ' (e1.trans e')) D hD⟩
        | tup us =>
          refine .inr (.inl ⟨ρ, env, st, .ok (.tup us), s1, hR, E, q, fun x H1 ρ1 e1 R1 rx => ?_⟩)
          cases rx with
          | @tup a xs _ h1 h2 => exact ⟨a, rfl, ⟨xs, h1⟩, fun D hD => lc_go (itr_tup R1 h1 h2) R1 (E.mono hR e1) hl (fun v H' ρ' e' => p v H' ρ' (e1.trans e')) D hD⟩
        | ils us =>
          refine .inl ⟨ρ, env, st, .ok (.ils us), s1, hR, E, q, fun x H1 ρ1 e1 R1 rx => ?_⟩
          cases rx with
          | @ils a xs _ h1 h2 => exact ⟨a, rfl, ⟨xs, h1.sq⟩, fun D hD => lc_go (itr_ils R1 h1 h2) R1 (E.mono hR e1) hl (fun v H' ρ' e' => p v H' ρ' (e1.trans e')) D hD⟩
        | str z =>
          refine .inr (.inr ⟨ρ, env, st, .ok (.str z), s1, hR, E, q, fun x H1 ρ1 e1 R1 rx => ?_⟩)
          cases rx with
          | str _ => exact ⟨z, rfl, fun D hD => lc_go itr_str R1 (E.mono hR e1) hl (fun v H' ρ' e' => p v H' ρ' (e1.trans e')) D hD⟩
        | non => cases hn
        | bl b => cases hn
        | int i => cases hn
      · cases e
end
end DI

namespace DI
open PySem L2 PySem.Spec PyProof.Rows
section
variable {X : Cx} {EX : XR} {U : WX} {it elt : Expr} {ifs : List Expr} {scope : Scope} {pos px : Pos} {x : Str} {j : Nat}
theorem pd_lc {fi : FE} {ft : FT} {fe : FE} (hc : X.calm = true) (hN : X.N.Nodup) (ok : BlkOk X.N X.env.scope scope [(x, j)]) (hi : PD X EX U it fi)
    (hg : ∀ (s : Shared) (H : Hp) (C : Addr) (cl : List (Str × Addr)) (fp : List Addr), PG (X.blk s H scope (compEnvC scope cl C X.env) fp) (.Name x px) (gName j))
    (ht : ∀ (s : Shared) (H : Hp) (C : Addr) (cl : List (Str × Addr)) (fp : List Addr), PTs (X.blk s H scope (compEnvC scope cl C X.env) fp) ifs (tT X.K EX U0 ft))
    (he : ∀ (s : Shared) (H : Hp) (C : Addr) (cl : List (Str × Addr)) (fp : List Addr), PE (X.blk s H scope (compEnvC scope cl C X.env) fp) elt (tI X.K EX U0 fe))
    (hs : ∀ x, foldedSetIterable it X.env x = pure x := by intro _; rfl) :
    PD X EX U (.ListComp elt [⟨.Name x px, it, ifs, 0⟩] scope pos) (fLc fi j ft fe) :=
  (pe_lc (own := [(x, j)]) hc hN ((pi_list hi).or ((pi_tup hi).or (pi_str hi))) ok hg ht he hs).imp fun _ _ _ h => lc_main (te := tI X.K EX U0 fe) (tt := tT X.K EX U0 ft) h
theorem pds_setLc {i : Nat} {y : Str} {py spos : Pos} {fi : FE} {ft : FT} {fe : FE} (hc : X.calm = true) (hN : X.N.Nodup) (hy : X.N[i]? = some y) (hyl : X.env.scope.names.lookup y = some .local)
    (hsw : swapsWith (.ListComp elt [⟨.Name x px, it, ifs, 0⟩] scope pos) (some (.Name y py)) spos.line X.env = pure true) (ok : BlkOk X.N X.env.scope scope [(x, j)]) (hi : PD X EX U it fi)
    (hg : ∀ (s : Shared) (H : Hp) (C : Addr) (cl : List (Str × Addr)) (fp : List Addr), PG (X.blk s H scope (compEnvC scope cl C X.env) fp) (.Name x px) (gName j))
    (ht : ∀ (s : Shared) (H : Hp) (C : Addr) (cl : List (Str × Addr)) (fp : List Addr), PTs (X.blk s H scope (compEnvC scope cl C X.env) fp) ifs (tT X.K EX U0 ft))
    (he : ∀ (s : Shared) (H : Hp) (C : Addr) (cl : List (Str × Addr)) (fp : List Addr), PE (X.blk s H scope (compEnvC scope cl C X.env) fp) elt (tI X.K EX U0 fe))
    (hs : ∀ x, foldedSetIterable it X.env x = pure x := by intro _; rfl) :
    PDS X EX U (.Assign [.Name y py] (.ListComp elt [⟨.Name x px, it, ifs, 0⟩] scope pos) spos) (fSet i (fLc fi j ft fe)) := by
  refine (ps_setLc (own := [(x, j)]) hc hN hy hyl hsw ((pi_list hi).or ((pi_tup hi).or (pi_str hi))) ok hg ht he hs).imp fun D σ H h => ?_
  refine lc_main (X := X) (te := tI X.K EX U0 fe) (tt := tT X.K EX U0 ft) ((tS_bind (r1 := Rep X.K) (g := fun env w st => some (.nx, env.set i (some w), st)) h).imp fun v H1 h1 => ?_)
  obtain ⟨ρ, env, st, w, fl, env', st', hR, E, rw', e, p⟩ := h1
  cases e
  exact p _ H1 ρ (Ext.refl _ _) hR (E.set rw' i)
end

/-! ### defs -/
/-- a def keeps its promise wherever no repr runs around it -/
structure FnG (P : Program) (w : World) (K : PySem.W.Frag) (mg : Str → Option Value) (base : Heap) (k : Nat) (f : Addr) (fd : FuncData) (ps : List Str) (sp : Sp) : Prop where
  len : ∀ vs H Q E, sp vs H Q E → vs.length = ps.length
  run : ∀ (A : Around) (ou : List Env) (s : Shared) (H : Hp) (ar : Args) (us : List Value) (vs : List V) (Q : VK) (E : XK), A.guards = some [] → Room k A → Env0 P w K mg base A ou s H → BindsTo s fd ar (ps.zip us) → Vals vs us → sp vs H Q E →
    codeAny (model P w) A (.call (.ref f) ar) (CR (L2.CX P w) ou P w H s Q E) s
section
variable {P : Program} {w : World} {K : PySem.W.Frag} {mg : Str → Option Value} {base : Heap} {k : Nat} {f : Addr} {x qual : Str} {params : Arguments} {body : List Stmt} {scope : Scope} {dvs : List V} {kws : List (Str × V)} {fd : FuncData} {N ps : List Str} {sp : Sp}
theorem fnG_of (Fn : FunD K x qual params body scope dvs kws f fd) (S : FnScope N ps scope) (len : ∀ vs H Q E, sp vs H Q E → vs.length = ps.length)
    (hb : ∀ (cdv : Value) (A : Around) (ou : List Env) (s : Shared) (H : Hp) (vs : List V) (Q : VK) (E : XK), A.guards = some [] → Room k (A.deeper (envOfC qual scope s.heap.objs.size f cdv)) → sp vs H Q E →
      ∃ t, PSs (cxOf (L2.CX P w) P w K mg base N qual scope f cdv A ou s H E) body t ∧ t { nx := fun _ H' => Q .non H', rt := Q } (L2.start N vs) H) : FnG P w K mg base (k + 1) f fd ps sp := by
  obtain ⟨oc, od, dV, kV, dc, pm, an, cdv, ct, sl, rfl, lk, hcd, _, _⟩ := Fn.ex
  constructor
  · exact len
  intro A ou s H ar us vs Q E hgd hr e0 hbd rv hsp
  have hin : K.In s.heap := e0.mod.kin.keeps (fun b o q => (e0.bs b o q).1)
  have hlm : s.heap.NoLimit := e0.mod.nolimit.keeps (fun b o q => (e0.bs b o q).1)
  refine codeAny_call_function hr.depth (hin _ _ lk) rfl S.co S.gen rfl (PySem.W.codeRec_of hin hcd) (hbd _ _ _ _ ?_)
  refine wpAny_newFunctionEnv_cells S.kind (fun ⟨n, v⟩ hy => ?_) fun env he s1 ic => ?_
  · have z := S.par n (List.of_mem_zip hy).1
    exact z.elim .inl fun z => .inr ⟨z, PySem.W.cellsFrom_some _ _ _ (.inl z)⟩
  · subst he
    refine ⟨hlm.keeps ic.toInCall.keep, codeAny_func ?_⟩
    obtain ⟨t, ht, hq⟩ := hb cdv A ou s H vs Q E hgd (hr.deeper _) hsp
    have J0 := inv_start (CX := L2.CX P w) (E := E) S hr.hd e0 (len _ _ _ _ hsp) rv ic
    refine wpAny_mono (ht.run [] s1 _ H _ J0 hq) (fun fl s' z => ?_) fun _ _ z => z
    cases fl with
    | next => obtain ⟨τ, H', J, q⟩ := z; exact ⟨.non, H', J.os, J.bare, J.base, J.hok, rfl, q⟩
    | ret u => obtain ⟨v, τ, H', J, r, q⟩ := z; exact ⟨v, H', J.os, J.bare, J.base, J.hok, r, q⟩
    | brk => obtain ⟨_, _, _, q⟩ := z; exact q.elim
    | cont => obtain ⟨_, _, _, q⟩ := z; exact q.elim
end
def spI (K : PySem.W.Frag) (EX : XR) (g : OC) : Sp := fun vs H Q E => ∃ ρ st ws r st', HR K H ρ st ∧ RepAll K H ρ ws vs ∧ g ws st = some (r, st') ∧ match r with
  | .ok w => ∀ v H' ρ', Ext H ρ H' ρ' → HR K H' ρ' st' → Rep K H' ρ' w v → Q v H'
  | .exc x => ∀ cls d H' ρ', Ext H ρ H' ρ' → HR K H' ρ' st' → EX x cls d H' ρ' → E cls d H'
/-- a def as a function of values and stores: n parameters, m names in all -/
def mkF (n m : Nat) (f : FS) : OC := fun ws st => if ws.length = n then match f (ws.map some ++ List.replicate (m - n) none) st with
  | some (.nx, _, st') => some (.ok .non, st')
  | some (.rt w, _, st') => some (.ok w, st')
  | some (.exc x, _, st') => some (.exc x, st')
  | _ => none
  else none
theorem mkF_len {n m : Nat} {f : FS} {ws : List W} {st : Sto} {o : R W × Sto} (h : mkF n m f ws st = some o) : ws.length = n := by
  unfold mkF at h
  split at h
  · assumption
  · cases h
theorem env_start {K : PySem.W.Frag} {H : Hp} {ρ : List Addr} {ws : List W} {vs : List V} (r : RepAll K H ρ ws vs) (N : List Str) {n : Nat} (hn : ws.length = n) : EnvR K H ρ (ws.map some ++ List.replicate (N.length - n) none) (L2.start N vs) := by
  have hl := r.length
  refine ⟨by unfold L2.start; simp [← hn, hl], fun i w h => ?_⟩
  unfold L2.start
  by_cases hi : i < ws.length
  · rw [List.getElem?_append_left (by simpa using hi), List.getElem?_map] at h
    cases q : ws[i]? with
    | none => rw [q] at h; cases h
    | some w' =>
      rw [q] at h; cases h
      obtain ⟨v, h1, h2⟩ := r.get q
      refine ⟨v, ?_, h2⟩
      rw [List.getElem?_append_left (by rw [List.length_map, ← hl]; exact hi), List.getElem?_map, h1]
      rfl
  · rw [List.getElem?_append_right (by simpa using hi), List.getElem?_replicate] at h
    split at h <;> cases h
section
variable {P : Program} {w : World} {K : PySem.W.Frag} {mg : Str → Option Value} {base : Heap} {k : Nat} {f : Addr} {x qual : Str} {params : Arguments} {body : List Stmt} {scope : Scope} {dvs : List V} {kws : List (Str × V)} {fd : FuncData} {N ps : List Str} {EX : XR}
/-- THE RULE for a def -/
theorem fnI_of {fb : FS} (Fn : FunD K x qual params body scope dvs kws f fd) (S : FnScope N ps scope)
    (hb : ∀ (cdv : Value) (A : Around) (ou : List Env) (s : Shared) (H : Hp) (E : XK), A.guards = some [] → Room k (A.deeper (envOfC qual scope s.heap.objs.size f cdv)) →
      PDB (cxOf (L2.CX P w) P w K mg base N qual scope f cdv A ou s H E) EX (fun cls d _ H => E cls d H) body fb) : FnG P w K mg base (k + 1) f fd ps (spI K EX (mkF ps.length N.length fb)) := by
  refine fnG_of Fn S (fun vs H Q E ⟨ρ, st, ws, r, st', hR, rw', e, p⟩ => by rw [← rw'.length]; exact mkF_len e) fun cdv A ou s H vs Q E hgd hr ⟨ρ, st, ws, r, st', hR, rw', e, p⟩ => ?_
  refine ⟨_, hb cdv A ou s H E hgd hr, ?_⟩
  have hl := mkF_len e
  have E0 := env_start rw' N hl
  unfold mkF at e
  rw [if_pos hl] at e
  split at e
  · rename_i env' s1 h1
    cases e
    exact ⟨ρ, _, st, .nx, env', st', hR, E0, h1, fun σ' H' ρ' e' R' _ => p .non H' ρ' e' R' Rep.non⟩
  · rename_i w1 env' s1 h1
    cases e
    exact ⟨ρ, _, st, .rt w1, env', st', hR, E0, h1, p⟩
  · rename_i x1 env' s1 h1
    cases e
    exact ⟨ρ, _, st, .exc x1, env', st', hR, E0, h1, fun c d _ H' ρ' e' R' q => p c d H' ρ' e' R' q⟩
  · cases e
end
section
variable {X : Cx} {EX : XR} {U : WX} {k : Nat} {f : Addr} {fd : FuncData} {ps : List Str} {x : Str} {p pos : Pos} {e : Expr} {es : List Expr}
theorem runG {sp : Sp} {pins : List (Addr × Obj)} {σ : L2.St} {H : Hp} {s : Shared} {Q : VK} {us : List Value} {vs : List V} (Fn : FnG X.prog X.w X.K X.mg X.base k f fd ps sp) (hgd : X.A.guards = some []) (hr : Room k X.A) (hb : Binds X.K fd ps []) (tk : Takes X U)
    (I : Inv X pins σ H s) (r : Vals vs us) (h : sp vs H Q (fun cls d H' => U cls d σ H')) : wpAny (model X.prog X.w) X.A (call (.ref f) us) (EP X pins σ Q) X.xe s := by
  have hl : us.length = ps.length := by rw [← r.length]; exact Fn.len _ _ _ _ h
  have hbi := hb s us I.kIn (by rw [List.append_nil]; exact hl)
  rw [List.append_nil] at hbi
  refine wpAny_call (codeAny_mono (Fn.run X.A X.stack s H _ us vs Q _ hgd hr I.env0 hbi r h) fun ro s' z => ?_)
  cases ro with
  | error u => exact tk u s' (XE.of_call I (fun _ _ _ q => q) z)
  | ok fl =>
    cases fl with
    | ret u => exact I.after z
    | next => exact z.elim
    | brk => exact z.elim
    | cont => exact z.elim
theorem pd_call {g : OC} {fa : FA} (Fn : FnG X.prog X.w X.K X.mg X.base k f fd ps (spI X.K EX g)) (hgd : X.A.guards = some []) (hr : Room k X.A) (hg : Gl X x) (hm : X.mg x = some (.ref f)) (hk : PySem.W.keepIn X.K (.ref f) = true) (hb : Binds X.K fd ps []) (tk : Takes X U)
    (ha : PDA X EX U (e :: es) fa) (hdb : (x == ("__debug__" : Str)) = false := by decide) (h1 : starEach (e :: es) X.env = (false, eval e X.env) :: starEach es X.env := by rfl) (h2 : (backTo pos (starEach es X.env)).any (·.1) = false := by rfl) :
    PD X EX U (.Call (.Name x p) (e :: es) [] pos) (fCB g fa) := by
  refine ⟨fun pins s σ H Q I h => ?_⟩
  refine wpAny_Call_Name_kw (ld_glob I hg hm ?_ hdb)
  have h' := tG_bind (r1 := RepAll X.K) (g := fun env ws st => g ws st) h
  refine PySem.W.callWith_K (h₀ := X.base) I.ok.mod.kin hk (thn (ha.run pos pins s σ H _ I h') fun us s1 z => ?_) h1 h2
  obtain ⟨vs, H1, I1, rv, ρ, env, st, ws, r', st', hR, E, rw', e, p⟩ := z
  refine ⟨I1.kIn, runG Fn hgd hr hb tk I1 rv ⟨ρ, st, ws, r', st', hR, rw', e, ?_⟩⟩
  cases r' with
  | ok w => exact p
  | exc x => exact p
theorem pd_call0 {g : OC} (Fn : FnG X.prog X.w X.K X.mg X.base k f fd ps (spI X.K EX g)) (hgd : X.A.guards = some []) (hr : Room k X.A) (hg : Gl X x) (hm : X.mg x = some (.ref f)) (hk : PySem.W.keepIn X.K (.ref f) = true) (hb : Binds X.K fd ps []) (tk : Takes X U) (hdb : (x == ("__debug__" : Str)) = false := by decide) :
    PD X EX U (.Call (.Name x p) [] [] pos) (fCB g fNil) := by
  refine ⟨fun pins s σ H Q I h => ?_⟩
  refine wpAny_Call_Name_kw (ld_glob I hg hm ?_ hdb)
  obtain ⟨ρ, env, st, r', st', hR, E, e, p⟩ := h
  refine PySem.W.callWith_K0 I.kIn hk (runG (us := []) Fn hgd hr hb tk I .nil ⟨ρ, st, [], r', st', hR, .nil, e, ?_⟩)
  cases r' with
  | ok w => exact p
  | exc x => exact p
end
/-- a def that is known by its name -/
def Kn (P : Program) (w : World) (K : PySem.W.Frag) (mg : Str → Option Value) (base : Heap) (EX : XR) (x : Str) (k : Nat) (ps : List Str) (g : OC) : Prop :=
  ∃ (f : Addr) (fd : FuncData), mg x = some (.ref f) ∧ PySem.W.keepIn K (.ref f) = true ∧ Binds K fd ps [] ∧ FnG P w K mg base k f fd ps (spI K EX g)
section
variable {P : Program} {w : World} {K : PySem.W.Frag} {mg : Str → Option Value} {base : Heap} {k : Nat} {f : Addr} {x qual : Str} {params : Arguments} {body : List Stmt} {scope : Scope} {kws : List (Str × V)} {fd : FuncData} {N ps : List Str} {EX : XR}
theorem kn_of {fb : FS} {g : OC} (Fn : FunD K x qual params body scope [] kws f fd) (hm : mg x = some (.ref f)) (hb : Binds K fd ps []) (S : FnScope N ps scope) (hg : g = mkF ps.length N.length fb)
    (hp : ∀ (cdv : Value) (A : Around) (ou : List Env) (s : Shared) (H : Hp) (E : XK), A.guards = some [] → Room k (A.deeper (envOfC qual scope s.heap.objs.size f cdv)) →
      PDB (cxOf (L2.CX P w) P w K mg base N qual scope f cdv A ou s H E) EX (fun cls d _ H => E cls d H) body fb) : Kn P w K mg base EX x (k + 1) ps g :=
  ⟨f, fd, hm, Fn.kp, hb, hg ▸ fnI_of Fn S hp⟩
theorem fnJ_of {fb : FS} {g : OC} (Fn : FunD K x qual params body scope [] kws f fd) (S : FnScope N ps scope) (hg : g = mkF ps.length N.length fb)
    (hp : ∀ (cdv : Value) (A : Around) (ou : List Env) (s : Shared) (H : Hp) (E : XK), A.guards = some [] → Room k (A.deeper (envOfC qual scope s.heap.objs.size f cdv)) →
      PDB (cxOf (L2.CX P w) P w K mg base N qual scope f cdv A ou s H E) EX (fun cls d _ H => E cls d H) body fb) : FnG P w K mg base (k + 1) f fd ps (spI K EX g) := hg ▸ fnI_of Fn S hp
end
section
variable {X : Cx} {EX : XR} {U : WX} {k : Nat} {ps : List Str} {x : Str} {p pos : Pos} {e : Expr} {es : List Expr}
theorem pd_callK {g : OC} {fa : FA} (h : Kn X.prog X.w X.K X.mg X.base EX x k ps g) (hgd : X.A.guards = some []) (hr : Room k X.A) (hg : Gl X x) (tk : Takes X U)
    (ha : PDA X EX U (e :: es) fa) (hdb : (x == ("__debug__" : Str)) = false := by decide) (h1 : starEach (e :: es) X.env = (false, eval e X.env) :: starEach es X.env := by rfl) (h2 : (backTo pos (starEach es X.env)).any (·.1) = false := by rfl) :
    PD X EX U (.Call (.Name x p) (e :: es) [] pos) (fCB g fa) := by
  obtain ⟨f, fd, hm, hk, hb, Fn⟩ := h
  exact pd_call Fn hgd hr hg hm hk hb tk ha hdb h1 h2
theorem pd_callK0 {g : OC} (h : Kn X.prog X.w X.K X.mg X.base EX x k ps g) (hgd : X.A.guards = some []) (hr : Room k X.A) (hg : Gl X x) (tk : Takes X U) (hdb : (x == ("__debug__" : Str)) = false := by decide) :
    PD X EX U (.Call (.Name x p) [] [] pos) (fCB g fNil) := by
  obtain ⟨f, fd, hm, hk, hb, Fn⟩ := h
  exact pd_call0 Fn hgd hr hg hm hk hb tk hdb
/-- a constant of the module -/
def CN (K : PySem.W.Frag) (mg : Str → Option Value) (x : Str) (w : W) : Prop := ∃ (u : Value) (v : V), mg x = some u ∧ RelV v u ∧ ∀ H ρ, Rep K H ρ w v
theorem pd_con {w : W} (h : CN X.K X.mg x w) (hg : Gl X x) (hd : (x == ("__debug__" : Str)) = false := by decide) : PD X EX U (.Name x pos) (fC w) := by
  obtain ⟨u, v, hm, r, hr⟩ := h
  exact pd_glob hg hm r hr hd
end
theorem hu65 {A : Around} {k : Nat} (hr : Room k A) : A.units + 65 < cLine := by have := hr.un; omega
end DI

namespace DI
open PySem L2 PySem.Spec PyProof.Rows

/-! ### the law itself, at the heap behind the top -/
theorem ints_rep {K : PySem.W.Frag} {H : Hp} {ρ : List Addr} : ∀ ns : List Int, RepAll K H ρ (ns.map W.int) (ns.map V.int)
  | [] => .nil
  | n :: ns => .cons (.int n) (ints_rep ns)
theorem lawG {P : Program} {w : World} {K : PySem.W.Frag} {mg mb : Str → Option Value} {EX : XR} {k : Nat} {fa a : Addr} {fd : FuncData} {x : Str} {g : OC} {s1 : Shared} {vs : List Value} {ns : List Int} {st' : Sto}
    (kx : K.In s1.heap) (gm : s1.heap.Ns mainGlobals mg) (gb : s1.heap.Ns builtinsNs mb) (bb : ∀ y : Str, y ≠ "__name__" → mb y = bootBuiltins y) (nl : s1.heap.NoLimit) (ge : s1.gens = #[])
    (ha : s1.heap.get? a = some { cls := .type "list", data := .seq vs.toArray }) (hi : IntsAre vs ns) (hl : ns.length ≤ sizeLine) (hr : Room k callerA)
    (Fn : ∀ base : Heap, K.In base → base.Ns mainGlobals mg → FnG P w K mg base k fa fd [x] (spI K EX g)) (bd : ∀ (s : Shared) (u : Value), BindsTo s fd ⟨[u], []⟩ [(x, u)])
    (he : g [.ils (ns.map W.int)] [] = some (.ok (.bl true), st')) :
    codeAny (model P w) callerA (.call (.ref fa) ⟨[.ref a], []⟩) (fun r s' => r = .ok (.ret (.bool true)) ∧ OldK s1.heap s'.heap ∧ s'.os = s1.os ∧ AllBare s'.gens) s1 := by
  have rv := vals_ints hi
  have lv := hi.length
  have main : ∀ H : Hp, (∀ b, H b = none ∨ (b = a ∧ ∃ o u, H b = some (.frz o u))) → FzL K H a (ns.map V.int) → HOk P w H s1.heap → (H a ≠ none → K.lookup a = none) →
      codeAny (model P w) callerA (.call (.ref fa) ⟨[.ref a], []⟩) (fun r s' => r = .ok (.ret (.bool true)) ∧ OldK s1.heap s'.heap ∧ s'.os = s1.os ∧ AllBare s'.gens) s1 := by
    intro H one fz ok hk
    have seen : ∀ {b : Addr} {o : Obj}, s1.heap.get? b = some o → H b = none → (hidT s1.heap H).get? b = some o := fun q n => hidT_get q n
    have dic : ∀ {b : Addr} {o : Obj} {es : Array DictEntry} {ep : Nat}, s1.heap.get? b = some o → o.data = .dict es ep → H b = none := fun {b o es ep} q d => by
      rcases one b with z | ⟨rfl, _⟩
      · exact z
      · rw [ha] at q
        cases q
        cases (show Data.seq vs.toArray _ = Data.dict es ep from d)
    have nsK : ∀ {b : Addr} {m : Str → Option Value}, s1.heap.Ns b m → (hidT s1.heap H).Ns b m := fun {b m} ⟨o, es, ep, q, d, r⟩ => ⟨o, es, ep, seen q (dic q d), d, r⟩
    have kb : K.In (hidT s1.heap H) := fun b o q => seen (kx b o q) (by
      rcases one b with z | ⟨rfl, o', u, z⟩
      · exact z
      · rw [hk (by rw [z]; simp)] at q
        cases q)
    have md : Mod K mg (hidT s1.heap H) := ⟨kb, nsK gm, ⟨mb, nsK gb, bb⟩, let ⟨mc, h1, h2⟩ := nl; ⟨mc, nsK h1, h2⟩⟩
    have e0 : Env0 P w K mg (hidT s1.heap H) callerA [] s1 H := by
      refine ⟨rfl, md, fun b o q => of_hidT q, Nat.le_of_eq (hidT_size _ _), trivial, fun b z => ?_, ok, .of_eq ge⟩
      cases (show b ∈ ([] : List Addr) from z)
    have sp : spI K EX g [.ref a] H (fun v _ => v = .bl true) (fun _ _ _ => False) :=
      ⟨[], [], [.ils (ns.map W.int)], .ok (.bl true), st', ⟨rfl, List.nodup_nil, fun n b o q _ => by simp at q⟩, .cons (.ils fz (ints_rep ns)) .nil, he, fun v _ _ _ _ q => by cases q; rfl⟩
    refine codeAny_mono ((Fn _ kb (nsK gm)).run callerA [] s1 H ⟨[.ref a], []⟩ [.ref a] [.ref a] _ _ rfl hr e0 (bd s1 (.ref a)) (.cons rfl .nil) sp) fun r s' z => ?_
    cases r with
    | error u =>
      obtain ⟨_, _, _, _, _, _, _, _, _, _, _, _, q⟩ := z
      exact q.elim
    | ok fl =>
      cases fl with
      | ret u =>
        obtain ⟨v, H', os, ba, un, ok', rr, q⟩ := z
        cases (show v = .bl true from q)
        cases (show u = Value.bool true from rr)
        refine ⟨rfl, OldK.of_keep fun b o hb => ?_, os, ba⟩
        rcases one b with q | ⟨rfl, ob, u, q⟩
        · exact un.keep b o hb q (fun z => by cases (show b ∈ ([] : List Addr) from z)) (by simp)
        · obtain ⟨e1, _⟩ := ok _ _ q
          obtain ⟨e2, _⟩ := ok' _ _ (un.frzs _ ob _ q)
          rw [hb] at e1
          cases e1
          exact e2
      | next => exact z.elim
      | brk => exact z.elim
      | cont => exact z.elim
  cases hk : K.lookup a with
  | some o =>
    have q := kx a o hk
    rw [ha] at q
    cases q
    exact main (fun _ => none) (fun _ => .inl rfl) (.inr ⟨_, vs.toArray, _, hk, rfl, rfl, rfl, by rw [List.size_toArray, lv]; exact hl, by simpa using rv⟩) (fun b u z => by cases (show (none : Option HO) = some u from z)) fun z => absurd rfl z
  | none =>
    refine main (fun b => if b = a then some (.frz { cls := .type "list", data := .seq vs.toArray } (.lst (ns.map V.int))) else none) (fun b => ?_) (.inl ⟨_, if_pos rfl⟩) (fun b u z => ?_) fun _ => hk
    · by_cases hb : b = a
      · exact .inr ⟨hb, _, _, if_pos hb⟩
      · exact .inl (if_neg hb)
    · by_cases hb : b = a
      · cases (if_pos hb).symm.trans z
        rw [hb]
        exact ⟨ha, by rw [List.length_map]; exact hl, vs, _, rv, ha⟩
      · cases (if_neg hb).symm.trans z
theorem walkG {l : PySem.W.OpenLaw} {n k : Nat} {q : Program} {loose : List Str} {XP : (Str → Option Value) → Heap → Prop} {YP : World → Heap → Prop} {d : DefRec} {EX : XR} {x : Str} {g : OC}
    (hn : l.most = some n) (hn2 : n ≤ sizeLine) (hdf : d.params.defaults = []) (hr : Room k callerA)
    (Fn : ∀ (w : World) (mg : Str → Option Value) (fa : Addr) (h : Heap), YP w h → h.Ns mainGlobals mg → mg d.name = some (.ref fa) →
      ∃ (K : PySem.W.Frag) (fd : FuncData), K.In h ∧ (∀ (s : Shared) (u : Value), BindsTo s fd ⟨[u], []⟩ [(x, u)]) ∧ ∀ base : Heap, K.In base → base.Ns mainGlobals mg → FnG l.prog w K mg base k fa fd [x] (spI K EX g))
    (he : ∀ ns : List Int, ns.length ≤ n → ∃ st', g [.ils (ns.map W.int)] [] = some (.ok (.bl true), st')) :
    PySem.W.WalkO q loose XP YP l.row.toRowW d [] (fun f vs => PySem.call f vs) := by
  refine Att.attach_call hn hdf ?_
  intro w s0 s1 mg mb fa o pm cd doc a vs ns G Y ho hd hcd hmg hobj hints hlen hg
  obtain ⟨K, fd, kx, bd, hF⟩ := Fn w mg fa _ Y G.T.g hmg
  obtain ⟨st', e⟩ := he ns hlen
  exact lawG kx G.T.g G.T.b G.T.builtins G.T.nolimit hg hobj hints (Nat.le_trans hlen hn2) hr hF bd e

/-! ### constants of the written part -/
def relWs (f : W → Value → Bool) : List W → List Value → Bool
  | [], [] => true
  | w :: ws, u :: us => f w u && relWs f ws us
  | _, _ => false
def relW (K : PySem.W.Frag) : Nat → W → Value → Bool
  | 0, _, _ => false
  | n + 1, w, u => match w, u with
    | .non, .none => true
    | .bl b, .bool c => b == c
    | .int i, .int j _ => decide (i = j)
    | .str x, .str y _ => decide (x = y)
    | .tup ws, .ref a => match K.lookup a with
      | some o => (o.cls == .type "tuple") && (match o.data with
        | .seq its _ => decide (its.size ≤ sizeLine) && relWs (relW K n) ws its.toList
        | _ => false)
      | none => false
    | _, _ => false
theorem relWs_ok {K : PySem.W.Frag} {f : W → Value → Bool} (hf : ∀ w u, f w u = true → ∃ v, RelV v u ∧ ∀ H ρ, Rep K H ρ w v) : ∀ (ws : List W) (us : List Value), relWs f ws us = true → ∃ vs, Vals vs us ∧ ∀ H ρ, RepAll K H ρ ws vs
  | [], [], _ => ⟨[], .nil, fun _ _ => .nil⟩
  | [], _ :: _, h => by cases h
  | _ :: _, [], h => by cases h
  | w :: ws, u :: us, h => by
    unfold relWs at h
    rw [Bool.and_eq_true] at h
    obtain ⟨v, h1, h2⟩ := hf w u h.1
    obtain ⟨vs, h3, h4⟩ := relWs_ok hf ws us h.2
    exact ⟨v :: vs, .cons h1 h3, fun H ρ => .cons (h2 H ρ) (h4 H ρ)⟩
theorem relW_ok {K : PySem.W.Frag} : ∀ (n : Nat) (w : W) (u : Value), relW K n w u = true → ∃ v, RelV v u ∧ ∀ H ρ, Rep K H ρ w v
  | 0, _, _, h => by cases h
  | n + 1, w, u, h => by
    unfold relW at h
    split at h
    · exact ⟨.non, rfl, fun _ _ => .non⟩
    · rename_i b c
      have e : b = c := by simpa using h
      subst e
      exact ⟨.bl b, rfl, fun _ _ => .bl b⟩
    · rename_i i j t
      have e : i = j := of_decide_eq_true h
      subst e
      exact ⟨.int i, ⟨t, rfl⟩, fun _ _ => .int i⟩
    · rename_i x y t
      have e : x = y := of_decide_eq_true h
      subst e
      exact ⟨.str x, ⟨t, rfl⟩, fun _ _ => .str x⟩
    · rename_i ws a
      split at h
      · rename_i o ho
        rw [Bool.and_eq_true] at h
        obtain ⟨hc, h⟩ := h
        have hc : o.cls = .type "tuple" := eq_of_beq hc
        split at h
        · rename_i its m hd
          rw [Bool.and_eq_true] at h
          obtain ⟨vs, h1, h2⟩ := relWs_ok (relW_ok n) ws its.toList h.2
          exact ⟨.ref a, rfl, fun H ρ => .tup (.inr ⟨o, its, m, ho, hc, hd, of_decide_eq_true h.1, h1⟩) (h2 H ρ)⟩
        · cases h
      · cases h
    · cases h
def conW (K : PySem.W.Frag) (x : Str) (w : W) : Bool := match PySem.W.nsIn K mainGlobals x with
  | some (some u) => relW K 8 w u
  | _ => false
theorem conW_ok {K : PySem.W.Frag} {h : Heap} {mg : Str → Option Value} (X : K.In h) (G : h.Ns mainGlobals mg) {x : Str} {w : W} (c : conW K x w = true) : CN K mg x w := by
  unfold conW at c
  split at c
  · rename_i u hu
    obtain ⟨v, h1, h2⟩ := relW_ok 8 w u c
    exact ⟨u, v, PySem.W.mg_of X G hu, h1, h2⟩
  · cases c
def consB (cs : List (Str × W)) (K : PySem.W.Frag) : Bool := cs.all fun c => conW K c.1 c.2
theorem consB_ok {cs : List (Str × W)} {K : PySem.W.Frag} {h : Heap} {mg : Str → Option Value} (X : K.In h) (G : h.Ns mainGlobals mg) (c : consB cs K = true) (i : Nat) {x : Str} {w : W} (e : cs[i]? = some (x, w) := by rfl) : CN K mg x w :=
  conW_ok X G (List.all_eq_true.mp c (x, w) (List.mem_of_getElem? e))
end DI

namespace K01
open PySem L2 PySem.Spec PyProof.Rows DI
def top (i : Nat) : Stmt := PySem.Challenge.pw_factsandfar_k01_concepts_and_axioms.main.body.getD i (.Pass ⟨0, 0, 0, 0⟩)
def c_LETTERS : W := (.str "abcdefghijklmnopqrstuvwxyz")
def c_MOST_CHARACTERS : W := (.int 8)
def c_CONCEPT_FORMS : W := (.tup [(.tup [(.str "concept"), (.int 2)]), (.tup [(.str "out"), (.int 2)]), (.tup [(.str "in"), (.int 2)])])
def c_DIRECTION_FORMS : W := (.tup [(.tup [(.str "out"), (.int 2)]), (.tup [(.str "in"), (.int 2)])])
def c_AXIOM_FORMS : W := (.tup [(.tup [(.str "subclass"), (.int 3)]), (.tup [(.str "disjoint"), (.int 3)]), (.tup [(.str "subrole"), (.int 3)]), (.tup [(.str "subrole_inverse"), (.int 3)]), (.tup [(.str "disjoint_roles"), (.int 3)]), (.tup [(.str "disjoint_inverse"), (.int 3)]), (.tup [(.str "functional"), (.int 2)])])

/-! ### consists_of -/
abbrev s_consists_of : Stmt := top 3
def b_consists_of : FS := (fSeq (fIfS (fOrT (fNotT (fTest (fIsi "str" (fVar 0)))) (fNotT (fTest (fChain opLe opLe (fC (.int 1)) (fCB opLen (fCons (fVar 0) fNil)) (fC c_MOST_CHARACTERS))))) (fRet (fC (.bl false))) fNext)
      (fRet (fCB opAll (fCons (fLc (fVar 0) 2 fYes (fOp opIn (fVar 2) (fVar 1))) fNil))))
def d_consists_of : OC := mkF 2 3 b_consists_of
theorem sc_consists_of : FnScope ["candidate", "characters", "character"] ["candidate", "characters"] (defScope s_consists_of) := ⟨rfl, rfl, rfl, by decide +kernel, rfl, by decide +kernel, by decide +kernel⟩
theorem kn_consists_of {P : Program} {w : World} {K : PySem.W.Frag} {mg : Str → Option Value} {base : Heap} {EX : XR} {f : Addr} {fd : FuncData} (Fn : FunD K "consists_of" "consists_of" (defArgs s_consists_of) (defBody s_consists_of) (defScope s_consists_of) [] [] f fd) (hm : mg "consists_of" = some (.ref f)) (g_MOST_CHARACTERS : CN K mg "MOST_CHARACTERS" c_MOST_CHARACTERS) (f_isinstance : mg "isinstance" = none) (f_str : mg "str" = none) (f_len : mg "len" = none) (f_all : mg "all" = none) :
    Kn P w K mg base EX "consists_of" 1 ["candidate", "characters"] d_consists_of := by
  refine kn_of Fn hm (Fn.bindsN fun _ _ _ _ _ _ us hl => match us, hl with | [_, _], _ => rfl) sc_consists_of rfl fun cdv A ou s H E hgd hr => ?_
  have nd := sc_consists_of.nd
  have hgd : (cxOf (L2.CX P w) P w K mg base ["candidate", "characters", "character"] "consists_of" (defScope s_consists_of) f cdv A ou s H E).A.guards = some [] := hgd
  have tk : Takes (cxOf (L2.CX P w) P w K mg base ["candidate", "characters", "character"] "consists_of" (defScope s_consists_of) f cdv A ou s H E) (fun cls d _ H => E cls d H) := takes_of rfl rfl rfl rfl
  have hpo : PassesOwn (model P w) (cxOf (L2.CX P w) P w K mg base ["candidate", "characters", "character"] "consists_of" (defScope s_consists_of) f cdv A ou s H E).A (cxOf (L2.CX P w) P w K mg base ["candidate", "characters", "character"] "consists_of" (defScope s_consists_of) f cdv A ou s H E).env (cxOf (L2.CX P w) P w K mg base ["candidate", "characters", "character"] "consists_of" (defScope s_consists_of) f cdv A ou s H E).xe := passes_of rfl
  exact (pdb_cons (pds_if (PW.pt (pdw_or (pdt_not (pdt_val (pd_isi (T := "str") (pd_var 0) rfl f_isinstance rfl f_str (by decide +kernel)))) (pdw_or1 (pdt_not (pdt_chain op_le opr_I0b nox_I op_le opr_I0b nox_I pd_int (pd_callB call_len clr_len nox_len (by rfl) f_len PySem.boot_len (pda_cons (pd_var 0) pda_nil)) (pd_con g_MOST_CHARACTERS rfl)))))) (pdb_one (pds_ret pd_bl)) pdb_nil)
      (pdb_one (pds_ret (pd_callB (cr_all rfl) clr_all nox_all (by rfl) f_all (by decide +kernel) (pda_cons (pd_lc rfl nd (blkOk_by (N := ["candidate", "characters", "character"]) (sc := defScope s_consists_of) (by decide +kernel)) (pd_var 0) (fun _ _ _ _ _ => pg_name (i := 2) nd rfl (Or.inl rfl)) (fun _ _ _ _ _ => pdts_nil) (fun _ _ _ _ _ => (pd_cmp (op_in2 (hu65 hr)) opr_in nox_in (pd_var 2) (pd_var 1) (by rfl)))) pda_nil)))))

/-! ### is_word -/
abbrev s_is_word : Stmt := top 4
def b_is_word : FS := (fRet (fCB d_consists_of (fCons (fVar 0) (fCons (fC c_LETTERS) fNil))))
def d_is_word : OC := mkF 1 1 b_is_word
theorem sc_is_word : FnScope ["candidate"] ["candidate"] (defScope s_is_word) := ⟨rfl, rfl, rfl, by decide +kernel, rfl, by decide +kernel, by decide +kernel⟩
theorem kn_is_word {P : Program} {w : World} {K : PySem.W.Frag} {mg : Str → Option Value} {base : Heap} {EX : XR} {f : Addr} {fd : FuncData} (Fn : FunD K "is_word" "is_word" (defArgs s_is_word) (defBody s_is_word) (defScope s_is_word) [] [] f fd) (hm : mg "is_word" = some (.ref f)) (g_LETTERS : CN K mg "LETTERS" c_LETTERS) (k_consists_of : Kn P w K mg base EX "consists_of" 1 ["candidate", "characters"] d_consists_of) :
    Kn P w K mg base EX "is_word" 2 ["candidate"] d_is_word := by
  refine kn_of Fn hm (Fn.bindsN fun _ _ _ _ _ _ us hl => match us, hl with | [_], _ => rfl) sc_is_word rfl fun cdv A ou s H E hgd hr => ?_
  have nd := sc_is_word.nd
  have hgd : (cxOf (L2.CX P w) P w K mg base ["candidate"] "is_word" (defScope s_is_word) f cdv A ou s H E).A.guards = some [] := hgd
  have tk : Takes (cxOf (L2.CX P w) P w K mg base ["candidate"] "is_word" (defScope s_is_word) f cdv A ou s H E) (fun cls d _ H => E cls d H) := takes_of rfl rfl rfl rfl
  have hpo : PassesOwn (model P w) (cxOf (L2.CX P w) P w K mg base ["candidate"] "is_word" (defScope s_is_word) f cdv A ou s H E).A (cxOf (L2.CX P w) P w K mg base ["candidate"] "is_word" (defScope s_is_word) f cdv A ou s H E).env (cxOf (L2.CX P w) P w K mg base ["candidate"] "is_word" (defScope s_is_word) f cdv A ou s H E).xe := passes_of rfl
  exact (pdb_one (pds_ret (pd_callK k_consists_of hgd (hr.mono (by decide)) rfl tk (pda_cons (pd_var 0) (pda_cons (pd_con g_LETTERS rfl) pda_nil)))))

/-! ### tag_of -/
abbrev s_tag_of : Stmt := top 5
def b_tag_of : FS := (fSeq (fIfS (fOrT (fNotT (fTest (fIsi "tuple" (fVar 0)))) (fTest (fOp opEqD (fCB opLen (fCons (fVar 0) fNil)) (fC (.int 0))))) (fRet (fC .non)) fNext)
      (fSeq (fSet 2 (fOp opIx (fVar 0) (fC (.int 0))))
      (fSeq (fIfS (fAndT (fTest (fIsi "str" (fVar 2))) (fTest (fOp opIn (fTup (fCons (fVar 2) (fCons (fCB opLen (fCons (fVar 0) fNil)) fNil))) (fVar 1)))) (fRet (fVar 2)) fNext)
      (fRet (fC .non)))))
def d_tag_of : OC := mkF 2 3 b_tag_of
theorem sc_tag_of : FnScope ["candidate", "forms", "tag"] ["candidate", "forms"] (defScope s_tag_of) := ⟨rfl, rfl, rfl, by decide +kernel, rfl, by decide +kernel, by decide +kernel⟩
theorem kn_tag_of {P : Program} {w : World} {K : PySem.W.Frag} {mg : Str → Option Value} {base : Heap} {EX : XR} {f : Addr} {fd : FuncData} (Fn : FunD K "tag_of" "tag_of" (defArgs s_tag_of) (defBody s_tag_of) (defScope s_tag_of) [] [] f fd) (hm : mg "tag_of" = some (.ref f)) (f_isinstance : mg "isinstance" = none) (f_tuple : mg "tuple" = none) (f_len : mg "len" = none) (f_str : mg "str" = none) :
    Kn P w K mg base EX "tag_of" 1 ["candidate", "forms"] d_tag_of := by
  refine kn_of Fn hm (Fn.bindsN fun _ _ _ _ _ _ us hl => match us, hl with | [_, _], _ => rfl) sc_tag_of rfl fun cdv A ou s H E hgd hr => ?_
  have nd := sc_tag_of.nd
  have hgd : (cxOf (L2.CX P w) P w K mg base ["candidate", "forms", "tag"] "tag_of" (defScope s_tag_of) f cdv A ou s H E).A.guards = some [] := hgd
  have tk : Takes (cxOf (L2.CX P w) P w K mg base ["candidate", "forms", "tag"] "tag_of" (defScope s_tag_of) f cdv A ou s H E) (fun cls d _ H => E cls d H) := takes_of rfl rfl rfl rfl
  have hpo : PassesOwn (model P w) (cxOf (L2.CX P w) P w K mg base ["candidate", "forms", "tag"] "tag_of" (defScope s_tag_of) f cdv A ou s H E).A (cxOf (L2.CX P w) P w K mg base ["candidate", "forms", "tag"] "tag_of" (defScope s_tag_of) f cdv A ou s H E).env (cxOf (L2.CX P w) P w K mg base ["candidate", "forms", "tag"] "tag_of" (defScope s_tag_of) f cdv A ou s H E).xe := passes_of rfl
  exact (pdb_cons (pds_if (PW.pt (pdw_or (pdt_not (pdt_val (pd_isi (T := "tuple") (pd_var 0) rfl f_isinstance rfl f_tuple (by decide +kernel)))) (pdw_or1 (pdt_cmp (op_eq2 hr.units) opr_eq2 nox_eq2 (pd_callB call_len clr_len nox_len (by rfl) f_len PySem.boot_len (pda_cons (pd_var 0) pda_nil)) pd_int (nomark _))))) (pdb_one (pds_ret pd_non)) pdb_nil)
      (pdb_cons (pds_set (i := 2) nd rfl (by first | exact Or.inl rfl | exact Or.inr rfl) (pd_ix (pd_var 0) pd_int))
      (pdb_cons (pds_if (PW.pt (pdw_and (pdt_val (pd_isi (T := "str") (pd_var 2) rfl f_isinstance rfl f_str (by decide +kernel))) (pdw_and1 (pdt_cmp (op_in2 (hu65 hr)) opr_in nox_in (pd_tup (pda_cons (pd_var 2) (pda_cons (pd_callB call_len clr_len nox_len (by rfl) f_len PySem.boot_len (pda_cons (pd_var 0) pda_nil)) pda_nil))) (pd_var 1) (by rfl))))) (pdb_one (pds_ret (pd_var 2))) pdb_nil)
      (pdb_one (pds_ret pd_non)))))

/-! ### is_concept -/
abbrev s_is_concept : Stmt := top 10
def b_is_concept : FS := (fRet (fAnd (fOp opNotN (fCB d_tag_of (fCons (fVar 0) (fCons (fC c_CONCEPT_FORMS) fNil))) (fC .non)) (fCB d_is_word (fCons (fOp opIx (fVar 0) (fC (.int 1))) fNil))))
def d_is_concept : OC := mkF 1 1 b_is_concept
theorem sc_is_concept : FnScope ["candidate"] ["candidate"] (defScope s_is_concept) := ⟨rfl, rfl, rfl, by decide +kernel, rfl, by decide +kernel, by decide +kernel⟩
theorem kn_is_concept {P : Program} {w : World} {K : PySem.W.Frag} {mg : Str → Option Value} {base : Heap} {EX : XR} {f : Addr} {fd : FuncData} (Fn : FunD K "is_concept" "is_concept" (defArgs s_is_concept) (defBody s_is_concept) (defScope s_is_concept) [] [] f fd) (hm : mg "is_concept" = some (.ref f)) (g_CONCEPT_FORMS : CN K mg "CONCEPT_FORMS" c_CONCEPT_FORMS) (k_tag_of : Kn P w K mg base EX "tag_of" 1 ["candidate", "forms"] d_tag_of) (k_is_word : Kn P w K mg base EX "is_word" 2 ["candidate"] d_is_word) :
    Kn P w K mg base EX "is_concept" 3 ["candidate"] d_is_concept := by
  refine kn_of Fn hm (Fn.bindsN fun _ _ _ _ _ _ us hl => match us, hl with | [_], _ => rfl) sc_is_concept rfl fun cdv A ou s H E hgd hr => ?_
  have nd := sc_is_concept.nd
  have hgd : (cxOf (L2.CX P w) P w K mg base ["candidate"] "is_concept" (defScope s_is_concept) f cdv A ou s H E).A.guards = some [] := hgd
  have tk : Takes (cxOf (L2.CX P w) P w K mg base ["candidate"] "is_concept" (defScope s_is_concept) f cdv A ou s H E) (fun cls d _ H => E cls d H) := takes_of rfl rfl rfl rfl
  have hpo : PassesOwn (model P w) (cxOf (L2.CX P w) P w K mg base ["candidate"] "is_concept" (defScope s_is_concept) f cdv A ou s H E).A (cxOf (L2.CX P w) P w K mg base ["candidate"] "is_concept" (defScope s_is_concept) f cdv A ou s H E).env (cxOf (L2.CX P w) P w K mg base ["candidate"] "is_concept" (defScope s_is_concept) f cdv A ou s H E).xe := passes_of rfl
  exact (pdb_one (pds_ret (pd_and (pd_cmp op_notN' opr_notN nox_notN (pd_callK k_tag_of hgd (hr.mono (by decide)) rfl tk (pda_cons (pd_var 0) (pda_cons (pd_con g_CONCEPT_FORMS rfl) pda_nil))) pd_non (nomark _)) (pd_one (pd_callK k_is_word hgd (hr.mono (by decide)) rfl tk (pda_cons (pd_ix (pd_var 0) pd_int) pda_nil))))))

/-! ### is_direction -/
abbrev s_is_direction : Stmt := top 11
def b_is_direction : FS := (fRet (fAnd (fOp opNotN (fCB d_tag_of (fCons (fVar 0) (fCons (fC c_DIRECTION_FORMS) fNil))) (fC .non)) (fCB d_is_word (fCons (fOp opIx (fVar 0) (fC (.int 1))) fNil))))
def d_is_direction : OC := mkF 1 1 b_is_direction
theorem sc_is_direction : FnScope ["candidate"] ["candidate"] (defScope s_is_direction) := ⟨rfl, rfl, rfl, by decide +kernel, rfl, by decide +kernel, by decide +kernel⟩
theorem kn_is_direction {P : Program} {w : World} {K : PySem.W.Frag} {mg : Str → Option Value} {base : Heap} {EX : XR} {f : Addr} {fd : FuncData} (Fn : FunD K "is_direction" "is_direction" (defArgs s_is_direction) (defBody s_is_direction) (defScope s_is_direction) [] [] f fd) (hm : mg "is_direction" = some (.ref f)) (g_DIRECTION_FORMS : CN K mg "DIRECTION_FORMS" c_DIRECTION_FORMS) (k_tag_of : Kn P w K mg base EX "tag_of" 1 ["candidate", "forms"] d_tag_of) (k_is_word : Kn P w K mg base EX "is_word" 2 ["candidate"] d_is_word) :
    Kn P w K mg base EX "is_direction" 3 ["candidate"] d_is_direction := by
  refine kn_of Fn hm (Fn.bindsN fun _ _ _ _ _ _ us hl => match us, hl with | [_], _ => rfl) sc_is_direction rfl fun cdv A ou s H E hgd hr => ?_
  have nd := sc_is_direction.nd
  have hgd : (cxOf (L2.CX P w) P w K mg base ["candidate"] "is_direction" (defScope s_is_direction) f cdv A ou s H E).A.guards = some [] := hgd
  have tk : Takes (cxOf (L2.CX P w) P w K mg base ["candidate"] "is_direction" (defScope s_is_direction) f cdv A ou s H E) (fun cls d _ H => E cls d H) := takes_of rfl rfl rfl rfl
  have hpo : PassesOwn (model P w) (cxOf (L2.CX P w) P w K mg base ["candidate"] "is_direction" (defScope s_is_direction) f cdv A ou s H E).A (cxOf (L2.CX P w) P w K mg base ["candidate"] "is_direction" (defScope s_is_direction) f cdv A ou s H E).env (cxOf (L2.CX P w) P w K mg base ["candidate"] "is_direction" (defScope s_is_direction) f cdv A ou s H E).xe := passes_of rfl
  exact (pdb_one (pds_ret (pd_and (pd_cmp op_notN' opr_notN nox_notN (pd_callK k_tag_of hgd (hr.mono (by decide)) rfl tk (pda_cons (pd_var 0) (pda_cons (pd_con g_DIRECTION_FORMS rfl) pda_nil))) pd_non (nomark _)) (pd_one (pd_callK k_is_word hgd (hr.mono (by decide)) rfl tk (pda_cons (pd_ix (pd_var 0) pd_int) pda_nil))))))

/-! ### is_axiom -/
abbrev s_is_axiom : Stmt := top 12
def b_is_axiom : FS := (fSeq (fSet 1 (fCB d_tag_of (fCons (fVar 0) (fCons (fC c_AXIOM_FORMS) fNil))))
      (fSeq (fIfS (fTest (fOp opIsN (fVar 1) (fC .non))) (fRet (fC (.bl false))) fNext)
      (fSeq (fIfS (fTest (fOp opEqD (fVar 1) (fC (.str "functional")))) (fRet (fCB d_is_direction (fCons (fOp opIx (fVar 0) (fC (.int 1))) fNil))) fNext)
      (fSeq (fIfS (fTest (fOp opIn (fVar 1) (fTup (fCons (fC (.str "subclass")) (fCons (fC (.str "disjoint")) fNil))))) (fRet (fAnd (fCB d_is_concept (fCons (fOp opIx (fVar 0) (fC (.int 1))) fNil)) (fCB d_is_concept (fCons (fOp opIx (fVar 0) (fC (.int 2))) fNil)))) fNext)
      (fRet (fAnd (fCB d_is_word (fCons (fOp opIx (fVar 0) (fC (.int 1))) fNil)) (fCB d_is_word (fCons (fOp opIx (fVar 0) (fC (.int 2))) fNil))))))))
def d_is_axiom : OC := mkF 1 2 b_is_axiom
theorem sc_is_axiom : FnScope ["candidate", "tag"] ["candidate"] (defScope s_is_axiom) := ⟨rfl, rfl, rfl, by decide +kernel, rfl, by decide +kernel, by decide +kernel⟩
theorem kn_is_axiom {P : Program} {w : World} {K : PySem.W.Frag} {mg : Str → Option Value} {base : Heap} {EX : XR} {f : Addr} {fd : FuncData} (Fn : FunD K "is_axiom" "is_axiom" (defArgs s_is_axiom) (defBody s_is_axiom) (defScope s_is_axiom) [] [] f fd) (hm : mg "is_axiom" = some (.ref f)) (g_AXIOM_FORMS : CN K mg "AXIOM_FORMS" c_AXIOM_FORMS) (k_tag_of : Kn P w K mg base EX "tag_of" 1 ["candidate", "forms"] d_tag_of) (k_is_direction : Kn P w K mg base EX "is_direction" 3 ["candidate"] d_is_direction) (k_is_concept : Kn P w K mg base EX "is_concept" 3 ["candidate"] d_is_concept) (k_is_word : Kn P w K mg base EX "is_word" 2 ["candidate"] d_is_word) :
    Kn P w K mg base EX "is_axiom" 4 ["candidate"] d_is_axiom := by
  refine kn_of Fn hm (Fn.bindsN fun _ _ _ _ _ _ us hl => match us, hl with | [_], _ => rfl) sc_is_axiom rfl fun cdv A ou s H E hgd hr => ?_
  have nd := sc_is_axiom.nd
  have hgd : (cxOf (L2.CX P w) P w K mg base ["candidate", "tag"] "is_axiom" (defScope s_is_axiom) f cdv A ou s H E).A.guards = some [] := hgd
  have tk : Takes (cxOf (L2.CX P w) P w K mg base ["candidate", "tag"] "is_axiom" (defScope s_is_axiom) f cdv A ou s H E) (fun cls d _ H => E cls d H) := takes_of rfl rfl rfl rfl
  have hpo : PassesOwn (model P w) (cxOf (L2.CX P w) P w K mg base ["candidate", "tag"] "is_axiom" (defScope s_is_axiom) f cdv A ou s H E).A (cxOf (L2.CX P w) P w K mg base ["candidate", "tag"] "is_axiom" (defScope s_is_axiom) f cdv A ou s H E).env (cxOf (L2.CX P w) P w K mg base ["candidate", "tag"] "is_axiom" (defScope s_is_axiom) f cdv A ou s H E).xe := passes_of rfl
  exact (pdb_cons (pds_set (i := 1) nd rfl (by first | exact Or.inl rfl | exact Or.inr rfl) (pd_callK k_tag_of hgd (hr.mono (by decide)) rfl tk (pda_cons (pd_var 0) (pda_cons (pd_con g_AXIOM_FORMS rfl) pda_nil))))
      (pdb_cons (pds_if (pdt_cmp op_isN' opr_isN nox_isN (pd_var 1) pd_non (nomark _)) (pdb_one (pds_ret pd_bl)) pdb_nil)
      (pdb_cons (pds_if (pdt_cmp (op_eq2 hr.units) opr_eq2 nox_eq2 (pd_var 1) pd_str (nomark _)) (pdb_one (pds_ret (pd_callK k_is_direction hgd (hr.mono (by decide)) rfl tk (pda_cons (pd_ix (pd_var 0) pd_int) pda_nil)))) pdb_nil)
      (pdb_cons (pds_if (pdt_cmp (op_in2 (hu65 hr)) opr_in nox_in (pd_var 1) (pd_tup (pda_cons pd_str (pda_cons pd_str pda_nil))) (by rfl)) (pdb_one (pds_ret (pd_and (pd_callK k_is_concept hgd (hr.mono (by decide)) rfl tk (pda_cons (pd_ix (pd_var 0) pd_int) pda_nil)) (pd_one (pd_callK k_is_concept hgd (hr.mono (by decide)) rfl tk (pda_cons (pd_ix (pd_var 0) pd_int) pda_nil)))))) pdb_nil)
      (pdb_one (pds_ret (pd_and (pd_callK k_is_word hgd (hr.mono (by decide)) rfl tk (pda_cons (pd_ix (pd_var 0) pd_int) pda_nil)) (pd_one (pd_callK k_is_word hgd (hr.mono (by decide)) rfl tk (pda_cons (pd_ix (pd_var 0) pd_int) pda_nil))))))))))

/-! ### _law_stream -/
abbrev s_law_stream : Stmt := top 14
def b_law_stream : FS := (fSeq (fSet 2 (fC (.int 0)))
      (fSeq (fIfS (fTest (fOp opLt (fVar 1) (fCB opLen (fCons (fVar 0) fNil)))) (fSet 2 (fOp opIx (fVar 0) (fVar 1))) fNext)
      (fSeq (fSet 3 (fCB opMax2 (fCons (fVar 2) (fCons (fOp opSub (fNeg (fC (.int 1))) (fVar 2)) fNil))))
      (fSeq (fSet 4 (fOp opMod (fOp opMul (fOp opAdd (fOp opAdd (fOp opAdd (fOp opMod (fVar 3) (fC (.int 2147483629))) (fOp opMul (fOp opMul (fC (.int 7919)) (fVar 1)) (fVar 1))) (fOp opMul (fC (.int 31)) (fVar 1))) (fC (.int 17))) (fC (.int 48271))) (fC (.int 2147483647))))
      (fRet (fLst (fCons (fOp opMul (fVar 3) (fCB opInt (fCons (fOp opGe (fVar 3) (fOp opPow (fC (.int 10)) (fC (.int 18)))) fNil))) (fCons (fVar 4) fNil))))))))
def d_law_stream : OC := mkF 2 5 b_law_stream
theorem sc_law_stream : FnScope ["_law_script", "_law_k", "_law_cell", "_law_size", "_law_mixed"] ["_law_script", "_law_k"] (defScope s_law_stream) := ⟨rfl, rfl, rfl, by decide +kernel, rfl, by decide +kernel, by decide +kernel⟩
theorem kn_law_stream {P : Program} {w : World} {K : PySem.W.Frag} {mg : Str → Option Value} {base : Heap} {EX : XR} {f : Addr} {fd : FuncData} (Fn : FunD K "_law_stream" "_law_stream" (defArgs s_law_stream) (defBody s_law_stream) (defScope s_law_stream) [] [] f fd) (hm : mg "_law_stream" = some (.ref f)) (f_len : mg "len" = none) (f_max : mg "max" = none) (f_int : mg "int" = none) :
    Kn P w K mg base EX "_law_stream" 1 ["_law_script", "_law_k"] d_law_stream := by
  refine kn_of Fn hm (Fn.bindsN fun _ _ _ _ _ _ us hl => match us, hl with | [_, _], _ => rfl) sc_law_stream rfl fun cdv A ou s H E hgd hr => ?_
  have nd := sc_law_stream.nd
  have hgd : (cxOf (L2.CX P w) P w K mg base ["_law_script", "_law_k", "_law_cell", "_law_size", "_law_mixed"] "_law_stream" (defScope s_law_stream) f cdv A ou s H E).A.guards = some [] := hgd
  have tk : Takes (cxOf (L2.CX P w) P w K mg base ["_law_script", "_law_k", "_law_cell", "_law_size", "_law_mixed"] "_law_stream" (defScope s_law_stream) f cdv A ou s H E) (fun cls d _ H => E cls d H) := takes_of rfl rfl rfl rfl
  have hpo : PassesOwn (model P w) (cxOf (L2.CX P w) P w K mg base ["_law_script", "_law_k", "_law_cell", "_law_size", "_law_mixed"] "_law_stream" (defScope s_law_stream) f cdv A ou s H E).A (cxOf (L2.CX P w) P w K mg base ["_law_script", "_law_k", "_law_cell", "_law_size", "_law_mixed"] "_law_stream" (defScope s_law_stream) f cdv A ou s H E).env (cxOf (L2.CX P w) P w K mg base ["_law_script", "_law_k", "_law_cell", "_law_size", "_law_mixed"] "_law_stream" (defScope s_law_stream) f cdv A ou s H E).xe := passes_of rfl
  exact (pdb_cons (pds_set (i := 2) nd rfl (by first | exact Or.inl rfl | exact Or.inr rfl) pd_int)
      (pdb_cons (pds_if (pdt_cmp op_lt opr_I0b nox_I (pd_var 1) (pd_callB call_len clr_len nox_len (by rfl) f_len PySem.boot_len (pda_cons (pd_var 0) pda_nil)) (nomark _)) (pdb_one (pds_set (i := 2) nd rfl (by first | exact Or.inl rfl | exact Or.inr rfl) (pd_ix (pd_var 0) (pd_var 1)))) pdb_nil)
      (pdb_cons (pds_set (i := 3) nd rfl (by first | exact Or.inl rfl | exact Or.inr rfl) (pd_callB (call_max2 rfl) clr_max nox_max (by rfl) f_max (by decide +kernel) (pda_cons (pd_var 2) (pda_cons (pd_op op_sub opr_I0i nox_I (pd_neg pd_int) (pd_var 2)) pda_nil))))
      (pdb_cons (pds_set (i := 4) nd rfl (by first | exact Or.inl rfl | exact Or.inr rfl) (pd_op op_mod (opr_Ii cMod_ok) nox_I (pd_op op_mul (opr_Ii cMul_ok) nox_I (pd_op op_add4 opr_add nox_add (pd_op op_add4 opr_add nox_add (pd_op op_add4 opr_add nox_add (pd_op op_mod (opr_Ii cMod_ok) nox_I (pd_var 3) pd_int) (pd_op op_mul (opr_Ii cMul_ok) nox_I (pd_op op_mul (opr_Ii cMul_ok) nox_I pd_int (pd_var 1)) (pd_var 1))) (pd_op op_mul (opr_Ii cMul_ok) nox_I pd_int (pd_var 1))) pd_int) pd_int) pd_int))
      (pdb_one (pds_ret (pd_lst (pda_cons (pd_op op_mul (opr_Ii cMul_ok) nox_I (pd_var 3) (pd_callTy call_int1 clr_int nox_int (by rfl) f_int (by decide +kernel) (pda_cons (pd_cmp op_ge opr_I0b nox_I (pd_var 3) (pd_op op_pow (opr_Ii cPow_ok) nox_I pd_int pd_int) (nomark _)) pda_nil))) (pda_cons (pd_var 4) pda_nil)))))))))

/-! ### _law_draw -/
abbrev s_law_draw : Stmt := top 15
def b_law_draw : FS := (fSeq (fIfS (fTest (fOp opGt (fOp opIx (fVar 0) (fC (.int 0))) (fC (.int 0)))) (fSeq (fSet 2 (fOp opMod (fOp opIx (fVar 0) (fC (.int 0))) (fVar 1)))
      (fSeq (fPut (fVar 0) (fC (.int 0)) (fOp opDiv (fOp opIx (fVar 0) (fC (.int 0))) (fVar 1)))
      (fRet (fVar 2)))) fNext)
      (fSeq (fPut (fVar 0) (fC (.int 1)) (fOp opMod (fOp opAdd (fOp opMul (fOp opIx (fVar 0) (fC (.int 1))) (fC (.int 69621))) (fC (.int 7))) (fC (.int 2147483647))))
      (fRet (fOp opMod (fOp opDiv (fOp opMod (fOp opMul (fOp opIx (fVar 0) (fC (.int 1))) (fOp opIx (fVar 0) (fC (.int 1)))) (fC (.int 2147483629))) (fC (.int 32))) (fVar 1)))))
def d_law_draw : OC := mkF 2 3 b_law_draw
theorem sc_law_draw : FnScope ["_law_stream_here", "_law_count", "_law_result"] ["_law_stream_here", "_law_count"] (defScope s_law_draw) := ⟨rfl, rfl, rfl, by decide +kernel, rfl, by decide +kernel, by decide +kernel⟩
theorem kn_law_draw {P : Program} {w : World} {K : PySem.W.Frag} {mg : Str → Option Value} {base : Heap} {EX : XR} {f : Addr} {fd : FuncData} (Fn : FunD K "_law_draw" "_law_draw" (defArgs s_law_draw) (defBody s_law_draw) (defScope s_law_draw) [] [] f fd) (hm : mg "_law_draw" = some (.ref f)) :
    Kn P w K mg base EX "_law_draw" 1 ["_law_stream_here", "_law_count"] d_law_draw := by
  refine kn_of Fn hm (Fn.bindsN fun _ _ _ _ _ _ us hl => match us, hl with | [_, _], _ => rfl) sc_law_draw rfl fun cdv A ou s H E hgd hr => ?_
  have nd := sc_law_draw.nd
  have hgd : (cxOf (L2.CX P w) P w K mg base ["_law_stream_here", "_law_count", "_law_result"] "_law_draw" (defScope s_law_draw) f cdv A ou s H E).A.guards = some [] := hgd
  have tk : Takes (cxOf (L2.CX P w) P w K mg base ["_law_stream_here", "_law_count", "_law_result"] "_law_draw" (defScope s_law_draw) f cdv A ou s H E) (fun cls d _ H => E cls d H) := takes_of rfl rfl rfl rfl
  have hpo : PassesOwn (model P w) (cxOf (L2.CX P w) P w K mg base ["_law_stream_here", "_law_count", "_law_result"] "_law_draw" (defScope s_law_draw) f cdv A ou s H E).A (cxOf (L2.CX P w) P w K mg base ["_law_stream_here", "_law_count", "_law_result"] "_law_draw" (defScope s_law_draw) f cdv A ou s H E).env (cxOf (L2.CX P w) P w K mg base ["_law_stream_here", "_law_count", "_law_result"] "_law_draw" (defScope s_law_draw) f cdv A ou s H E).xe := passes_of rfl
  exact (pdb_cons (pds_if (pdt_cmp op_gt opr_I0b nox_I (pd_ix (pd_var 0) pd_int) pd_int (nomark _)) (pdb_cons (pds_set (i := 2) nd rfl (by first | exact Or.inl rfl | exact Or.inr rfl) (pd_op op_mod (opr_Ii cMod_ok) nox_I (pd_ix (pd_var 0) pd_int) (pd_var 1)))
      (pdb_cons (pds_put (pd_op op_fdiv (opr_Ii cDiv_ok) nox_I (pd_ix (pd_var 0) pd_int) (pd_var 1)) (pd_var 0) pd_int (fun _ _ a b => pg_sub a b set_list))
      (pdb_one (pds_ret (pd_var 2))))) pdb_nil)
      (pdb_cons (pds_put (pd_op op_mod (opr_Ii cMod_ok) nox_I (pd_op op_add4 opr_add nox_add (pd_op op_mul (opr_Ii cMul_ok) nox_I (pd_ix (pd_var 0) pd_int) pd_int) pd_int) pd_int) (pd_var 0) pd_int (fun _ _ a b => pg_sub a b set_list))
      (pdb_one (pds_ret (pd_op op_mod (opr_Ii cMod_ok) nox_I (pd_op op_fdiv (opr_Ii cDiv_ok) nox_I (pd_op op_mod (opr_Ii cMod_ok) nox_I (pd_op op_mul (opr_Ii cMul_ok) nox_I (pd_ix (pd_var 0) pd_int) (pd_ix (pd_var 0) pd_int)) pd_int) pd_int) (pd_var 1))))))

/-! ### _law_choose -/
abbrev s_law_choose : Stmt := top 16
def b_law_choose : FS := (fRet (fOp opIx (fVar 1) (fCB d_law_draw (fCons (fVar 0) (fCons (fCB opLen (fCons (fVar 1) fNil)) fNil)))))
def d_law_choose : OC := mkF 2 2 b_law_choose
theorem sc_law_choose : FnScope ["_law_stream_here", "_law_items"] ["_law_stream_here", "_law_items"] (defScope s_law_choose) := ⟨rfl, rfl, rfl, by decide +kernel, rfl, by decide +kernel, by decide +kernel⟩
theorem kn_law_choose {P : Program} {w : World} {K : PySem.W.Frag} {mg : Str → Option Value} {base : Heap} {EX : XR} {f : Addr} {fd : FuncData} (Fn : FunD K "_law_choose" "_law_choose" (defArgs s_law_choose) (defBody s_law_choose) (defScope s_law_choose) [] [] f fd) (hm : mg "_law_choose" = some (.ref f)) (f_len : mg "len" = none) (k_law_draw : Kn P w K mg base EX "_law_draw" 1 ["_law_stream_here", "_law_count"] d_law_draw) :
    Kn P w K mg base EX "_law_choose" 2 ["_law_stream_here", "_law_items"] d_law_choose := by
  refine kn_of Fn hm (Fn.bindsN fun _ _ _ _ _ _ us hl => match us, hl with | [_, _], _ => rfl) sc_law_choose rfl fun cdv A ou s H E hgd hr => ?_
  have nd := sc_law_choose.nd
  have hgd : (cxOf (L2.CX P w) P w K mg base ["_law_stream_here", "_law_items"] "_law_choose" (defScope s_law_choose) f cdv A ou s H E).A.guards = some [] := hgd
  have tk : Takes (cxOf (L2.CX P w) P w K mg base ["_law_stream_here", "_law_items"] "_law_choose" (defScope s_law_choose) f cdv A ou s H E) (fun cls d _ H => E cls d H) := takes_of rfl rfl rfl rfl
  have hpo : PassesOwn (model P w) (cxOf (L2.CX P w) P w K mg base ["_law_stream_here", "_law_items"] "_law_choose" (defScope s_law_choose) f cdv A ou s H E).A (cxOf (L2.CX P w) P w K mg base ["_law_stream_here", "_law_items"] "_law_choose" (defScope s_law_choose) f cdv A ou s H E).env (cxOf (L2.CX P w) P w K mg base ["_law_stream_here", "_law_items"] "_law_choose" (defScope s_law_choose) f cdv A ou s H E).xe := passes_of rfl
  exact (pdb_one (pds_ret (pd_ix (pd_var 1) (pd_callK k_law_draw hgd (hr.mono (by decide)) rfl tk (pda_cons (pd_var 0) (pda_cons (pd_callB call_len clr_len nox_len (by rfl) f_len PySem.boot_len (pda_cons (pd_var 1) pda_nil)) pda_nil))))))

/-! ### _law_names -/
abbrev s_law_names : Stmt := top 17
def b_law_names : FS := (fSeq (fSet 1 (fOp opIx (fLst (fCons (fC (.str "")) (fCons (fC (.str "k")) (fCons (fC (.str "zzzzzzz")) fNil)))) (fCB d_law_draw (fCons (fVar 0) (fCons (fC (.int 3)) fNil)))))
      (fSeq (fSet 2 (fLc (fC (.str "abcd")) 4 fYes (fOp opAdd (fVar 1) (fVar 4))))
      (fSeq (fSet 3 (fLc (fC (.str "rst")) 4 fYes (fOp opAdd (fVar 1) (fVar 4))))
      (fRet (fTup (fCons (fVar 2) (fCons (fOp opIx (fLst (fCons (fVar 3) (fCons (fSl (fVar 2) fNoPart (fPart (fC (.int 3)))) fNil))) (fCB opInt (fCons (fOp opEqD (fCB d_law_draw (fCons (fVar 0) (fCons (fC (.int 4)) fNil))) (fC (.int 0))) fNil))) fNil)))))))
def d_law_names : OC := mkF 1 5 b_law_names
theorem sc_law_names : FnScope ["_law_stream_here", "_law_head", "_law_concept_names", "_law_role_names", "_law_sign"] ["_law_stream_here"] (defScope s_law_names) := ⟨rfl, rfl, rfl, by decide +kernel, rfl, by decide +kernel, by decide +kernel⟩
theorem kn_law_names {P : Program} {w : World} {K : PySem.W.Frag} {mg : Str → Option Value} {base : Heap} {EX : XR} {f : Addr} {fd : FuncData} (Fn : FunD K "_law_names" "_law_names" (defArgs s_law_names) (defBody s_law_names) (defScope s_law_names) [] [] f fd) (hm : mg "_law_names" = some (.ref f)) (f_int : mg "int" = none) (k_law_draw : Kn P w K mg base EX "_law_draw" 1 ["_law_stream_here", "_law_count"] d_law_draw) :
    Kn P w K mg base EX "_law_names" 2 ["_law_stream_here"] d_law_names := by
  refine kn_of Fn hm (Fn.bindsN fun _ _ _ _ _ _ us hl => match us, hl with | [_], _ => rfl) sc_law_names rfl fun cdv A ou s H E hgd hr => ?_
  have nd := sc_law_names.nd
  have hgd : (cxOf (L2.CX P w) P w K mg base ["_law_stream_here", "_law_head", "_law_concept_names", "_law_role_names", "_law_sign"] "_law_names" (defScope s_law_names) f cdv A ou s H E).A.guards = some [] := hgd
  have tk : Takes (cxOf (L2.CX P w) P w K mg base ["_law_stream_here", "_law_head", "_law_concept_names", "_law_role_names", "_law_sign"] "_law_names" (defScope s_law_names) f cdv A ou s H E) (fun cls d _ H => E cls d H) := takes_of rfl rfl rfl rfl
  have hpo : PassesOwn (model P w) (cxOf (L2.CX P w) P w K mg base ["_law_stream_here", "_law_head", "_law_concept_names", "_law_role_names", "_law_sign"] "_law_names" (defScope s_law_names) f cdv A ou s H E).A (cxOf (L2.CX P w) P w K mg base ["_law_stream_here", "_law_head", "_law_concept_names", "_law_role_names", "_law_sign"] "_law_names" (defScope s_law_names) f cdv A ou s H E).env (cxOf (L2.CX P w) P w K mg base ["_law_stream_here", "_law_head", "_law_concept_names", "_law_role_names", "_law_sign"] "_law_names" (defScope s_law_names) f cdv A ou s H E).xe := passes_of rfl
  exact (pdb_cons (pds_set (i := 1) nd rfl (by first | exact Or.inl rfl | exact Or.inr rfl) (pd_ix (pd_lst (pda_cons pd_str (pda_cons pd_str (pda_cons pd_str pda_nil)))) (pd_callK k_law_draw hgd (hr.mono (by decide)) rfl tk (pda_cons (pd_var 0) (pda_cons pd_int pda_nil)))))
      (pdb_cons (pds_setLc rfl nd rfl rfl (sw_true rfl rfl rfl (by decide +kernel)) (blkOk_by (N := ["_law_stream_here", "_law_head", "_law_concept_names", "_law_role_names", "_law_sign"]) (sc := defScope s_law_names) (by decide +kernel)) pd_str (fun _ _ _ _ _ => pg_name (i := 4) nd rfl (Or.inl rfl)) (fun _ _ _ _ _ => pdts_nil) (fun _ _ _ _ _ => (pd_op op_add4 opr_add nox_add (pd_var 1) (pd_var 4))))
      (pdb_cons (pds_setLc rfl nd rfl rfl (sw_true rfl rfl rfl (by decide +kernel)) (blkOk_by (N := ["_law_stream_here", "_law_head", "_law_concept_names", "_law_role_names", "_law_sign"]) (sc := defScope s_law_names) (by decide +kernel)) pd_str (fun _ _ _ _ _ => pg_name (i := 4) nd rfl (Or.inl rfl)) (fun _ _ _ _ _ => pdts_nil) (fun _ _ _ _ _ => (pd_op op_add4 opr_add nox_add (pd_var 1) (pd_var 4))))
      (pdb_one (pds_ret (pd_tup (pda_cons (pd_var 2) (pda_cons (pd_ix (pd_lst (pda_cons (pd_var 3) (pda_cons (pd_sl (pd_var 2) pdo_none (pdo_some pd_int)) pda_nil))) (pd_callTy call_int1 clr_int nox_int (by rfl) f_int (by decide +kernel) (pda_cons (pd_cmp (op_eq2 hr.units) opr_eq2 nox_eq2 (pd_callK k_law_draw hgd (hr.mono (by decide)) rfl tk (pda_cons (pd_var 0) (pda_cons pd_int pda_nil))) pd_int (nomark _)) pda_nil))) pda_nil))))))))

/-! ### _law_concept -/
abbrev s_law_concept : Stmt := top 18
def b_law_concept : FS := (fSeq (fSet 2 (fOp opIx (fLst (fCons (fC (.str "concept")) (fCons (fC (.str "concept")) (fCons (fC (.str "out")) (fCons (fC (.str "in")) fNil))))) (fCB d_law_draw (fCons (fVar 0) (fCons (fC (.int 4)) fNil)))))
      (fRet (fTup (fCons (fVar 2) (fCons (fCB d_law_choose (fCons (fVar 0) (fCons (fOp opIx (fVar 1) (fCB opInt (fCons (fOp opNeD (fVar 2) (fC (.str "concept"))) fNil))) fNil))) fNil)))))
def d_law_concept : OC := mkF 2 3 b_law_concept
theorem sc_law_concept : FnScope ["_law_stream_here", "_law_names_here", "_law_word"] ["_law_stream_here", "_law_names_here"] (defScope s_law_concept) := ⟨rfl, rfl, rfl, by decide +kernel, rfl, by decide +kernel, by decide +kernel⟩
theorem kn_law_concept {P : Program} {w : World} {K : PySem.W.Frag} {mg : Str → Option Value} {base : Heap} {EX : XR} {f : Addr} {fd : FuncData} (Fn : FunD K "_law_concept" "_law_concept" (defArgs s_law_concept) (defBody s_law_concept) (defScope s_law_concept) [] [] f fd) (hm : mg "_law_concept" = some (.ref f)) (f_int : mg "int" = none) (k_law_draw : Kn P w K mg base EX "_law_draw" 1 ["_law_stream_here", "_law_count"] d_law_draw) (k_law_choose : Kn P w K mg base EX "_law_choose" 2 ["_law_stream_here", "_law_items"] d_law_choose) :
    Kn P w K mg base EX "_law_concept" 3 ["_law_stream_here", "_law_names_here"] d_law_concept := by
  refine kn_of Fn hm (Fn.bindsN fun _ _ _ _ _ _ us hl => match us, hl with | [_, _], _ => rfl) sc_law_concept rfl fun cdv A ou s H E hgd hr => ?_
  have nd := sc_law_concept.nd
  have hgd : (cxOf (L2.CX P w) P w K mg base ["_law_stream_here", "_law_names_here", "_law_word"] "_law_concept" (defScope s_law_concept) f cdv A ou s H E).A.guards = some [] := hgd
  have tk : Takes (cxOf (L2.CX P w) P w K mg base ["_law_stream_here", "_law_names_here", "_law_word"] "_law_concept" (defScope s_law_concept) f cdv A ou s H E) (fun cls d _ H => E cls d H) := takes_of rfl rfl rfl rfl
  have hpo : PassesOwn (model P w) (cxOf (L2.CX P w) P w K mg base ["_law_stream_here", "_law_names_here", "_law_word"] "_law_concept" (defScope s_law_concept) f cdv A ou s H E).A (cxOf (L2.CX P w) P w K mg base ["_law_stream_here", "_law_names_here", "_law_word"] "_law_concept" (defScope s_law_concept) f cdv A ou s H E).env (cxOf (L2.CX P w) P w K mg base ["_law_stream_here", "_law_names_here", "_law_word"] "_law_concept" (defScope s_law_concept) f cdv A ou s H E).xe := passes_of rfl
  exact (pdb_cons (pds_set (i := 2) nd rfl (by first | exact Or.inl rfl | exact Or.inr rfl) (pd_ix (pd_lst (pda_cons pd_str (pda_cons pd_str (pda_cons pd_str (pda_cons pd_str pda_nil))))) (pd_callK k_law_draw hgd (hr.mono (by decide)) rfl tk (pda_cons (pd_var 0) (pda_cons pd_int pda_nil)))))
      (pdb_one (pds_ret (pd_tup (pda_cons (pd_var 2) (pda_cons (pd_callK k_law_choose hgd (hr.mono (by decide)) rfl tk (pda_cons (pd_var 0) (pda_cons (pd_ix (pd_var 1) (pd_callTy call_int1 clr_int nox_int (by rfl) f_int (by decide +kernel) (pda_cons (pd_cmp (op_ne2 hr.units) opr_ne2 nox_ne2 (pd_var 2) pd_str (nomark _)) pda_nil))) pda_nil))) pda_nil))))))

/-! ### _law_axiom -/
abbrev s_law_axiom : Stmt := top 19
def b_law_axiom : FS := (fSeq (fSet 3 (fCB d_law_choose (fCons (fVar 0) (fCons (fVar 2) fNil))))
      (fSeq (fIfS (fOrT (fTest (fOp opEqD (fVar 3) (fC (.str "subclass")))) (fTest (fOp opEqD (fVar 3) (fC (.str "disjoint"))))) (fRet (fTup (fCons (fVar 3) (fCons (fCB d_law_concept (fCons (fVar 0) (fCons (fVar 1) fNil))) (fCons (fCB d_law_concept (fCons (fVar 0) (fCons (fVar 1) fNil))) fNil))))) fNext)
      (fSeq (fIfS (fTest (fOp opEqD (fVar 3) (fC (.str "functional")))) (fRet (fTup (fCons (fVar 3) (fCons (fTup (fCons (fOp opIx (fLst (fCons (fC (.str "out")) (fCons (fC (.str "in")) fNil))) (fCB d_law_draw (fCons (fVar 0) (fCons (fC (.int 2)) fNil)))) (fCons (fCB d_law_choose (fCons (fVar 0) (fCons (fOp opIx (fVar 1) (fC (.int 1))) fNil))) fNil))) fNil)))) fNext)
      (fRet (fTup (fCons (fVar 3) (fCons (fCB d_law_choose (fCons (fVar 0) (fCons (fOp opIx (fVar 1) (fC (.int 1))) fNil))) (fCons (fCB d_law_choose (fCons (fVar 0) (fCons (fOp opIx (fVar 1) (fC (.int 1))) fNil))) fNil))))))))
def d_law_axiom : OC := mkF 3 4 b_law_axiom
theorem sc_law_axiom : FnScope ["_law_stream_here", "_law_names_here", "_law_menu", "_law_word"] ["_law_stream_here", "_law_names_here", "_law_menu"] (defScope s_law_axiom) := ⟨rfl, rfl, rfl, by decide +kernel, rfl, by decide +kernel, by decide +kernel⟩
theorem kn_law_axiom {P : Program} {w : World} {K : PySem.W.Frag} {mg : Str → Option Value} {base : Heap} {EX : XR} {f : Addr} {fd : FuncData} (Fn : FunD K "_law_axiom" "_law_axiom" (defArgs s_law_axiom) (defBody s_law_axiom) (defScope s_law_axiom) [] [] f fd) (hm : mg "_law_axiom" = some (.ref f)) (k_law_choose : Kn P w K mg base EX "_law_choose" 2 ["_law_stream_here", "_law_items"] d_law_choose) (k_law_concept : Kn P w K mg base EX "_law_concept" 3 ["_law_stream_here", "_law_names_here"] d_law_concept) (k_law_draw : Kn P w K mg base EX "_law_draw" 1 ["_law_stream_here", "_law_count"] d_law_draw) :
    Kn P w K mg base EX "_law_axiom" 4 ["_law_stream_here", "_law_names_here", "_law_menu"] d_law_axiom := by
  refine kn_of Fn hm (Fn.bindsN fun _ _ _ _ _ _ us hl => match us, hl with | [_, _, _], _ => rfl) sc_law_axiom rfl fun cdv A ou s H E hgd hr => ?_
  have nd := sc_law_axiom.nd
  have hgd : (cxOf (L2.CX P w) P w K mg base ["_law_stream_here", "_law_names_here", "_law_menu", "_law_word"] "_law_axiom" (defScope s_law_axiom) f cdv A ou s H E).A.guards = some [] := hgd
  have tk : Takes (cxOf (L2.CX P w) P w K mg base ["_law_stream_here", "_law_names_here", "_law_menu", "_law_word"] "_law_axiom" (defScope s_law_axiom) f cdv A ou s H E) (fun cls d _ H => E cls d H) := takes_of rfl rfl rfl rfl
  have hpo : PassesOwn (model P w) (cxOf (L2.CX P w) P w K mg base ["_law_stream_here", "_law_names_here", "_law_menu", "_law_word"] "_law_axiom" (defScope s_law_axiom) f cdv A ou s H E).A (cxOf (L2.CX P w) P w K mg base ["_law_stream_here", "_law_names_here", "_law_menu", "_law_word"] "_law_axiom" (defScope s_law_axiom) f cdv A ou s H E).env (cxOf (L2.CX P w) P w K mg base ["_law_stream_here", "_law_names_here", "_law_menu", "_law_word"] "_law_axiom" (defScope s_law_axiom) f cdv A ou s H E).xe := passes_of rfl
  exact (pdb_cons (pds_set (i := 3) nd rfl (by first | exact Or.inl rfl | exact Or.inr rfl) (pd_callK k_law_choose hgd (hr.mono (by decide)) rfl tk (pda_cons (pd_var 0) (pda_cons (pd_var 2) pda_nil))))
      (pdb_cons (pds_if (PW.pt (pdw_or (pdt_cmp (op_eq2 hr.units) opr_eq2 nox_eq2 (pd_var 3) pd_str (nomark _)) (pdw_or1 (pdt_cmp (op_eq2 hr.units) opr_eq2 nox_eq2 (pd_var 3) pd_str (nomark _))))) (pdb_one (pds_ret (pd_tup (pda_cons (pd_var 3) (pda_cons (pd_callK k_law_concept hgd (hr.mono (by decide)) rfl tk (pda_cons (pd_var 0) (pda_cons (pd_var 1) pda_nil))) (pda_cons (pd_callK k_law_concept hgd (hr.mono (by decide)) rfl tk (pda_cons (pd_var 0) (pda_cons (pd_var 1) pda_nil))) pda_nil)))))) pdb_nil)
      (pdb_cons (pds_if (pdt_cmp (op_eq2 hr.units) opr_eq2 nox_eq2 (pd_var 3) pd_str (nomark _)) (pdb_one (pds_ret (pd_tup (pda_cons (pd_var 3) (pda_cons (pd_tup (pda_cons (pd_ix (pd_lst (pda_cons pd_str (pda_cons pd_str pda_nil))) (pd_callK k_law_draw hgd (hr.mono (by decide)) rfl tk (pda_cons (pd_var 0) (pda_cons pd_int pda_nil)))) (pda_cons (pd_callK k_law_choose hgd (hr.mono (by decide)) rfl tk (pda_cons (pd_var 0) (pda_cons (pd_ix (pd_var 1) pd_int) pda_nil))) pda_nil))) pda_nil))))) pdb_nil)
      (pdb_one (pds_ret (pd_tup (pda_cons (pd_var 3) (pda_cons (pd_callK k_law_choose hgd (hr.mono (by decide)) rfl tk (pda_cons (pd_var 0) (pda_cons (pd_ix (pd_var 1) pd_int) pda_nil))) (pda_cons (pd_callK k_law_choose hgd (hr.mono (by decide)) rfl tk (pda_cons (pd_var 0) (pda_cons (pd_ix (pd_var 1) pd_int) pda_nil))) pda_nil)))))))))

/-! ### _law_allowed -/
abbrev s_law_allowed : Stmt := top 20
def b_law_allowed : FS := (fSeq (fSet 1 (fLc (fVar 0) 2 (fOrT (fTest (fOp opEqD (fOp opIx (fVar 2) (fC (.int 0))) (fC (.str "subrole")))) (fTest (fOp opEqD (fOp opIx (fVar 2) (fC (.int 0))) (fC (.str "subrole_inverse"))))) (fOp opIx (fVar 2) (fC (.int 2)))))
      (fRet (fOp opEqD (fLc (fVar 0) 2 (fAndT (fTest (fOp opEqD (fOp opIx (fVar 2) (fC (.int 0))) (fC (.str "functional")))) (fTest (fOp opIn (fOp opIx (fOp opIx (fVar 2) (fC (.int 1))) (fC (.int 1))) (fVar 1)))) (fVar 2)) (fLst fNil))))
def d_law_allowed : OC := mkF 1 3 b_law_allowed
theorem sc_law_allowed : FnScope ["_law_items", "_law_second", "_law_axiom_here"] ["_law_items"] (defScope s_law_allowed) := ⟨rfl, rfl, rfl, by decide +kernel, rfl, by decide +kernel, by decide +kernel⟩
theorem kn_law_allowed {P : Program} {w : World} {K : PySem.W.Frag} {mg : Str → Option Value} {base : Heap} {EX : XR} {f : Addr} {fd : FuncData} (Fn : FunD K "_law_allowed" "_law_allowed" (defArgs s_law_allowed) (defBody s_law_allowed) (defScope s_law_allowed) [] [] f fd) (hm : mg "_law_allowed" = some (.ref f)) :
    Kn P w K mg base EX "_law_allowed" 1 ["_law_items"] d_law_allowed := by
  refine kn_of Fn hm (Fn.bindsN fun _ _ _ _ _ _ us hl => match us, hl with | [_], _ => rfl) sc_law_allowed rfl fun cdv A ou s H E hgd hr => ?_
  have nd := sc_law_allowed.nd
  have hgd : (cxOf (L2.CX P w) P w K mg base ["_law_items", "_law_second", "_law_axiom_here"] "_law_allowed" (defScope s_law_allowed) f cdv A ou s H E).A.guards = some [] := hgd
  have tk : Takes (cxOf (L2.CX P w) P w K mg base ["_law_items", "_law_second", "_law_axiom_here"] "_law_allowed" (defScope s_law_allowed) f cdv A ou s H E) (fun cls d _ H => E cls d H) := takes_of rfl rfl rfl rfl
  have hpo : PassesOwn (model P w) (cxOf (L2.CX P w) P w K mg base ["_law_items", "_law_second", "_law_axiom_here"] "_law_allowed" (defScope s_law_allowed) f cdv A ou s H E).A (cxOf (L2.CX P w) P w K mg base ["_law_items", "_law_second", "_law_axiom_here"] "_law_allowed" (defScope s_law_allowed) f cdv A ou s H E).env (cxOf (L2.CX P w) P w K mg base ["_law_items", "_law_second", "_law_axiom_here"] "_law_allowed" (defScope s_law_allowed) f cdv A ou s H E).xe := passes_of rfl
  exact (pdb_cons (pds_set (i := 1) nd rfl (by first | exact Or.inl rfl | exact Or.inr rfl) (pd_lc rfl nd (blkOk_by (N := ["_law_items", "_law_second", "_law_axiom_here"]) (sc := defScope s_law_allowed) (by decide +kernel)) (pd_var 0) (fun _ _ _ _ _ => pg_name (i := 2) nd rfl (Or.inl rfl)) (fun _ _ _ _ _ => (pdts_one (PW.pt (pdw_or (pdt_cmp (op_eq2 hr.units) opr_eq2 nox_eq2 (pd_ix (pd_var 2) pd_int) pd_str (nomark _)) (pdw_or1 (pdt_cmp (op_eq2 hr.units) opr_eq2 nox_eq2 (pd_ix (pd_var 2) pd_int) pd_str (nomark _))))))) (fun _ _ _ _ _ => (pd_ix (pd_var 2) pd_int))))
      (pdb_one (pds_ret (pd_cmp (op_eq2 hr.units) opr_eq2 nox_eq2 (pd_lc rfl nd (blkOk_by (N := ["_law_items", "_law_second", "_law_axiom_here"]) (sc := defScope s_law_allowed) (by decide +kernel)) (pd_var 0) (fun _ _ _ _ _ => pg_name (i := 2) nd rfl (Or.inl rfl)) (fun _ _ _ _ _ => (pdts_one (PW.pt (pdw_and (pdt_cmp (op_eq2 hr.units) opr_eq2 nox_eq2 (pd_ix (pd_var 2) pd_int) pd_str (nomark _)) (pdw_and1 (pdt_cmp (op_in2 (hu65 hr)) opr_in nox_in (pd_ix (pd_ix (pd_var 2) pd_int) pd_int) (pd_var 1) (by rfl))))))) (fun _ _ _ _ _ => (pd_var 2))) (pd_lst pda_nil) (nomark _)))))

/-! ### _law_ontology -/
abbrev s_law_ontology : Stmt := top 21
def b_law_ontology : FS := (fSeq (fSet 4 (fLst fNil))
      (fSeq (fForR rng1 (fCons (fCB d_law_draw (fCons (fVar 0) (fCons (fOp opAdd (fVar 3) (fC (.int 1))) fNil))) fNil) 5 (fSeq (fSet 6 (fCB d_law_axiom (fCons (fVar 0) (fCons (fVar 1) (fCons (fVar 2) fNil)))))
      (fIfS (fAndT (fTest (fOp opNotIn (fVar 6) (fVar 4))) (fTest (fCB d_law_allowed (fCons (fOp opAdd (fVar 4) (fLst (fCons (fVar 6) fNil))) fNil)))) (fDrop (fApp (fVar 4) (fVar 6))) fNext)))
      (fRet (fVar 4))))
def d_law_ontology : OC := mkF 4 7 b_law_ontology
theorem sc_law_ontology : FnScope ["_law_stream_here", "_law_names_here", "_law_menu", "_law_most", "_law_result", "_law_turn", "_law_axiom_here"] ["_law_stream_here", "_law_names_here", "_law_menu", "_law_most"] (defScope s_law_ontology) := ⟨rfl, rfl, rfl, by decide +kernel, rfl, by decide +kernel, by decide +kernel⟩
theorem kn_law_ontology {P : Program} {w : World} {K : PySem.W.Frag} {mg : Str → Option Value} {base : Heap} {EX : XR} {f : Addr} {fd : FuncData} (Fn : FunD K "_law_ontology" "_law_ontology" (defArgs s_law_ontology) (defBody s_law_ontology) (defScope s_law_ontology) [] [] f fd) (hm : mg "_law_ontology" = some (.ref f)) (f_range : mg "range" = none) (k_law_draw : Kn P w K mg base EX "_law_draw" 1 ["_law_stream_here", "_law_count"] d_law_draw) (k_law_axiom : Kn P w K mg base EX "_law_axiom" 4 ["_law_stream_here", "_law_names_here", "_law_menu"] d_law_axiom) (k_law_allowed : Kn P w K mg base EX "_law_allowed" 1 ["_law_items"] d_law_allowed) :
    Kn P w K mg base EX "_law_ontology" 5 ["_law_stream_here", "_law_names_here", "_law_menu", "_law_most"] d_law_ontology := by
  refine kn_of Fn hm (Fn.bindsN fun _ _ _ _ _ _ us hl => match us, hl with | [_, _, _, _], _ => rfl) sc_law_ontology rfl fun cdv A ou s H E hgd hr => ?_
  have nd := sc_law_ontology.nd
  have hgd : (cxOf (L2.CX P w) P w K mg base ["_law_stream_here", "_law_names_here", "_law_menu", "_law_most", "_law_result", "_law_turn", "_law_axiom_here"] "_law_ontology" (defScope s_law_ontology) f cdv A ou s H E).A.guards = some [] := hgd
  have tk : Takes (cxOf (L2.CX P w) P w K mg base ["_law_stream_here", "_law_names_here", "_law_menu", "_law_most", "_law_result", "_law_turn", "_law_axiom_here"] "_law_ontology" (defScope s_law_ontology) f cdv A ou s H E) (fun cls d _ H => E cls d H) := takes_of rfl rfl rfl rfl
  have hpo : PassesOwn (model P w) (cxOf (L2.CX P w) P w K mg base ["_law_stream_here", "_law_names_here", "_law_menu", "_law_most", "_law_result", "_law_turn", "_law_axiom_here"] "_law_ontology" (defScope s_law_ontology) f cdv A ou s H E).A (cxOf (L2.CX P w) P w K mg base ["_law_stream_here", "_law_names_here", "_law_menu", "_law_most", "_law_result", "_law_turn", "_law_axiom_here"] "_law_ontology" (defScope s_law_ontology) f cdv A ou s H E).env (cxOf (L2.CX P w) P w K mg base ["_law_stream_here", "_law_names_here", "_law_menu", "_law_most", "_law_result", "_law_turn", "_law_axiom_here"] "_law_ontology" (defScope s_law_ontology) f cdv A ou s H E).xe := passes_of rfl
  exact (pdb_cons (pds_set (i := 4) nd rfl (by first | exact Or.inl rfl | exact Or.inr rfl) (pd_lst pda_nil))
      (pdb_cons (pds_forR1 (j := 5) hpo rfl nd rfl (by first | exact Or.inl rfl | exact Or.inr rfl) rfl f_range (pda_cons (pd_callK k_law_draw hgd (hr.mono (by decide)) rfl tk (pda_cons (pd_var 0) (pda_cons (pd_op op_add4 opr_add nox_add (pd_var 3) pd_int) pda_nil))) pda_nil) (pdb_cons (pds_set (i := 6) nd rfl (by first | exact Or.inl rfl | exact Or.inr rfl) (pd_callK k_law_axiom hgd (hr.mono (by decide)) rfl tk (pda_cons (pd_var 0) (pda_cons (pd_var 1) (pda_cons (pd_var 2) pda_nil)))))
      (pdb_one (pds_if (PW.pt (pdw_and (pdt_cmp (op_notIn2 (hu65 hr)) opr_notIn nox_notIn (pd_var 6) (pd_var 4) (by rfl)) (pdw_and1 (pdt_val (pd_callK k_law_allowed hgd (hr.mono (by decide)) rfl tk (pda_cons (pd_op op_add4 opr_add nox_add (pd_var 4) (pd_lst (pda_cons (pd_var 6) pda_nil))) pda_nil)))))) (pdb_one (pds_expr (pd_app (pd_var 4) (pd_var 6) (fun _ _ a b => pe_bm PySem.F.plainAttrs_list PySem.F.slot_list_append PySem.F.type_list_append mt_append a b)))) pdb_nil))))
      (pdb_one (pds_ret (pd_var 4)))))

/-! ### _law_is_word -/
abbrev s_law_is_word : Stmt := top 22
def b_law_is_word : FS := (fSeq (fIfS (fOrT (fNotT (fTest (fIsi "str" (fVar 0)))) (fNotT (fTest (fChain opLe opLe (fC (.int 1)) (fCB opLen (fCons (fVar 0) fNil)) (fC (.int 8)))))) (fRet (fC (.bl false))) fNext)
      (fRet (fOp opEqD (fLc (fVar 0) 1 (fTest (fOp opNotIn (fVar 1) (fC (.str "abcdefghijklmnopqrstuvwxyz")))) (fVar 1)) (fLst fNil))))
def d_law_is_word : OC := mkF 1 2 b_law_is_word
theorem sc_law_is_word : FnScope ["_law_value", "_law_sign"] ["_law_value"] (defScope s_law_is_word) := ⟨rfl, rfl, rfl, by decide +kernel, rfl, by decide +kernel, by decide +kernel⟩
theorem kn_law_is_word {P : Program} {w : World} {K : PySem.W.Frag} {mg : Str → Option Value} {base : Heap} {EX : XR} {f : Addr} {fd : FuncData} (Fn : FunD K "_law_is_word" "_law_is_word" (defArgs s_law_is_word) (defBody s_law_is_word) (defScope s_law_is_word) [] [] f fd) (hm : mg "_law_is_word" = some (.ref f)) (f_isinstance : mg "isinstance" = none) (f_str : mg "str" = none) (f_len : mg "len" = none) :
    Kn P w K mg base EX "_law_is_word" 1 ["_law_value"] d_law_is_word := by
  refine kn_of Fn hm (Fn.bindsN fun _ _ _ _ _ _ us hl => match us, hl with | [_], _ => rfl) sc_law_is_word rfl fun cdv A ou s H E hgd hr => ?_
  have nd := sc_law_is_word.nd
  have hgd : (cxOf (L2.CX P w) P w K mg base ["_law_value", "_law_sign"] "_law_is_word" (defScope s_law_is_word) f cdv A ou s H E).A.guards = some [] := hgd
  have tk : Takes (cxOf (L2.CX P w) P w K mg base ["_law_value", "_law_sign"] "_law_is_word" (defScope s_law_is_word) f cdv A ou s H E) (fun cls d _ H => E cls d H) := takes_of rfl rfl rfl rfl
  have hpo : PassesOwn (model P w) (cxOf (L2.CX P w) P w K mg base ["_law_value", "_law_sign"] "_law_is_word" (defScope s_law_is_word) f cdv A ou s H E).A (cxOf (L2.CX P w) P w K mg base ["_law_value", "_law_sign"] "_law_is_word" (defScope s_law_is_word) f cdv A ou s H E).env (cxOf (L2.CX P w) P w K mg base ["_law_value", "_law_sign"] "_law_is_word" (defScope s_law_is_word) f cdv A ou s H E).xe := passes_of rfl
  exact (pdb_cons (pds_if (PW.pt (pdw_or (pdt_not (pdt_val (pd_isi (T := "str") (pd_var 0) rfl f_isinstance rfl f_str (by decide +kernel)))) (pdw_or1 (pdt_not (pdt_chain op_le opr_I0b nox_I op_le opr_I0b nox_I pd_int (pd_callB call_len clr_len nox_len (by rfl) f_len PySem.boot_len (pda_cons (pd_var 0) pda_nil)) pd_int))))) (pdb_one (pds_ret pd_bl)) pdb_nil)
      (pdb_one (pds_ret (pd_cmp (op_eq2 hr.units) opr_eq2 nox_eq2 (pd_lc rfl nd (blkOk_by (N := ["_law_value", "_law_sign"]) (sc := defScope s_law_is_word) (by decide +kernel)) (pd_var 0) (fun _ _ _ _ _ => pg_name (i := 1) nd rfl (Or.inl rfl)) (fun _ _ _ _ _ => (pdts_one (pdt_cmp (op_notIn2 (hu65 hr)) opr_notIn nox_notIn (pd_var 1) pd_str (by rfl)))) (fun _ _ _ _ _ => (pd_var 1))) (pd_lst pda_nil) (nomark _)))))

/-! ### _law_concept_ok -/
abbrev s_law_concept_ok : Stmt := top 23
def b_law_concept_ok : FS := (fSeq (fIfS (fOrT (fNotT (fTest (fIsi "tuple" (fVar 0)))) (fOrT (fTest (fOp opNeD (fCB opLen (fCons (fVar 0) fNil)) (fC (.int 2)))) (fNotT (fTest (fIsi "str" (fOp opIx (fVar 0) (fC (.int 0)))))))) (fRet (fC (.bl false))) fNext)
      (fRet (fAnd (fOp opIn (fOp opIx (fVar 0) (fC (.int 0))) (fTup (fCons (fC (.str "concept")) (fCons (fC (.str "out")) (fCons (fC (.str "in")) fNil))))) (fCB d_law_is_word (fCons (fOp opIx (fVar 0) (fC (.int 1))) fNil)))))
def d_law_concept_ok : OC := mkF 1 1 b_law_concept_ok
theorem sc_law_concept_ok : FnScope ["_law_value"] ["_law_value"] (defScope s_law_concept_ok) := ⟨rfl, rfl, rfl, by decide +kernel, rfl, by decide +kernel, by decide +kernel⟩
theorem kn_law_concept_ok {P : Program} {w : World} {K : PySem.W.Frag} {mg : Str → Option Value} {base : Heap} {EX : XR} {f : Addr} {fd : FuncData} (Fn : FunD K "_law_concept_ok" "_law_concept_ok" (defArgs s_law_concept_ok) (defBody s_law_concept_ok) (defScope s_law_concept_ok) [] [] f fd) (hm : mg "_law_concept_ok" = some (.ref f)) (f_isinstance : mg "isinstance" = none) (f_tuple : mg "tuple" = none) (f_len : mg "len" = none) (f_str : mg "str" = none) (k_law_is_word : Kn P w K mg base EX "_law_is_word" 1 ["_law_value"] d_law_is_word) :
    Kn P w K mg base EX "_law_concept_ok" 2 ["_law_value"] d_law_concept_ok := by
  refine kn_of Fn hm (Fn.bindsN fun _ _ _ _ _ _ us hl => match us, hl with | [_], _ => rfl) sc_law_concept_ok rfl fun cdv A ou s H E hgd hr => ?_
  have nd := sc_law_concept_ok.nd
  have hgd : (cxOf (L2.CX P w) P w K mg base ["_law_value"] "_law_concept_ok" (defScope s_law_concept_ok) f cdv A ou s H E).A.guards = some [] := hgd
  have tk : Takes (cxOf (L2.CX P w) P w K mg base ["_law_value"] "_law_concept_ok" (defScope s_law_concept_ok) f cdv A ou s H E) (fun cls d _ H => E cls d H) := takes_of rfl rfl rfl rfl
  have hpo : PassesOwn (model P w) (cxOf (L2.CX P w) P w K mg base ["_law_value"] "_law_concept_ok" (defScope s_law_concept_ok) f cdv A ou s H E).A (cxOf (L2.CX P w) P w K mg base ["_law_value"] "_law_concept_ok" (defScope s_law_concept_ok) f cdv A ou s H E).env (cxOf (L2.CX P w) P w K mg base ["_law_value"] "_law_concept_ok" (defScope s_law_concept_ok) f cdv A ou s H E).xe := passes_of rfl
  exact (pdb_cons (pds_if (PW.pt (pdw_or (pdt_not (pdt_val (pd_isi (T := "tuple") (pd_var 0) rfl f_isinstance rfl f_tuple (by decide +kernel)))) (pdw_or (pdt_cmp (op_ne2 hr.units) opr_ne2 nox_ne2 (pd_callB call_len clr_len nox_len (by rfl) f_len PySem.boot_len (pda_cons (pd_var 0) pda_nil)) pd_int (nomark _)) (pdw_or1 (pdt_not (pdt_val (pd_isi (T := "str") (pd_ix (pd_var 0) pd_int) rfl f_isinstance rfl f_str (by decide +kernel)))))))) (pdb_one (pds_ret pd_bl)) pdb_nil)
      (pdb_one (pds_ret (pd_and (pd_cmp (op_in2 (hu65 hr)) opr_in nox_in (pd_ix (pd_var 0) pd_int) (pd_tup (pda_cons pd_str (pda_cons pd_str (pda_cons pd_str pda_nil)))) (by rfl)) (pd_one (pd_callK k_law_is_word hgd (hr.mono (by decide)) rfl tk (pda_cons (pd_ix (pd_var 0) pd_int) pda_nil)))))))

/-! ### _law_axiom_ok -/
abbrev s_law_axiom_ok : Stmt := top 24
def b_law_axiom_ok : FS := (fSeq (fIfS (fOrT (fNotT (fTest (fIsi "tuple" (fVar 0)))) (fOrT (fTest (fOp opLt (fCB opLen (fCons (fVar 0) fNil)) (fC (.int 2)))) (fNotT (fTest (fIsi "str" (fOp opIx (fVar 0) (fC (.int 0)))))))) (fRet (fC (.bl false))) fNext)
      (fSeq (fIfS (fTest (fOp opEqD (fOp opIx (fVar 0) (fC (.int 0))) (fC (.str "functional")))) (fRet (fAnd (fOp opEqD (fCB opLen (fCons (fVar 0) fNil)) (fC (.int 2))) (fAnd (fCB d_law_concept_ok (fCons (fOp opIx (fVar 0) (fC (.int 1))) fNil)) (fOp opNeD (fOp opIx (fOp opIx (fVar 0) (fC (.int 1))) (fC (.int 0))) (fC (.str "concept")))))) fNext)
      (fSeq (fIfS (fTest (fOp opNeD (fCB opLen (fCons (fVar 0) fNil)) (fC (.int 3)))) (fRet (fC (.bl false))) fNext)
      (fSeq (fIfS (fTest (fOp opIn (fOp opIx (fVar 0) (fC (.int 0))) (fTup (fCons (fC (.str "subclass")) (fCons (fC (.str "disjoint")) fNil))))) (fRet (fAnd (fCB d_law_concept_ok (fCons (fOp opIx (fVar 0) (fC (.int 1))) fNil)) (fCB d_law_concept_ok (fCons (fOp opIx (fVar 0) (fC (.int 2))) fNil)))) fNext)
      (fSeq (fIfS (fTest (fOp opNotIn (fOp opIx (fVar 0) (fC (.int 0))) (fTup (fCons (fC (.str "subrole")) (fCons (fC (.str "subrole_inverse")) (fCons (fC (.str "disjoint_roles")) (fCons (fC (.str "disjoint_inverse")) fNil))))))) (fRet (fC (.bl false))) fNext)
      (fRet (fAnd (fCB d_law_is_word (fCons (fOp opIx (fVar 0) (fC (.int 1))) fNil)) (fCB d_law_is_word (fCons (fOp opIx (fVar 0) (fC (.int 2))) fNil)))))))))
def d_law_axiom_ok : OC := mkF 1 1 b_law_axiom_ok
theorem sc_law_axiom_ok : FnScope ["_law_value"] ["_law_value"] (defScope s_law_axiom_ok) := ⟨rfl, rfl, rfl, by decide +kernel, rfl, by decide +kernel, by decide +kernel⟩
theorem kn_law_axiom_ok {P : Program} {w : World} {K : PySem.W.Frag} {mg : Str → Option Value} {base : Heap} {EX : XR} {f : Addr} {fd : FuncData} (Fn : FunD K "_law_axiom_ok" "_law_axiom_ok" (defArgs s_law_axiom_ok) (defBody s_law_axiom_ok) (defScope s_law_axiom_ok) [] [] f fd) (hm : mg "_law_axiom_ok" = some (.ref f)) (f_isinstance : mg "isinstance" = none) (f_tuple : mg "tuple" = none) (f_len : mg "len" = none) (f_str : mg "str" = none) (k_law_concept_ok : Kn P w K mg base EX "_law_concept_ok" 2 ["_law_value"] d_law_concept_ok) (k_law_is_word : Kn P w K mg base EX "_law_is_word" 1 ["_law_value"] d_law_is_word) :
    Kn P w K mg base EX "_law_axiom_ok" 3 ["_law_value"] d_law_axiom_ok := by
  refine kn_of Fn hm (Fn.bindsN fun _ _ _ _ _ _ us hl => match us, hl with | [_], _ => rfl) sc_law_axiom_ok rfl fun cdv A ou s H E hgd hr => ?_
  have nd := sc_law_axiom_ok.nd
  have hgd : (cxOf (L2.CX P w) P w K mg base ["_law_value"] "_law_axiom_ok" (defScope s_law_axiom_ok) f cdv A ou s H E).A.guards = some [] := hgd
  have tk : Takes (cxOf (L2.CX P w) P w K mg base ["_law_value"] "_law_axiom_ok" (defScope s_law_axiom_ok) f cdv A ou s H E) (fun cls d _ H => E cls d H) := takes_of rfl rfl rfl rfl
  have hpo : PassesOwn (model P w) (cxOf (L2.CX P w) P w K mg base ["_law_value"] "_law_axiom_ok" (defScope s_law_axiom_ok) f cdv A ou s H E).A (cxOf (L2.CX P w) P w K mg base ["_law_value"] "_law_axiom_ok" (defScope s_law_axiom_ok) f cdv A ou s H E).env (cxOf (L2.CX P w) P w K mg base ["_law_value"] "_law_axiom_ok" (defScope s_law_axiom_ok) f cdv A ou s H E).xe := passes_of rfl
  exact (pdb_cons (pds_if (PW.pt (pdw_or (pdt_not (pdt_val (pd_isi (T := "tuple") (pd_var 0) rfl f_isinstance rfl f_tuple (by decide +kernel)))) (pdw_or (pdt_cmp op_lt opr_I0b nox_I (pd_callB call_len clr_len nox_len (by rfl) f_len PySem.boot_len (pda_cons (pd_var 0) pda_nil)) pd_int (nomark _)) (pdw_or1 (pdt_not (pdt_val (pd_isi (T := "str") (pd_ix (pd_var 0) pd_int) rfl f_isinstance rfl f_str (by decide +kernel)))))))) (pdb_one (pds_ret pd_bl)) pdb_nil)
      (pdb_cons (pds_if (pdt_cmp (op_eq2 hr.units) opr_eq2 nox_eq2 (pd_ix (pd_var 0) pd_int) pd_str (nomark _)) (pdb_one (pds_ret (pd_and (pd_cmp (op_eq2 hr.units) opr_eq2 nox_eq2 (pd_callB call_len clr_len nox_len (by rfl) f_len PySem.boot_len (pda_cons (pd_var 0) pda_nil)) pd_int (nomark _)) (pd_and (pd_callK k_law_concept_ok hgd (hr.mono (by decide)) rfl tk (pda_cons (pd_ix (pd_var 0) pd_int) pda_nil)) (pd_one (pd_cmp (op_ne2 hr.units) opr_ne2 nox_ne2 (pd_ix (pd_ix (pd_var 0) pd_int) pd_int) pd_str (nomark _))))))) pdb_nil)
      (pdb_cons (pds_if (pdt_cmp (op_ne2 hr.units) opr_ne2 nox_ne2 (pd_callB call_len clr_len nox_len (by rfl) f_len PySem.boot_len (pda_cons (pd_var 0) pda_nil)) pd_int (nomark _)) (pdb_one (pds_ret pd_bl)) pdb_nil)
      (pdb_cons (pds_if (pdt_cmp (op_in2 (hu65 hr)) opr_in nox_in (pd_ix (pd_var 0) pd_int) (pd_tup (pda_cons pd_str (pda_cons pd_str pda_nil))) (by rfl)) (pdb_one (pds_ret (pd_and (pd_callK k_law_concept_ok hgd (hr.mono (by decide)) rfl tk (pda_cons (pd_ix (pd_var 0) pd_int) pda_nil)) (pd_one (pd_callK k_law_concept_ok hgd (hr.mono (by decide)) rfl tk (pda_cons (pd_ix (pd_var 0) pd_int) pda_nil)))))) pdb_nil)
      (pdb_cons (pds_if (pdt_cmp (op_notIn2 (hu65 hr)) opr_notIn nox_notIn (pd_ix (pd_var 0) pd_int) (pd_tup (pda_cons pd_str (pda_cons pd_str (pda_cons pd_str (pda_cons pd_str pda_nil))))) (by rfl)) (pdb_one (pds_ret pd_bl)) pdb_nil)
      (pdb_one (pds_ret (pd_and (pd_callK k_law_is_word hgd (hr.mono (by decide)) rfl tk (pda_cons (pd_ix (pd_var 0) pd_int) pda_nil)) (pd_one (pd_callK k_law_is_word hgd (hr.mono (by decide)) rfl tk (pda_cons (pd_ix (pd_var 0) pd_int) pda_nil)))))))))))

/-! ### _law_check -/
abbrev s_law_check : Stmt := top 25
def b_law_check : FS := (fSeq (fSet 1 (fCB opRepr (fCons (fVar 0) fNil)))
      (fSeq (fSet 2 (fLst (fCons (fCB opRepr (fCons (fCB d_is_concept (fCons (fVar 0) fNil)) fNil)) (fCons (fCB opRepr (fCons (fCB d_is_axiom (fCons (fVar 0) fNil)) fNil)) fNil))))
      (fRet (fAnd (fOp opEqD (fVar 2) (fLst (fCons (fCB opRepr (fCons (fCB d_law_concept_ok (fCons (fVar 0) fNil)) fNil)) (fCons (fCB opRepr (fCons (fCB d_law_axiom_ok (fCons (fVar 0) fNil)) fNil)) fNil)))) (fOp opEqD (fCB opRepr (fCons (fVar 0) fNil)) (fVar 1))))))
def d_law_check : OC := mkF 1 3 b_law_check
theorem sc_law_check : FnScope ["_law_value", "_law_before", "_law_result"] ["_law_value"] (defScope s_law_check) := ⟨rfl, rfl, rfl, by decide +kernel, rfl, by decide +kernel, by decide +kernel⟩
theorem kn_law_check {P : Program} {w : World} {K : PySem.W.Frag} {mg : Str → Option Value} {base : Heap} {EX : XR} {f : Addr} {fd : FuncData} (Fn : FunD K "_law_check" "_law_check" (defArgs s_law_check) (defBody s_law_check) (defScope s_law_check) [] [] f fd) (hm : mg "_law_check" = some (.ref f)) (f_repr : mg "repr" = none) (k_is_axiom : Kn P w K mg base EX "is_axiom" 4 ["candidate"] d_is_axiom) (k_is_concept : Kn P w K mg base EX "is_concept" 3 ["candidate"] d_is_concept) (k_law_axiom_ok : Kn P w K mg base EX "_law_axiom_ok" 3 ["_law_value"] d_law_axiom_ok) (k_law_concept_ok : Kn P w K mg base EX "_law_concept_ok" 2 ["_law_value"] d_law_concept_ok) :
    Kn P w K mg base EX "_law_check" 5 ["_law_value"] d_law_check := by
  refine kn_of Fn hm (Fn.bindsN fun _ _ _ _ _ _ us hl => match us, hl with | [_], _ => rfl) sc_law_check rfl fun cdv A ou s H E hgd hr => ?_
  have nd := sc_law_check.nd
  have hgd : (cxOf (L2.CX P w) P w K mg base ["_law_value", "_law_before", "_law_result"] "_law_check" (defScope s_law_check) f cdv A ou s H E).A.guards = some [] := hgd
  have tk : Takes (cxOf (L2.CX P w) P w K mg base ["_law_value", "_law_before", "_law_result"] "_law_check" (defScope s_law_check) f cdv A ou s H E) (fun cls d _ H => E cls d H) := takes_of rfl rfl rfl rfl
  have hpo : PassesOwn (model P w) (cxOf (L2.CX P w) P w K mg base ["_law_value", "_law_before", "_law_result"] "_law_check" (defScope s_law_check) f cdv A ou s H E).A (cxOf (L2.CX P w) P w K mg base ["_law_value", "_law_before", "_law_result"] "_law_check" (defScope s_law_check) f cdv A ou s H E).env (cxOf (L2.CX P w) P w K mg base ["_law_value", "_law_before", "_law_result"] "_law_check" (defScope s_law_check) f cdv A ou s H E).xe := passes_of rfl
  exact (pdb_cons (pds_set (i := 1) nd rfl (by first | exact Or.inl rfl | exact Or.inr rfl) (pd_callB (call_repr hgd hr.units) clr_repr nox_repr (by rfl) f_repr PyProof.Rows.boot_repr (pda_cons (pd_var 0) pda_nil)))
      (pdb_cons (pds_set (i := 2) nd rfl (by first | exact Or.inl rfl | exact Or.inr rfl) (pd_lst (pda_cons (pd_callB (call_repr hgd hr.units) clr_repr nox_repr (by rfl) f_repr PyProof.Rows.boot_repr (pda_cons (pd_callK k_is_concept hgd (hr.mono (by decide)) rfl tk (pda_cons (pd_var 0) pda_nil)) pda_nil)) (pda_cons (pd_callB (call_repr hgd hr.units) clr_repr nox_repr (by rfl) f_repr PyProof.Rows.boot_repr (pda_cons (pd_callK k_is_axiom hgd (hr.mono (by decide)) rfl tk (pda_cons (pd_var 0) pda_nil)) pda_nil)) pda_nil))))
      (pdb_one (pds_ret (pd_and (pd_cmp (op_eq2 hr.units) opr_eq2 nox_eq2 (pd_var 2) (pd_lst (pda_cons (pd_callB (call_repr hgd hr.units) clr_repr nox_repr (by rfl) f_repr PyProof.Rows.boot_repr (pda_cons (pd_callK k_law_concept_ok hgd (hr.mono (by decide)) rfl tk (pda_cons (pd_var 0) pda_nil)) pda_nil)) (pda_cons (pd_callB (call_repr hgd hr.units) clr_repr nox_repr (by rfl) f_repr PyProof.Rows.boot_repr (pda_cons (pd_callK k_law_axiom_ok hgd (hr.mono (by decide)) rfl tk (pda_cons (pd_var 0) pda_nil)) pda_nil)) pda_nil))) (nomark _)) (pd_one (pd_cmp (op_eq2 hr.units) opr_eq2 nox_eq2 (pd_callB (call_repr hgd hr.units) clr_repr nox_repr (by rfl) f_repr PyProof.Rows.boot_repr (pda_cons (pd_var 0) pda_nil)) (pd_var 1) (nomark _))))))))

/-! ### _law_fixed -/
abbrev s_law_fixed : Stmt := top 26
def b_law_fixed : FS := (fSeq (fSet 0 (fLst (fCons (fC .non) (fCons (fC (.bl true)) (fCons (fC (.int 0)) (fCons (fC (.int 5)) (fCons (fC (.str "")) (fCons (fC (.str "concept")) (fCons (fTup fNil) (fCons (fLst fNil) (fCons fEmp (fCons (fTup (fCons (fC (.str "concept")) fNil)) (fCons (fTup (fCons (fC (.str "concept")) (fCons (fC (.str "a")) (fCons (fC (.str "b")) fNil)))) (fCons (fLst (fCons (fC (.str "concept")) (fCons (fC (.str "a")) fNil))) (fCons (fTup (fCons (fC (.str "concept")) (fCons (fC (.str "A")) fNil))) fNil)))))))))))))))
      (fSeq (fSet 0 (fOp opAdd (fVar 0) (fLst (fCons (fTup (fCons (fC (.str "concept")) (fCons (fC (.str "")) fNil))) (fCons (fTup (fCons (fC (.str "concept")) (fCons (fC (.str "abcdefgh")) fNil))) (fCons (fTup (fCons (fC (.str "concept")) (fCons (fC (.str "abcdefghi")) fNil))) (fCons (fTup (fCons (fC (.str "out")) (fCons (fC (.int 5)) fNil))) (fCons (fTup (fCons (fC (.str "in")) (fCons (fC (.str "r1")) fNil))) (fCons (fTup (fCons (fC (.str "Has")) (fCons (fC (.str "r")) fNil))) fNil)))))))))
      (fSeq (fSet 0 (fOp opAdd (fVar 0) (fLst (fCons (fTup (fCons (fC (.str "kinds")) (fCons (fC (.str "a")) fNil))) (fCons (fTup (fCons (fC (.int 5)) (fCons (fC (.str "a")) fNil))) (fCons (fTup (fCons (fLst (fCons (fC (.str "out")) fNil)) (fCons (fC (.str "r")) fNil))) (fCons (fTup (fCons fEmp (fCons (fC (.str "r")) fNil))) (fCons (fTup (fCons (fC (.str "out")) (fCons (fC (.str "r ")) fNil))) (fCons (fTup (fCons (fC (.str "in")) (fCons (fC (.str " r")) fNil))) (fCons (fTup (fCons (fC (.str "out")) (fCons (fC (.str "r\n")) fNil))) fNil))))))))))
      (fSeq (fSet 0 (fOp opAdd (fVar 0) (fLst (fCons (fTup (fCons (fC (.str "out")) (fCons (fLst (fCons (fC (.str "r")) fNil)) fNil))) (fCons (fTup (fCons (fTup (fCons (fC (.str "out")) (fCons (fC (.str "r")) fNil))) fNil)) (fCons (fTup (fCons (fC (.bl true)) (fCons (fC (.str "a")) fNil))) (fCons (fTup (fCons (fC (.str "functional")) fNil)) (fCons (fTup (fCons (fC (.str "functional")) (fCons (fC (.str "r")) fNil))) (fCons (fTup (fCons (fC (.str "functional")) (fCons (fTup (fCons (fC (.str "concept")) (fCons (fC (.str "a")) fNil))) fNil))) fNil)))))))))
      (fSeq (fSet 0 (fOp opAdd (fVar 0) (fLst (fCons (fTup (fCons (fC (.str "subclass")) (fCons (fC (.str "a")) (fCons (fC (.str "b")) fNil)))) (fCons (fTup (fCons (fC (.str "subrole")) (fCons (fTup (fCons (fC (.str "out")) (fCons (fC (.str "r")) fNil))) (fCons (fTup (fCons (fC (.str "out")) (fCons (fC (.str "s")) fNil))) fNil)))) (fCons (fTup (fCons (fC (.str "disjoint_roles")) (fCons (fC (.str "r")) fNil))) fNil))))))
      (fSeq (fDrop (fApp (fVar 0) (fTup (fCons (fC (.str "disjoint_inverse")) (fCons (fC (.str "r")) (fCons (fC (.str "r")) (fCons (fC (.str "r")) fNil)))))))
      (fRet (fOp opAdd (fVar 0) (fLst (fCons (fTup (fCons (fC (.str "functional")) (fCons (fTup (fCons (fC (.str "out")) (fCons (fC (.str "r")) fNil))) (fCons (fTup (fCons (fC (.str "out")) (fCons (fC (.str "r")) fNil))) fNil)))) (fCons (fTup (fCons (fC (.str "subclass")) (fCons (fTup (fCons (fC (.str "concept")) (fCons (fC (.str "a")) fNil))) fNil))) fNil)))))))))))
def d_law_fixed : OC := mkF 0 1 b_law_fixed
theorem sc_law_fixed : FnScope ["_law_items"] [] (defScope s_law_fixed) := ⟨rfl, rfl, rfl, by decide +kernel, rfl, by decide +kernel, by decide +kernel⟩
theorem kn_law_fixed {P : Program} {w : World} {K : PySem.W.Frag} {mg : Str → Option Value} {base : Heap} {EX : XR} {f : Addr} {fd : FuncData} (Fn : FunD K "_law_fixed" "_law_fixed" (defArgs s_law_fixed) (defBody s_law_fixed) (defScope s_law_fixed) [] [] f fd) (hm : mg "_law_fixed" = some (.ref f)) :
    Kn P w K mg base EX "_law_fixed" 1 [] d_law_fixed := by
  refine kn_of Fn hm (Fn.bindsN fun _ _ _ _ _ _ us hl => match us, hl with | [], _ => rfl) sc_law_fixed rfl fun cdv A ou s H E hgd hr => ?_
  have nd := sc_law_fixed.nd
  have hgd : (cxOf (L2.CX P w) P w K mg base ["_law_items"] "_law_fixed" (defScope s_law_fixed) f cdv A ou s H E).A.guards = some [] := hgd
  have tk : Takes (cxOf (L2.CX P w) P w K mg base ["_law_items"] "_law_fixed" (defScope s_law_fixed) f cdv A ou s H E) (fun cls d _ H => E cls d H) := takes_of rfl rfl rfl rfl
  have hpo : PassesOwn (model P w) (cxOf (L2.CX P w) P w K mg base ["_law_items"] "_law_fixed" (defScope s_law_fixed) f cdv A ou s H E).A (cxOf (L2.CX P w) P w K mg base ["_law_items"] "_law_fixed" (defScope s_law_fixed) f cdv A ou s H E).env (cxOf (L2.CX P w) P w K mg base ["_law_items"] "_law_fixed" (defScope s_law_fixed) f cdv A ou s H E).xe := passes_of rfl
  exact (pdb_cons (pds_set (i := 0) nd rfl (by first | exact Or.inl rfl | exact Or.inr rfl) (pd_lst (pda_cons pd_non (pda_cons pd_bl (pda_cons pd_int (pda_cons pd_int (pda_cons pd_str (pda_cons pd_str (pda_cons (pd_tup pda_nil) (pda_cons (pd_lst pda_nil) (pda_cons pd_emp (pda_cons (pd_tup (pda_cons pd_str pda_nil)) (pda_cons (pd_tup (pda_cons pd_str (pda_cons pd_str (pda_cons pd_str pda_nil)))) (pda_cons (pd_lst (pda_cons pd_str (pda_cons pd_str pda_nil))) (pda_cons (pd_tup (pda_cons pd_str (pda_cons pd_str pda_nil))) pda_nil)))))))))))))))
      (pdb_cons (pds_set (i := 0) nd rfl (by first | exact Or.inl rfl | exact Or.inr rfl) (pd_op op_add4 opr_add nox_add (pd_var 0) (pd_lst (pda_cons (pd_tup (pda_cons pd_str (pda_cons pd_str pda_nil))) (pda_cons (pd_tup (pda_cons pd_str (pda_cons pd_str pda_nil))) (pda_cons (pd_tup (pda_cons pd_str (pda_cons pd_str pda_nil))) (pda_cons (pd_tup (pda_cons pd_str (pda_cons pd_int pda_nil))) (pda_cons (pd_tup (pda_cons pd_str (pda_cons pd_str pda_nil))) (pda_cons (pd_tup (pda_cons pd_str (pda_cons pd_str pda_nil))) pda_nil)))))))))
      (pdb_cons (pds_set (i := 0) nd rfl (by first | exact Or.inl rfl | exact Or.inr rfl) (pd_op op_add4 opr_add nox_add (pd_var 0) (pd_lst (pda_cons (pd_tup (pda_cons pd_str (pda_cons pd_str pda_nil))) (pda_cons (pd_tup (pda_cons pd_int (pda_cons pd_str pda_nil))) (pda_cons (pd_tup (pda_cons (pd_lst (pda_cons pd_str pda_nil)) (pda_cons pd_str pda_nil))) (pda_cons (pd_tup (pda_cons pd_emp (pda_cons pd_str pda_nil))) (pda_cons (pd_tup (pda_cons pd_str (pda_cons pd_str pda_nil))) (pda_cons (pd_tup (pda_cons pd_str (pda_cons pd_str pda_nil))) (pda_cons (pd_tup (pda_cons pd_str (pda_cons pd_str pda_nil))) pda_nil))))))))))
      (pdb_cons (pds_set (i := 0) nd rfl (by first | exact Or.inl rfl | exact Or.inr rfl) (pd_op op_add4 opr_add nox_add (pd_var 0) (pd_lst (pda_cons (pd_tup (pda_cons pd_str (pda_cons (pd_lst (pda_cons pd_str pda_nil)) pda_nil))) (pda_cons (pd_tup (pda_cons (pd_tup (pda_cons pd_str (pda_cons pd_str pda_nil))) pda_nil)) (pda_cons (pd_tup (pda_cons pd_bl (pda_cons pd_str pda_nil))) (pda_cons (pd_tup (pda_cons pd_str pda_nil)) (pda_cons (pd_tup (pda_cons pd_str (pda_cons pd_str pda_nil))) (pda_cons (pd_tup (pda_cons pd_str (pda_cons (pd_tup (pda_cons pd_str (pda_cons pd_str pda_nil))) pda_nil))) pda_nil)))))))))
      (pdb_cons (pds_set (i := 0) nd rfl (by first | exact Or.inl rfl | exact Or.inr rfl) (pd_op op_add4 opr_add nox_add (pd_var 0) (pd_lst (pda_cons (pd_tup (pda_cons pd_str (pda_cons pd_str (pda_cons pd_str pda_nil)))) (pda_cons (pd_tup (pda_cons pd_str (pda_cons (pd_tup (pda_cons pd_str (pda_cons pd_str pda_nil))) (pda_cons (pd_tup (pda_cons pd_str (pda_cons pd_str pda_nil))) pda_nil)))) (pda_cons (pd_tup (pda_cons pd_str (pda_cons pd_str pda_nil))) pda_nil))))))
      (pdb_cons (pds_expr (pd_app (pd_var 0) (pd_tup (pda_cons pd_str (pda_cons pd_str (pda_cons pd_str (pda_cons pd_str pda_nil))))) (fun _ _ a b => pe_bm PySem.F.plainAttrs_list PySem.F.slot_list_append PySem.F.type_list_append mt_append a b)))
      (pdb_one (pds_ret (pd_op op_add4 opr_add nox_add (pd_var 0) (pd_lst (pda_cons (pd_tup (pda_cons pd_str (pda_cons (pd_tup (pda_cons pd_str (pda_cons pd_str pda_nil))) (pda_cons (pd_tup (pda_cons pd_str (pda_cons pd_str pda_nil))) pda_nil)))) (pda_cons (pd_tup (pda_cons pd_str (pda_cons (pd_tup (pda_cons pd_str (pda_cons pd_str pda_nil))) pda_nil))) pda_nil))))))))))))

/-! ### _law_mutated -/
abbrev s_law_mutated : Stmt := top 27
def b_law_mutated : FS := (fSeq (fSet 2 (fLst (fCons (fC .non) (fCons (fC (.bl true)) (fCons (fC (.int 1)) (fCons (fC (.str "")) (fCons (fC (.str "a b")) (fCons (fC (.str "A")) (fCons (fC (.str "abcdefghi")) (fCons (fTup fNil) (fCons (fLst fNil) (fCons fEmp (fCons (fLst (fCons (fC (.str "out")) (fCons (fC (.str "r")) fNil))) (fCons (fTup (fCons (fC (.str "concept")) fNil)) (fCons (fTup (fCons (fC (.str "out")) (fCons (fC (.int 1)) fNil))) (fCons (fTup (fCons (fC (.str "in")) (fCons (fC (.str "")) fNil))) fNil))))))))))))))))
      (fSeq (fSet 2 (fOp opAdd (fVar 2) (fLst (fCons (fC (.str "subclass")) (fCons (fC (.str "functional")) (fCons (fC (.str "out")) (fCons (fTup (fCons (fC (.str "out")) (fCons (fC (.str "r")) fNil))) (fCons (fTup (fCons (fC (.str "concept")) (fCons (fC (.str "a")) fNil))) (fCons (fTup (fCons (fC (.str "concept")) (fCons (fTup (fCons (fC (.str "concept")) (fCons (fC (.str "a")) fNil))) fNil))) fNil)))))))))
      (fSeq (fSet 3 (fCB d_law_draw (fCons (fVar 0) (fCons (fCB opLen (fCons (fVar 1) fNil)) fNil))))
      (fSeq (fSet 4 (fCB d_law_draw (fCons (fVar 0) (fCons (fC (.int 6)) fNil))))
      (fSeq (fIfS (fTest (fOp opEqD (fVar 4) (fC (.int 0)))) (fRet (fCB opList (fCons (fVar 1) fNil))) fNext)
      (fSeq (fIfS (fTest (fOp opEqD (fVar 4) (fC (.int 1)))) (fRet (fOp opAdd (fSl (fVar 1) fNoPart (fPart (fVar 3))) (fSl (fVar 1) (fPart (fOp opAdd (fVar 3) (fC (.int 1)))) fNoPart))) fNext)
      (fSeq (fIfS (fTest (fOp opEqD (fVar 4) (fC (.int 2)))) (fRet (fOp opAdd (fVar 1) (fTup (fCons (fCB d_law_choose (fCons (fVar 0) (fCons (fVar 2) fNil))) fNil)))) fNext)
      (fRet (fOp opAdd (fOp opAdd (fSl (fVar 1) fNoPart (fPart (fVar 3))) (fTup (fCons (fCB d_law_choose (fCons (fVar 0) (fCons (fVar 2) fNil))) fNil))) (fSl (fVar 1) (fPart (fOp opAdd (fVar 3) (fC (.int 1)))) fNoPart))))))))))
def d_law_mutated : OC := mkF 2 5 b_law_mutated
theorem sc_law_mutated : FnScope ["_law_stream_here", "_law_value", "_law_odd", "_law_position", "_law_choice"] ["_law_stream_here", "_law_value"] (defScope s_law_mutated) := ⟨rfl, rfl, rfl, by decide +kernel, rfl, by decide +kernel, by decide +kernel⟩
theorem kn_law_mutated {P : Program} {w : World} {K : PySem.W.Frag} {mg : Str → Option Value} {base : Heap} {EX : XR} {f : Addr} {fd : FuncData} (Fn : FunD K "_law_mutated" "_law_mutated" (defArgs s_law_mutated) (defBody s_law_mutated) (defScope s_law_mutated) [] [] f fd) (hm : mg "_law_mutated" = some (.ref f)) (f_len : mg "len" = none) (f_list : mg "list" = none) (k_law_draw : Kn P w K mg base EX "_law_draw" 1 ["_law_stream_here", "_law_count"] d_law_draw) (k_law_choose : Kn P w K mg base EX "_law_choose" 2 ["_law_stream_here", "_law_items"] d_law_choose) :
    Kn P w K mg base EX "_law_mutated" 3 ["_law_stream_here", "_law_value"] d_law_mutated := by
  refine kn_of Fn hm (Fn.bindsN fun _ _ _ _ _ _ us hl => match us, hl with | [_, _], _ => rfl) sc_law_mutated rfl fun cdv A ou s H E hgd hr => ?_
  have nd := sc_law_mutated.nd
  have hgd : (cxOf (L2.CX P w) P w K mg base ["_law_stream_here", "_law_value", "_law_odd", "_law_position", "_law_choice"] "_law_mutated" (defScope s_law_mutated) f cdv A ou s H E).A.guards = some [] := hgd
  have tk : Takes (cxOf (L2.CX P w) P w K mg base ["_law_stream_here", "_law_value", "_law_odd", "_law_position", "_law_choice"] "_law_mutated" (defScope s_law_mutated) f cdv A ou s H E) (fun cls d _ H => E cls d H) := takes_of rfl rfl rfl rfl
  have hpo : PassesOwn (model P w) (cxOf (L2.CX P w) P w K mg base ["_law_stream_here", "_law_value", "_law_odd", "_law_position", "_law_choice"] "_law_mutated" (defScope s_law_mutated) f cdv A ou s H E).A (cxOf (L2.CX P w) P w K mg base ["_law_stream_here", "_law_value", "_law_odd", "_law_position", "_law_choice"] "_law_mutated" (defScope s_law_mutated) f cdv A ou s H E).env (cxOf (L2.CX P w) P w K mg base ["_law_stream_here", "_law_value", "_law_odd", "_law_position", "_law_choice"] "_law_mutated" (defScope s_law_mutated) f cdv A ou s H E).xe := passes_of rfl
  exact (pdb_cons (pds_set (i := 2) nd rfl (by first | exact Or.inl rfl | exact Or.inr rfl) (pd_lst (pda_cons pd_non (pda_cons pd_bl (pda_cons pd_int (pda_cons pd_str (pda_cons pd_str (pda_cons pd_str (pda_cons pd_str (pda_cons (pd_tup pda_nil) (pda_cons (pd_lst pda_nil) (pda_cons pd_emp (pda_cons (pd_lst (pda_cons pd_str (pda_cons pd_str pda_nil))) (pda_cons (pd_tup (pda_cons pd_str pda_nil)) (pda_cons (pd_tup (pda_cons pd_str (pda_cons pd_int pda_nil))) (pda_cons (pd_tup (pda_cons pd_str (pda_cons pd_str pda_nil))) pda_nil))))))))))))))))
      (pdb_cons (pds_set (i := 2) nd rfl (by first | exact Or.inl rfl | exact Or.inr rfl) (pd_op op_add4 opr_add nox_add (pd_var 2) (pd_lst (pda_cons pd_str (pda_cons pd_str (pda_cons pd_str (pda_cons (pd_tup (pda_cons pd_str (pda_cons pd_str pda_nil))) (pda_cons (pd_tup (pda_cons pd_str (pda_cons pd_str pda_nil))) (pda_cons (pd_tup (pda_cons pd_str (pda_cons (pd_tup (pda_cons pd_str (pda_cons pd_str pda_nil))) pda_nil))) pda_nil)))))))))
      (pdb_cons (pds_set (i := 3) nd rfl (by first | exact Or.inl rfl | exact Or.inr rfl) (pd_callK k_law_draw hgd (hr.mono (by decide)) rfl tk (pda_cons (pd_var 0) (pda_cons (pd_callB call_len clr_len nox_len (by rfl) f_len PySem.boot_len (pda_cons (pd_var 1) pda_nil)) pda_nil))))
      (pdb_cons (pds_set (i := 4) nd rfl (by first | exact Or.inl rfl | exact Or.inr rfl) (pd_callK k_law_draw hgd (hr.mono (by decide)) rfl tk (pda_cons (pd_var 0) (pda_cons pd_int pda_nil))))
      (pdb_cons (pds_if (pdt_cmp (op_eq2 hr.units) opr_eq2 nox_eq2 (pd_var 4) pd_int (nomark _)) (pdb_one (pds_ret (pd_callTy call_list_of clr_list nox_list (by rfl) f_list (by decide +kernel) (pda_cons (pd_var 1) pda_nil)))) pdb_nil)
      (pdb_cons (pds_if (pdt_cmp (op_eq2 hr.units) opr_eq2 nox_eq2 (pd_var 4) pd_int (nomark _)) (pdb_one (pds_ret (pd_op op_add4 opr_add nox_add (pd_sl (pd_var 1) pdo_none (pdo_some (pd_var 3))) (pd_sl (pd_var 1) (pdo_some (pd_op op_add4 opr_add nox_add (pd_var 3) pd_int)) pdo_none)))) pdb_nil)
      (pdb_cons (pds_if (pdt_cmp (op_eq2 hr.units) opr_eq2 nox_eq2 (pd_var 4) pd_int (nomark _)) (pdb_one (pds_ret (pd_op op_add4 opr_add nox_add (pd_var 1) (pd_tup (pda_cons (pd_callK k_law_choose hgd (hr.mono (by decide)) rfl tk (pda_cons (pd_var 0) (pda_cons (pd_var 2) pda_nil))) pda_nil))))) pdb_nil)
      (pdb_one (pds_ret (pd_op op_add4 opr_add nox_add (pd_op op_add4 opr_add nox_add (pd_sl (pd_var 1) pdo_none (pdo_some (pd_var 3))) (pd_tup (pda_cons (pd_callK k_law_choose hgd (hr.mono (by decide)) rfl tk (pda_cons (pd_var 0) (pda_cons (pd_var 2) pda_nil))) pda_nil))) (pd_sl (pd_var 1) (pdo_some (pd_op op_add4 opr_add nox_add (pd_var 3) pd_int)) pdo_none)))))))))))

/-! ### law -/
abbrev s_law : Stmt := top 28
def b_law : FS := (fSeq (fIfS (fTest (fOp opNeD (fLc (fCB d_law_fixed fNil) 6 (fNotT (fTest (fCB d_law_check (fCons (fVar 6) fNil)))) (fVar 6)) (fLst fNil))) (fRet (fC (.bl false))) fNext)
      (fSeq (fSet 1 (fLst (fCons (fC (.str "subclass")) (fCons (fC (.str "disjoint")) (fCons (fC (.str "subrole")) (fCons (fC (.str "subrole_inverse")) (fCons (fC (.str "disjoint_roles")) (fCons (fC (.str "disjoint_inverse")) (fCons (fC (.str "functional")) fNil)))))))))
      (fSeq (fForR rng1 (fCons (fCB opMax2 (fCons (fC (.int 1)) (fCons (fCB opMin2 (fCons (fC (.int 12)) (fCons (fCB opLen (fCons (fVar 0) fNil)) fNil))) fNil))) fNil) 2 (fSeq (fSet 3 (fCB d_law_stream (fCons (fVar 0) (fCons (fVar 2) fNil))))
      (fSeq (fSet 4 (fCB d_law_names (fCons (fVar 3) fNil)))
      (fForR rng1 (fCons (fC (.int 6)) fNil) 5 (fFor (fLst (fCons (fCB d_law_concept (fCons (fVar 3) (fCons (fVar 4) fNil))) (fCons (fCB d_law_axiom (fCons (fVar 3) (fCons (fVar 4) (fCons (fVar 1) fNil)))) fNil))) 6 (fSeq (fIfS (fOrT (fNotT (fTest (fCB d_law_check (fCons (fVar 6) fNil)))) (fNotT (fTest (fCB d_law_check (fCons (fCB d_law_mutated (fCons (fVar 3) (fCons (fVar 6) fNil))) fNil))))) (fRet (fC (.bl false))) fNext)
      (fSeq (fSet 7 (fCB d_law_mutated (fCons (fVar 3) (fCons (fTup (fCons (fC (.str "out")) (fCons (fOp opIx (fOp opIx (fVar 4) (fC (.int 1))) (fC (.int 0))) fNil))) fNil))))
      (fIfS (fAndT (fTest (fOp opIn (fOp opIx (fVar 6) (fC (.int 0))) (fVar 1))) (fNotT (fTest (fCB d_law_check (fCons (fOp opAdd (fSl (fVar 6) fNoPart (fPart (fNeg (fC (.int 1))))) (fTup (fCons (fVar 7) fNil))) fNil))))) (fRet (fC (.bl false))) fNext))))))))
      (fRet (fC (.bl true))))))
def d_law : OC := mkF 1 8 b_law
theorem sc_law : FnScope ["_law_script", "_law_menu", "_law_k", "_law_stream_here", "_law_names_here", "_law_turn", "_law_value", "_law_last"] ["_law_script"] (defScope s_law) := ⟨rfl, rfl, rfl, by decide +kernel, rfl, by decide +kernel, by decide +kernel⟩
theorem fl_law {P : Program} {w : World} {K : PySem.W.Frag} {mg : Str → Option Value} {base : Heap} {EX : XR} {f : Addr} {fd : FuncData} (Fn : FunD K "law" "law" (defArgs s_law) (defBody s_law) (defScope s_law) [] [] f fd) (hm : mg "law" = some (.ref f)) (f_len : mg "len" = none) (f_min : mg "min" = none) (f_max : mg "max" = none) (f_range : mg "range" = none) (k_law_fixed : Kn P w K mg base EX "_law_fixed" 1 [] d_law_fixed) (k_law_check : Kn P w K mg base EX "_law_check" 5 ["_law_value"] d_law_check) (k_law_stream : Kn P w K mg base EX "_law_stream" 1 ["_law_script", "_law_k"] d_law_stream) (k_law_names : Kn P w K mg base EX "_law_names" 2 ["_law_stream_here"] d_law_names) (k_law_axiom : Kn P w K mg base EX "_law_axiom" 4 ["_law_stream_here", "_law_names_here", "_law_menu"] d_law_axiom) (k_law_concept : Kn P w K mg base EX "_law_concept" 3 ["_law_stream_here", "_law_names_here"] d_law_concept) (k_law_mutated : Kn P w K mg base EX "_law_mutated" 3 ["_law_stream_here", "_law_value"] d_law_mutated) :
    FnG P w K mg base 6 f fd ["_law_script"] (spI K EX d_law) := by
  refine fnJ_of Fn sc_law rfl fun cdv A ou s H E hgd hr => ?_
  have nd := sc_law.nd
  have hgd : (cxOf (L2.CX P w) P w K mg base ["_law_script", "_law_menu", "_law_k", "_law_stream_here", "_law_names_here", "_law_turn", "_law_value", "_law_last"] "law" (defScope s_law) f cdv A ou s H E).A.guards = some [] := hgd
  have tk : Takes (cxOf (L2.CX P w) P w K mg base ["_law_script", "_law_menu", "_law_k", "_law_stream_here", "_law_names_here", "_law_turn", "_law_value", "_law_last"] "law" (defScope s_law) f cdv A ou s H E) (fun cls d _ H => E cls d H) := takes_of rfl rfl rfl rfl
  have hpo : PassesOwn (model P w) (cxOf (L2.CX P w) P w K mg base ["_law_script", "_law_menu", "_law_k", "_law_stream_here", "_law_names_here", "_law_turn", "_law_value", "_law_last"] "law" (defScope s_law) f cdv A ou s H E).A (cxOf (L2.CX P w) P w K mg base ["_law_script", "_law_menu", "_law_k", "_law_stream_here", "_law_names_here", "_law_turn", "_law_value", "_law_last"] "law" (defScope s_law) f cdv A ou s H E).env (cxOf (L2.CX P w) P w K mg base ["_law_script", "_law_menu", "_law_k", "_law_stream_here", "_law_names_here", "_law_turn", "_law_value", "_law_last"] "law" (defScope s_law) f cdv A ou s H E).xe := passes_of rfl
  exact (pdb_cons (pds_if (pdt_cmp (op_ne2 hr.units) opr_ne2 nox_ne2 (pd_lc rfl nd (blkOk_by (N := ["_law_script", "_law_menu", "_law_k", "_law_stream_here", "_law_names_here", "_law_turn", "_law_value", "_law_last"]) (sc := defScope s_law) (by decide +kernel)) (pd_callK0 k_law_fixed hgd (hr.mono (by decide)) rfl tk) (fun _ _ _ _ _ => pg_name (i := 6) nd rfl (Or.inl rfl)) (fun _ _ _ _ _ => (pdts_one (pdt_not (pdt_val (pd_callK k_law_check hgd (hr.mono (by decide)) rfl takes0 (pda_cons (pd_var 6) pda_nil)))))) (fun _ _ _ _ _ => (pd_var 6))) (pd_lst pda_nil) (nomark _)) (pdb_one (pds_ret pd_bl)) pdb_nil)
      (pdb_cons (pds_set (i := 1) nd rfl (by first | exact Or.inl rfl | exact Or.inr rfl) (pd_lst (pda_cons pd_str (pda_cons pd_str (pda_cons pd_str (pda_cons pd_str (pda_cons pd_str (pda_cons pd_str (pda_cons pd_str pda_nil)))))))))
      (pdb_cons (pds_forR1 (j := 2) hpo rfl nd rfl (by first | exact Or.inl rfl | exact Or.inr rfl) rfl f_range (pda_cons (pd_callB (call_max2 rfl) clr_max nox_max (by rfl) f_max (by decide +kernel) (pda_cons pd_int (pda_cons (pd_callB (call_min2 rfl) clr_min nox_min (by rfl) f_min (by decide +kernel) (pda_cons pd_int (pda_cons (pd_callB call_len clr_len nox_len (by rfl) f_len PySem.boot_len (pda_cons (pd_var 0) pda_nil)) pda_nil))) pda_nil))) pda_nil) (pdb_cons (pds_set (i := 3) nd rfl (by first | exact Or.inl rfl | exact Or.inr rfl) (pd_callK k_law_stream hgd (hr.mono (by decide)) rfl tk (pda_cons (pd_var 0) (pda_cons (pd_var 2) pda_nil))))
      (pdb_cons (pds_set (i := 4) nd rfl (by first | exact Or.inl rfl | exact Or.inr rfl) (pd_callK k_law_names hgd (hr.mono (by decide)) rfl tk (pda_cons (pd_var 3) pda_nil)))
      (pdb_one (pds_forR1 (j := 5) hpo rfl nd rfl (by first | exact Or.inl rfl | exact Or.inr rfl) rfl f_range (pda_cons pd_int pda_nil) (pdb_one (pds_for (j := 6) hpo rfl nd rfl (by first | exact Or.inl rfl | exact Or.inr rfl) (pd_lst (pda_cons (pd_callK k_law_concept hgd (hr.mono (by decide)) rfl tk (pda_cons (pd_var 3) (pda_cons (pd_var 4) pda_nil))) (pda_cons (pd_callK k_law_axiom hgd (hr.mono (by decide)) rfl tk (pda_cons (pd_var 3) (pda_cons (pd_var 4) (pda_cons (pd_var 1) pda_nil)))) pda_nil))) (pdb_cons (pds_if (PW.pt (pdw_or (pdt_not (pdt_val (pd_callK k_law_check hgd (hr.mono (by decide)) rfl tk (pda_cons (pd_var 6) pda_nil)))) (pdw_or1 (pdt_not (pdt_val (pd_callK k_law_check hgd (hr.mono (by decide)) rfl tk (pda_cons (pd_callK k_law_mutated hgd (hr.mono (by decide)) rfl tk (pda_cons (pd_var 3) (pda_cons (pd_var 6) pda_nil))) pda_nil))))))) (pdb_one (pds_ret pd_bl)) pdb_nil)
      (pdb_cons (pds_set (i := 7) nd rfl (by first | exact Or.inl rfl | exact Or.inr rfl) (pd_callK k_law_mutated hgd (hr.mono (by decide)) rfl tk (pda_cons (pd_var 3) (pda_cons (pd_tup (pda_cons pd_str (pda_cons (pd_ix (pd_ix (pd_var 4) pd_int) pd_int) pda_nil))) pda_nil))))
      (pdb_one (pds_if (PW.pt (pdw_and (pdt_cmp (op_in2 (hu65 hr)) opr_in nox_in (pd_ix (pd_var 6) pd_int) (pd_var 1) (by rfl)) (pdw_and1 (pdt_not (pdt_val (pd_callK k_law_check hgd (hr.mono (by decide)) rfl tk (pda_cons (pd_op op_add4 opr_add nox_add (pd_sl (pd_var 6) pdo_none (pdo_some (pd_neg pd_int))) (pd_tup (pda_cons (pd_var 7) pda_nil))) pda_nil))))))) (pdb_one (pds_ret pd_bl)) pdb_nil)))))))))))
      (pdb_one (pds_ret pd_bl)))))

end K01

namespace K01
open PySem DI

/-! ### general lemmas -/
theorem lc_pure {G : Gt} {j : Nat} {t : FT} {f : FE} {env : Evn} {st : Sto} {items : List W} {p : W → Bool} {h : W → W} (hG : ∀ i, G st i = some items[i]?)
    (ht : ∀ w ∈ items, t (env.set j (some w)) st = some (.ok (p w), st)) (hf : ∀ w ∈ items, p w = true → f (env.set j (some w)) st = some (.ok (h w), st)) :
    ∀ (m i : Nat) (acc : List W), items.length + acc.length ≤ 1000000 + i → i ≤ items.length → m = items.length - i → acc.length ≤ i → lcLoop G j t f env (m + 1) i acc st = some (.ok (acc ++ ((items.drop i).filter p).map h), st)
  | m, i, acc, hz, hi, hm, ha => by
    unfold lcLoop
    rw [hG i]
    by_cases hlt : i < items.length
    · have e : items[i]? = some items[i] := by simp [hlt]
      have mem : items[i] ∈ items := List.getElem_mem hlt
      rw [e]
      simp only
      rw [ht _ mem]
      have dr : items.drop i = items[i] :: items.drop (i + 1) := List.drop_eq_getElem_cons hlt
      obtain ⟨m', rfl⟩ : ∃ m', m = m' + 1 := ⟨m - 1, by omega⟩
      cases hp : p items[i] with
      | true =>
        simp only
        rw [hf _ mem hp]
        have z : szW acc.length = true := decide_eq_true (by omega)
        simp only [z, if_true]
        rw [lc_pure hG ht hf m' (i + 1) (acc ++ [h items[i]]) (by simp; omega) hlt (by omega) (by simp; omega), dr, List.filter_cons, if_pos hp, List.map_cons, List.append_assoc]
        rfl
      | false =>
        simp only
        rw [lc_pure hG ht hf m' (i + 1) acc (by omega) hlt (by omega) (by omega), dr, List.filter_cons, if_neg (by rw [hp]; decide)]
    · have e : items[i]? = none := by simp; omega
      rw [e]
      have z : szW acc.length = true := decide_eq_true (by omega)
      simp only [z, if_true]
      have dr : items.drop i = [] := List.drop_eq_nil_of_le (by omega)
      simp [dr, DI.ret]
  termination_by m => m

/-! ### words -/
def LET : List Nat := ("abcdefghijklmnopqrstuvwxyz" : Str).cps.toList
def isW (w : W) : Bool := match w with
  | .str x => (decide (1 ≤ x.length) && decide (x.length ≤ 8)) && x.cps.toList.all fun c => decide (c ∈ LET)
  | _ => false
def sgn (c : Nat) : W := .str ⟨#[c]⟩
/-- a value whose kind is known -/
def tyOk (w : W) (st : Sto) : Prop := ∃ t, tyW w st = some t ∧ t ∈ ["NoneType", "bool", "int", "str", "tuple", "list", "dict"]
theorem isi_str {t : String} (h : t ∈ ["NoneType", "bool", "int", "str", "tuple", "list", "dict"]) : isiB "str" t = some (decide (t = "str")) := by
  simp only [List.mem_cons, List.not_mem_nil, or_false] at h
  rcases h with rfl | rfl | rfl | rfl | rfl | rfl | rfl <;> decide +kernel
theorem isi_tup {t : String} (h : t ∈ ["NoneType", "bool", "int", "str", "tuple", "list", "dict"]) : isiB "tuple" t = some (decide (t = "tuple")) := by
  simp only [List.mem_cons, List.not_mem_nil, or_false] at h
  rcases h with rfl | rfl | rfl | rfl | rfl | rfl | rfl <;> decide +kernel
def isStr (w : W) : Bool := match w with | .str _ => true | _ => false
def isTup (w : W) : Bool := match w with | .tup _ => true | _ => false
theorem ty_str {w : W} {st : Sto} {t : String} (h : tyW w st = some t) : decide (t = "str") = isStr w := by
  unfold tyW at h
  split at h <;> first | (cases h; rfl) | skip
  split at h <;> first | (cases h; rfl) | cases h
theorem ty_tup {w : W} {st : Sto} {t : String} (h : tyW w st = some t) : decide (t = "tuple") = isTup w := by
  unfold tyW at h
  split at h <;> first | (cases h; rfl) | skip
  split at h <;> first | (cases h; rfl) | cases h
theorem op_str {w : W} {st : Sto} (h : tyOk w st) : opIsi "str" [w] st = some (.ok (.bl (isStr w)), st) := by
  obtain ⟨t, h1, h2⟩ := h
  show (match tyW w st with | some t => (match isiB "str" t with | some b => ret (W.bl b) st | none => none) | none => none) = _
  rw [h1]; simp only; rw [isi_str h2]; simp only; rw [ty_str h1]; rfl
theorem op_tup {w : W} {st : Sto} (h : tyOk w st) : opIsi "tuple" [w] st = some (.ok (.bl (isTup w)), st) := by
  obtain ⟨t, h1, h2⟩ := h
  show (match tyW w st with | some t => (match isiB "tuple" t with | some b => ret (W.bl b) st | none => none) | none => none) = _
  rw [h1]; simp only; rw [isi_tup h2]; simp only; rw [ty_tup h1]; rfl
theorem tyOk_of {w : W} {st : Sto} {t : String} (h : tyW w st = some t) : tyOk w st := by
  refine ⟨t, h, ?_⟩
  unfold tyW at h
  split at h <;> first | (cases h; decide) | skip
  split at h <;> first | (cases h; decide) | cases h
theorem allB_map (p : Nat → Bool) : ∀ l : List Nat, allB (l.map fun c => W.bl (p c)) = some (l.all p)
  | [] => rfl
  | c :: l => by
    show (allB (l.map fun c => W.bl (p c))).map (p c && ·) = _
    rw [allB_map p l]; rfl
theorem gOf_str (x : Str) (st : Sto) (i : Nat) : gOf (.str x) st i = some ((x.cps.toList.map sgn)[i]?) := by
  show some ((x.cps[i]?).map fun c => W.str ⟨#[c]⟩) = _
  rw [List.getElem?_map, Array.getElem?_toList]; rfl
theorem opIn_sgn (c : Nat) (y : Str) (st : Sto) : opIn (sgn c) (.str y) st = some (.ok (.bl (decide (c ∈ y.cps.toList))), st) := rfl
theorem opNotIn_sgn (c : Nat) (y : Str) (st : Sto) : opNotIn (sgn c) (.str y) st = some (.ok (.bl (!decide (c ∈ y.cps.toList))), st) := rfl
end K01

namespace K01
open PySem DI
/-! ### steps -/
section
variable {env env1 : Evn} {st s1 s2 s3 : Sto} {a b c w : W} {fa fb fc : FE} {ws : List W} {fs : FA}
theorem e_var {i : Nat} (h : env[i]? = some (some w)) : fVar i env st = some (.ok w, st) := by unfold fVar; rw [h]; rfl
theorem e_op {op : O2} {o : Out W} (ha : fa env st = some (.ok a, s1)) (hb : fb env s1 = some (.ok b, s2)) (ho : op a b s2 = o) : fOp op fa fb env st = o := by
  unfold fOp; rw [ha]; show bnd (fb env s1) _ = _; rw [hb]; exact ho
theorem e_cb {op : OC} {o : Out W} (ha : fs env st = some (.ok ws, s1)) (ho : op ws s1 = o) : fCB op fs env st = o := by
  unfold fCB; rw [ha]; exact ho
theorem e_nil : fNil env st = some (.ok [], st) := rfl
theorem e_cons (ha : fa env st = some (.ok a, s1)) (hb : fs env s1 = some (.ok ws, s2)) : fCons fa fs env st = some (.ok (a :: ws), s2) := by
  unfold fCons; rw [ha]; show bnd (fs env s1) _ = _; rw [hb]; rfl
theorem e_isi {T : String} {o : Out W} (ha : fa env st = some (.ok a, s1)) (ho : opIsi T [a] s1 = o) : fIsi T fa env st = o := by
  unfold fIsi; rw [ha]; exact ho
theorem t_test {b : Bool} (ha : fa env st = some (.ok (.bl b), s1)) : fTest fa env st = some (.ok b, s1) := by
  unfold fTest; rw [ha]; rfl
theorem t_not {ft : FT} {b : Bool} (ha : ft env st = some (.ok b, s1)) : fNotT ft env st = some (.ok (!b), s1) := by
  unfold fNotT; rw [ha]; rfl
theorem t_orT {ft fu : FT} (ha : ft env st = some (.ok true, s1)) : fOrT ft fu env st = some (.ok true, s1) := by
  unfold fOrT; rw [ha]; rfl
theorem t_orF {ft fu : FT} {o : Out Bool} (ha : ft env st = some (.ok false, s1)) (hb : fu env s1 = o) : fOrT ft fu env st = o := by
  unfold fOrT; rw [ha]; exact hb
theorem t_andF {ft fu : FT} (ha : ft env st = some (.ok false, s1)) : fAndT ft fu env st = some (.ok false, s1) := by
  unfold fAndT; rw [ha]; rfl
theorem t_andT {ft fu : FT} {o : Out Bool} (ha : ft env st = some (.ok true, s1)) (hb : fu env s1 = o) : fAndT ft fu env st = o := by
  unfold fAndT; rw [ha]; exact hb
theorem e_andF (ha : fa env st = some (.ok (.bl false), s1)) : fAnd fa fb env st = some (.ok (.bl false), s1) := by
  unfold fAnd; rw [ha]; rfl
theorem e_andT {o : Out W} (ha : fa env st = some (.ok (.bl true), s1)) (hb : fb env s1 = o) : fAnd fa fb env st = o := by
  unfold fAnd; rw [ha]; exact hb
theorem e_tup (ha : fs env st = some (.ok ws, s1)) (hz : ws.length ≤ 1000000) : fTup fs env st = some (.ok (.tup ws), s1) := by
  unfold fTup; rw [ha]; show (if szW ws.length then _ else _) = _; have z : szW ws.length = true := decide_eq_true hz; rw [if_pos z]; rfl
theorem e_lst (ha : fs env st = some (.ok ws, s1)) (hz : ws.length ≤ 1000000) : fLst fs env st = some (.ok (.ref s1.length), s1 ++ [.lst ws]) := by
  unfold fLst; rw [ha]; show newL ws s1 = _; unfold newL; have z : szW ws.length = true := decide_eq_true hz; rw [if_pos z]
theorem s_set {i : Nat} (ha : fa env st = some (.ok a, s1)) : fSet i fa env st = some (.nx, env.set i (some a), s1) := by
  unfold fSet; rw [ha]; rfl
theorem s_ret (ha : fa env st = some (.ok a, s1)) : fRet fa env st = some (.rt a, env, s1) := by
  unfold fRet; rw [ha]; rfl
theorem s_seq {f g : FS} {o : OutS} (h1 : f env st = some (.nx, env1, s1)) (h2 : g env1 s1 = o) : fSeq f g env st = o := by
  unfold fSeq; rw [h1]; exact h2
theorem s_rt {f g : FS} (h1 : f env st = some (.rt a, env1, s1)) : fSeq f g env st = some (.rt a, env1, s1) := by
  unfold fSeq; rw [h1]
theorem s_ifT {c : FT} {f g : FS} {o : OutS} (h1 : c env st = some (.ok true, s1)) (h2 : f env s1 = o) : fIfS c f g env st = o := by
  unfold fIfS; rw [h1]; exact h2
theorem s_ifF {c : FT} {f g : FS} {o : OutS} (h1 : c env st = some (.ok false, s1)) (h2 : g env s1 = o) : fIfS c f g env st = o := by
  unfold fIfS; rw [h1]; exact h2
theorem f_rt {n m : Nat} {f : FS} (hn : ws.length = n) (h : f (ws.map some ++ List.replicate (m - n) none) st = some (.rt w, env1, s1)) : mkF n m f ws st = some (.ok w, s1) := by
  unfold mkF; rw [if_pos hn, h]
theorem e_lc {j n : Nat} {ft : FT} (ha : fa env st = some (.ok a, s1)) (hn : cnt a s1 = some n) (hl : lcLoop (gOf a) j ft fb (env.set j none) (n + 1) 0 [] s1 = some (.ok ws, s2)) : fLc fa j ft fb env st = some (.ok (.ref s2.length), s2 ++ [.lst ws]) := by
  unfold fLc; rw [ha]; show (match cnt a s1 with | some n => _ | none => _) = _; rw [hn]; show bnd (lcLoop _ _ _ _ _ _ _ _ _) addL = _; rw [hl]; rfl
theorem e_chainF {o o' : O2} (ha : fa env st = some (.ok a, s1)) (hb : fb env s1 = some (.ok b, s2)) (ho : o a b s2 = some (.ok (.bl false), s3)) : fChain o o' fa fb fc env st = some (.ok (.bl false), s3) := by
  unfold fChain; rw [ha]; show bnd (fb env s1) _ = _; rw [hb]; show bnd (o a b s2) _ = _; rw [ho]; rfl
theorem e_chainT {o o' : O2} {s4 : Sto} {ot : Out W} (ha : fa env st = some (.ok a, s1)) (hb : fb env s1 = some (.ok b, s2)) (ho : o a b s2 = some (.ok (.bl true), s3)) (hc : fc env s3 = some (.ok c, s4)) (h2 : o' b c s4 = ot) : fChain o o' fa fb fc env st = ot := by
  unfold fChain; rw [ha]; show bnd (fb env s1) _ = _; rw [hb]; show bnd (o a b s2) _ = _; rw [ho]; show bnd (fc env s3) _ = _; rw [hc]; exact h2
end
/-! ### words -/
theorem len_str {x : Str} {st : Sto} (hz : x.length ≤ 1000) : opLen [.str x] st = some (.ok (.int x.length), st) := by
  have z : szW x.length = true := decide_eq_true (by omega)
  show (match (if szW x.length then some x.length else none) with | some n => DI.ret (W.int n) st | none => none) = _
  rw [z]; rfl
theorem all_ref {st : Sto} {ws : List W} {b : Bool} (h : allB ws = some b) : opAll [.ref st.length] (st ++ [.lst ws]) = some (.ok (.bl b), st ++ [.lst ws]) := by
  show (match (st ++ [Ob.lst ws])[st.length]? with | some (.lst us) => bOut (allB us) (st ++ [Ob.lst ws]) | _ => none) = _
  simp [h, bOut, DI.ret]
/-- the first test of a word's def -/
theorem wtest {m : W} {env : Evn} {st : Sto} {x : Str} {fm : FE} (h0 : env[0]? = some (some (.str x))) (hm : ∀ st, fm env st = some (.ok (.int 8), st)) (hz : x.length ≤ 1000) :
    fOrT (fNotT (fTest (fIsi "str" (fVar 0)))) (fNotT (fTest (fChain opLe opLe (fC (.int 1)) (fCB opLen (fCons (fVar 0) fNil)) fm))) env st = some (.ok (!(decide (1 ≤ x.length) && decide (x.length ≤ 8))), st) := by
  refine t_orF (t_not (b := true) (t_test (e_isi (e_var h0) (op_str ⟨"str", rfl, by decide⟩)))) (t_not (t_test ?_))
  have l : fCB opLen (fCons (fVar 0) fNil) env st = some (.ok (.int x.length), st) := e_cb (e_cons (e_var h0) e_nil) (len_str hz)
  by_cases h1 : 1 ≤ x.length
  · have d : decide ((1 : Int) ≤ (x.length : Int)) = true := decide_eq_true (by omega)
    refine e_chainT (c := .int 8) (s4 := st) rfl l (by show DI.ret (W.bl (decide ((1 : Int) ≤ (x.length : Int)))) st = _; rw [d]; rfl) (hm st) ?_
    show DI.ret (W.bl (decide ((x.length : Int) ≤ 8))) st = _
    have e : decide ((x.length : Int) ≤ 8) = decide (x.length ≤ 8) := by by_cases q : x.length ≤ 8 <;> simp [q] <;> omega
    rw [e, decide_eq_true h1]; rfl
  · have d : decide ((1 : Int) ≤ (x.length : Int)) = false := decide_eq_false (by omega)
    rw [decide_eq_false h1]
    exact e_chainF rfl l (by show DI.ret (W.bl (decide ((1 : Int) ≤ (x.length : Int)))) st = _; rw [d]; rfl)
theorem word_str (x : Str) (st : Sto) (hz : x.length ≤ 1000) : ∃ l, d_is_word [.str x] st = some (.ok (.bl (isW (.str x))), st ++ l) := by
  have key : ∃ l, d_consists_of [.str x, c_LETTERS] st = some (.ok (.bl (isW (.str x))), st ++ l) := by
    have wt := wtest (m := .non) (env := [some (W.str x), some c_LETTERS, none]) (st := st) (x := x) (fm := fC c_MOST_CHARACTERS) rfl (fun _ => rfl) hz
    cases h8 : (decide (1 ≤ x.length) && decide (x.length ≤ 8)) with
    | true =>
      rw [h8] at wt
      have lcs := lc_pure (G := gOf (.str x)) (j := 2) (t := fYes) (f := fOp opIn (fVar 2) (fVar 1)) (env := [some (W.str x), some c_LETTERS, none]) (st := st) (items := x.cps.toList.map sgn) (p := fun _ => true)
        (h := fun w => match w with | .str y => .bl (decide ((y.cps.toList.headD 0) ∈ LET)) | _ => .non) (fun i => gOf_str x st i) (fun w _ => rfl) (fun w hw _ => by
          obtain ⟨c, _, rfl⟩ := List.mem_map.mp hw
          rfl) x.cps.size 0 [] (by simp; have : x.cps.size = x.length := rfl; omega) (Nat.zero_le _) (by simp) (by simp)
      have ev : ([] : List W) ++ (((x.cps.toList.map sgn).drop 0).filter fun _ => true).map (fun w => match w with | .str y => W.bl (decide ((y.cps.toList.headD 0) ∈ LET)) | _ => .non) = x.cps.toList.map fun c => W.bl (decide (c ∈ LET)) := by
        rw [List.nil_append, List.drop_zero, List.filter_eq_self.mpr (fun _ _ => rfl), List.map_map]; rfl
      rw [ev] at lcs
      refine ⟨[.lst (x.cps.toList.map fun c => .bl (decide (c ∈ LET)))], f_rt (env1 := [some (W.str x), some c_LETTERS, none]) rfl (s_seq (s_ifF wt rfl) (s_ret ?_))⟩
      have vb : isW (.str x) = x.cps.toList.all fun c => decide (c ∈ LET) := by unfold isW; simp only; rw [h8, Bool.true_and]
      rw [vb]
      exact e_cb (e_cons (e_lc (n := x.cps.size) (e_var rfl) rfl lcs) e_nil) (all_ref (allB_map _ _))
    | false =>
      rw [h8] at wt
      refine ⟨[], f_rt (env1 := [some (W.str x), some c_LETTERS, none]) rfl (s_rt (s_ifT wt (s_ret ?_)))⟩
      have vb : isW (.str x) = false := by unfold isW; simp only; rw [h8, Bool.false_and]
      rw [vb, List.append_nil]; rfl
  obtain ⟨l, h⟩ := key
  exact ⟨l, f_rt (env1 := [some (W.str x)]) rfl (s_ret (e_cb (e_cons (e_var rfl) (e_cons rfl e_nil)) h))⟩
theorem word_any (w : W) (st : Sto) (ht : tyOk w st) (hz : ∀ x, w = .str x → x.length ≤ 1000) : ∃ l, d_is_word [w] st = some (.ok (.bl (isW w)), st ++ l) := by
  by_cases hs : isStr w = true
  · cases w with
    | str x => exact word_str x st (hz x rfl)
    | _ => cases hs
  · have hs : isStr w = false := by simpa using hs
    have vb : isW w = false := by cases w <;> first | rfl | cases hs
    refine ⟨[], f_rt (env1 := [some w]) rfl (s_ret (e_cb (ws := [w, c_LETTERS]) (s1 := st) (e_cons (e_var rfl) (e_cons rfl e_nil)) ?_))⟩
    refine f_rt (env1 := [some w, some c_LETTERS, none]) rfl (s_rt (s_ifT (t_orT (t_not (b := false) (t_test (e_isi (e_var rfl) (by rw [op_str ht, hs]))))) (s_ret ?_)))
    rw [vb, List.append_nil]; rfl
end K01

namespace K01
open PySem DI
/-! ### values whose parts are known -/
def strB (w : W) : Bool := match w with | .str x => decide (x.length ≤ 1000) && PyData.strOk x | _ => true
def vok : Nat → Sto → W → Bool
  | 0, st, w => (tyW w st).isSome && strB w
  | n + 1, st, w => ((tyW w st).isSome && strB w) && match w with
    | .tup ws => decide (ws.length ≤ 1000) && ws.all (vok n st)
    | _ => true
theorem vok_ty : ∀ {n : Nat} {st : Sto} {w : W}, vok n st w = true → tyOk w st
  | 0, st, w, h => by
    unfold vok at h; rw [Bool.and_eq_true] at h
    obtain ⟨t, ht⟩ := Option.isSome_iff_exists.mp h.1
    exact tyOk_of ht
  | n + 1, st, w, h => by
    unfold vok at h; rw [Bool.and_eq_true, Bool.and_eq_true] at h
    obtain ⟨t, ht⟩ := Option.isSome_iff_exists.mp h.1.1
    exact tyOk_of ht
theorem vok_str : ∀ {n : Nat} {st : Sto} {x : Str}, vok n st (.str x) = true → x.length ≤ 1000 ∧ PyData.strOk x = true
  | 0, st, w, h => by
    unfold vok at h; rw [Bool.and_eq_true] at h
    have := h.2; unfold strB at this; simp only at this; rw [Bool.and_eq_true] at this
    exact ⟨of_decide_eq_true this.1, this.2⟩
  | n + 1, st, w, h => by
    unfold vok at h; rw [Bool.and_eq_true, Bool.and_eq_true] at h
    have := h.1.2; unfold strB at this; simp only at this; rw [Bool.and_eq_true] at this
    exact ⟨of_decide_eq_true this.1, this.2⟩
theorem vok_tup {n : Nat} {st : Sto} {ws : List W} (h : vok (n + 1) st (.tup ws) = true) : ws.length ≤ 1000 ∧ ∀ w ∈ ws, vok n st w = true := by
  unfold vok at h; rw [Bool.and_eq_true] at h
  have := h.2; simp only at this; rw [Bool.and_eq_true] at this
  exact ⟨of_decide_eq_true this.1, fun w hw => List.all_eq_true.mp this.2 w hw⟩
theorem vok_down : ∀ {n : Nat} {st : Sto} {w : W}, vok (n + 1) st w = true → vok n st w = true
  | 0, st, w, h => by unfold vok at h; rw [Bool.and_eq_true] at h; exact h.1
  | n + 1, st, w, h => by
    have h0 := h
    unfold vok at h
    rw [Bool.and_eq_true] at h
    unfold vok
    rw [Bool.and_eq_true]
    refine ⟨h.1, ?_⟩
    cases w with
    | tup ws =>
      simp only
      obtain ⟨h1, h2⟩ := vok_tup h0
      rw [Bool.and_eq_true]
      exact ⟨decide_eq_true h1, List.all_eq_true.mpr fun w hw => vok_down (h2 w hw)⟩
    | _ => rfl
theorem ty_mono {w : W} {st : Sto} {t : String} (l : Sto) (h : tyW w st = some t) : tyW w (st ++ l) = some t := by
  cases w with
  | ref k =>
    have h : (match st[k]? with | some (.lst _) => some "list" | some .emp => some "dict" | none => none) = some t := h
    show (match (st ++ l)[k]? with | some (.lst _) => some "list" | some .emp => some "dict" | none => none) = some t
    cases q : st[k]? with
    | none => rw [q] at h; cases h
    | some o =>
      rw [q] at h
      rw [List.getElem?_append_left (List.getElem?_eq_some_iff.mp q).1, q]
      exact h
  | _ => exact h
theorem vok_mono (l : Sto) : ∀ {n : Nat} {st : Sto} {w : W}, vok n st w = true → vok n (st ++ l) w = true
  | 0, st, w, h => by
    unfold vok at h ⊢; rw [Bool.and_eq_true] at h ⊢
    obtain ⟨t, ht⟩ := Option.isSome_iff_exists.mp h.1
    exact ⟨Option.isSome_iff_exists.mpr ⟨t, ty_mono l ht⟩, h.2⟩
  | n + 1, st, w, h => by
    have h0 := h
    unfold vok at h ⊢; rw [Bool.and_eq_true, Bool.and_eq_true] at h ⊢
    obtain ⟨t, ht⟩ := Option.isSome_iff_exists.mp h.1.1
    refine ⟨⟨Option.isSome_iff_exists.mpr ⟨t, ty_mono l ht⟩, h.1.2⟩, ?_⟩
    cases w with
    | tup ws =>
      simp only
      obtain ⟨h1, h2⟩ := vok_tup h0
      rw [Bool.and_eq_true]
      exact ⟨decide_eq_true h1, List.all_eq_true.mpr fun w hw => vok_mono l (h2 w hw)⟩
    | _ => rfl
theorem word_ok (w : W) (st : Sto) {n : Nat} (h : vok n st w = true) : ∃ l, d_is_word [w] st = some (.ok (.bl (isW w)), st ++ l) :=
  word_any w st (vok_ty h) fun x e => by subst e; exact (vok_str h).1
/-! ### comparisons of small data -/
theorem eq_int (i j : Int) (st : Sto) : opEqD (.int i) (.int j) st = some (.ok (.bl (i == j)), st) := rfl
theorem ne_int (i j : Int) (st : Sto) : opNeD (.int i) (.int j) st = some (.ok (.bl (!(i == j))), st) := rfl
theorem shd_str {x : Str} (h : PyData.strOk x = true) : shD (.str x) = true := by
  unfold shD SeqAt.shaped; rw [Bool.and_eq_true]; exact ⟨h, rfl⟩
theorem eq_str (x y : Str) (st : Sto) : opEqD (.str x) (.str y) st = some (.ok (.bl (x == y)), st) := rfl
theorem ne_str (x y : Str) (st : Sto) : opNeD (.str x) (.str y) st = some (.ok (.bl (!(x == y))), st) := rfl
theorem shd_pair {x : Str} {n : Int} (h : PyData.strOk x = true) : shD (.tuple [.str x, .int n]) = true := by
  unfold shD SeqAt.shaped
  rw [Bool.and_eq_true]
  refine ⟨?_, rfl⟩
  show (PyData.strOk x && (true && true)) = true
  rw [h]; rfl
abbrev Fm := List (Str × Int)
def fmW (fm : Fm) : W := .tup (fm.map fun p => .tup [.str p.1, .int p.2])
def fmD (fm : Fm) : PyData := .tuple (fm.map fun p => .tuple [.str p.1, .int p.2])
theorem fm_toD (st : Sto) (fm : Fm) : toD st 24 (fmW fm) = some (fmD fm) := by
  show (allD (toD st 23) (fm.map fun p => .tup [.str p.1, .int p.2])).map PyData.tuple = _
  have h : allD (toD st 23) (fm.map fun p => W.tup [.str p.1, .int p.2]) = some (fm.map fun p => PyData.tuple [.str p.1, .int p.2]) := by
    induction fm with
    | nil => rfl
    | cons p r ih => show (match toD st 23 (W.tup [.str p.1, .int p.2]), allD _ _ with | some d, some ds => some (d :: ds) | _, _ => none) = _; rw [ih]; rfl
  rw [h]; rfl
def hasF (fm : Fm) (x : Str) (n : Int) : Bool := fm.any fun p => p.1 == x && p.2 == n
theorem in_fm {fm : Fm} {x : Str} {n : Int} (st : Sto) (hf : shD (fmD fm) = true) (hx : PyData.strOk x = true) : opIn (.tup [.str x, .int n]) (fmW fm) st = some (.ok (.bl (hasF fm x n)), st) := by
  show opData dIn (.tup [.str x, .int n]) (fmW fm) st = _
  unfold opData
  rw [fm_toD, show toD st 24 (W.tup [.str x, .int n]) = some (.tuple [.str x, .int n]) from rfl]
  simp only
  show bOut (if shD (.tuple [.str x, .int n]) && shD (fmD fm) then some ((fm.map fun p => PyData.tuple [.str p.1, .int p.2]).any fun z => PyData.eqv z (.tuple [.str x, .int n])) else none) st = _
  rw [hf, shd_pair hx, List.any_map]
  have e : ((fun z => PyData.eqv z (.tuple [.str x, .int n])) ∘ fun p : Str × Int => PyData.tuple [.str p.1, .int p.2]) = fun p : Str × Int => p.1 == x && p.2 == n := by
    funext p
    show (p.1 == x && (p.2 == n && true)) = _
    rw [Bool.and_true]
  rw [e]; rfl
/-- x in (a, b, ..), texts -/
def inS (ss : List Str) (x : Str) : Bool := ss.any fun s => s == x
theorem ss_toD (st : Sto) (ss : List Str) : toD st 24 (.tup (ss.map .str)) = some (.tuple (ss.map .str)) := by
  show (allD (toD st 23) (ss.map .str)).map PyData.tuple = _
  have h : allD (toD st 23) (ss.map W.str) = some (ss.map PyData.str) := by
    induction ss with
    | nil => rfl
    | cons p r ih => show (match toD st 23 (W.str p), allD _ _ with | some d, some ds => some (d :: ds) | _, _ => none) = _; rw [ih]; rfl
  rw [h]; rfl
theorem any_str (ss : List Str) (x : Str) : (ss.map PyData.str).any (fun z => PyData.eqv z (.str x)) = inS ss x := by
  rw [List.any_map]; rfl
theorem in_ss {ss : List Str} {x : Str} (st : Sto) (hs : shD (.tuple (ss.map .str)) = true) (hx : PyData.strOk x = true) : opIn (.str x) (.tup (ss.map .str)) st = some (.ok (.bl (inS ss x)), st) := by
  show opData dIn (.str x) (.tup (ss.map .str)) st = _
  unfold opData
  rw [ss_toD, show toD st 24 (W.str x) = some (.str x) from rfl]
  simp only
  show bOut (if shD (.str x) && shD (.tuple (ss.map .str)) then some ((ss.map PyData.str).any fun z => PyData.eqv z (.str x)) else none) st = _
  rw [hs, shd_str hx, any_str]; rfl
theorem notin_ss {ss : List Str} {x : Str} (st : Sto) (hs : shD (.tuple (ss.map .str)) = true) (hx : PyData.strOk x = true) : opNotIn (.str x) (.tup (ss.map .str)) st = some (.ok (.bl (!inS ss x)), st) := by
  show opData dNotIn (.str x) (.tup (ss.map .str)) st = _
  unfold opData
  rw [ss_toD, show toD st 24 (W.str x) = some (.str x) from rfl]
  simp only
  show bOut ((if shD (.str x) && shD (.tuple (ss.map .str)) then some ((ss.map PyData.str).any fun z => PyData.eqv z (.str x)) else none).map (!·)) st = _
  rw [hs, shd_str hx, any_str]; rfl
theorem ix_tup {ws : List W} {j : Nat} {w : W} (st : Sto) (h : ws[j]? = some w) : opIx (.tup ws) (.int (j : Int)) st = some (.ok w, st) := by
  show ((L2.atI ws (j : Int)).map fun w => (R.ok w, st)) = _
  rw [L2.atI_nat h]; rfl
/-! ### tag_of -/
def tagW (fm : Fm) (v : W) : W := match v with
  | .tup (.str x :: r) => if hasF fm x ((r.length : Int) + 1) then .str x else .non
  | _ => .non
theorem tag_ok {fm : Fm} (v : W) (st : Sto) {n : Nat} (hv : vok (n + 1) st v = true) (hf : shD (fmD fm) = true) : d_tag_of [v, fmW fm] st = some (.ok (tagW fm v), st) := by
  have h0 := vok_ty hv
  by_cases ht : isTup v = true
  · cases v with
    | tup ws =>
      have t1 : fNotT (fTest (fIsi "tuple" (fVar 0))) [some (W.tup ws), some (fmW fm), none] st = some (.ok false, st) := t_not (b := true) (t_test (e_isi (e_var rfl) (op_tup h0)))
      have len : fCB opLen (fCons (fVar 0) fNil) [some (W.tup ws), some (fmW fm), none] st = some (.ok (.int ws.length), st) := rfl
      cases ws with
      | nil => exact f_rt (env1 := [some (W.tup []), some (fmW fm), none]) rfl (s_rt (s_ifT (t_orF t1 (t_test (e_op len rfl (eq_int _ _ _)))) (s_ret rfl)))
      | cons t r =>
        obtain ⟨_, hw⟩ := vok_tup hv
        have hvt := hw t List.mem_cons_self
        have t2 : fOrT (fNotT (fTest (fIsi "tuple" (fVar 0)))) (fTest (fOp opEqD (fCB opLen (fCons (fVar 0) fNil)) (fC (.int 0)))) [some (W.tup (t :: r)), some (fmW fm), none] st = some (.ok false, st) := by
          refine t_orF t1 (t_test (e_op len rfl ?_))
          rw [eq_int]
          have e : (((t :: r).length : Int) == 0) = false := by simp; omega
          rw [e]
        have len2 : fCB opLen (fCons (fVar 0) fNil) [some (W.tup (t :: r)), some (fmW fm), some t] st = some (.ok (.int (t :: r).length), st) := rfl
        have ix : fSet 2 (fOp opIx (fVar 0) (fC (.int 0))) [some (W.tup (t :: r)), some (fmW fm), none] st = some (.nx, [some (W.tup (t :: r)), some (fmW fm), some t], st) := s_set (e_op (e_var rfl) rfl (ix_tup (j := 0) st rfl))
        by_cases hs : isStr t = true
        · cases t with
          | str x =>
            have hx := vok_str hvt
            have t3 : fAndT (fTest (fIsi "str" (fVar 2))) (fTest (fOp opIn (fTup (fCons (fVar 2) (fCons (fCB opLen (fCons (fVar 0) fNil)) fNil))) (fVar 1))) [some (W.tup (.str x :: r)), some (fmW fm), some (W.str x)] st = some (.ok (hasF fm x (((W.str x) :: r).length : Int)), st) :=
              t_andT (t_test (e_isi (e_var rfl) (op_str (vok_ty hvt)))) (t_test (e_op (e_tup (e_cons (e_var rfl) (e_cons len2 e_nil)) (by simp)) (e_var rfl) (in_fm st hf hx.2)))
            have le : (((W.str x) :: r).length : Int) = (r.length : Int) + 1 := by simp
            rw [le] at t3
            unfold tagW
            simp only
            cases hb : hasF fm x ((r.length : Int) + 1) with
            | true =>
              rw [hb] at t3
              exact f_rt (env1 := [some (W.tup (.str x :: r)), some (fmW fm), some (W.str x)]) rfl (s_seq (s_ifF t2 rfl) (s_seq ix (s_rt (s_ifT t3 (s_ret (e_var rfl))))))
            | false =>
              rw [hb] at t3
              exact f_rt (env1 := [some (W.tup (.str x :: r)), some (fmW fm), some (W.str x)]) rfl (s_seq (s_ifF t2 rfl) (s_seq ix (s_seq (s_ifF t3 rfl) (s_ret rfl))))
          | _ => cases hs
        · have hs : isStr t = false := by simpa using hs
          have tv : tagW fm (.tup (t :: r)) = .non := by unfold tagW; cases t <;> first | rfl | cases hs
          rw [tv]
          have t3 : fAndT (fTest (fIsi "str" (fVar 2))) (fTest (fOp opIn (fTup (fCons (fVar 2) (fCons (fCB opLen (fCons (fVar 0) fNil)) fNil))) (fVar 1))) [some (W.tup (t :: r)), some (fmW fm), some t] st = some (.ok false, st) :=
            t_andF (t_test (e_isi (e_var rfl) (by rw [op_str (vok_ty hvt), hs])))
          exact f_rt (env1 := [some (W.tup (t :: r)), some (fmW fm), some t]) rfl (s_seq (s_ifF t2 rfl) (s_seq ix (s_seq (s_ifF t3 rfl) (s_ret rfl))))
    | _ => cases ht
  · have ht : isTup v = false := by simpa using ht
    have tv : tagW fm v = .non := by unfold tagW; cases v <;> first | rfl | cases ht
    rw [tv]
    exact f_rt (env1 := [some v, some (fmW fm), none]) rfl (s_rt (s_ifT (t_orT (t_not (b := false) (t_test (e_isi (e_var rfl) (by rw [op_tup h0, ht]))))) (s_ret rfl)))
end K01

namespace K01
open PySem DI
/-! ### the program's checks -/
def cF : Fm := [("concept", 2), ("out", 2), ("in", 2)]
def dF : Fm := [("out", 2), ("in", 2)]
def aF : Fm := [("subclass", 3), ("disjoint", 3), ("subrole", 3), ("subrole_inverse", 3), ("disjoint_roles", 3), ("disjoint_inverse", 3), ("functional", 2)]
theorem cF_sh : shD (fmD cF) = true := by decide +kernel
theorem dF_sh : shD (fmD dF) = true := by decide +kernel
theorem aF_sh : shD (fmD aF) = true := by decide +kernel
/-- a pair of a tag of fm (all its lengths 2) and a word -/
def pairP (fm : Fm) (v : W) : Bool := match v with
  | .tup [.str t, w] => hasF fm t 2 && isW w
  | _ => false
def len2 (fm : Fm) : Bool := fm.all fun p => p.2 == 2
theorem hasF_len {fm : Fm} {x : Str} {n : Int} (h2 : len2 fm = true) (h : hasF fm x n = true) : n = 2 := by
  obtain ⟨p, hp, h⟩ := List.any_eq_true.mp h
  have := List.all_eq_true.mp h2 p hp
  rw [Bool.and_eq_true] at h
  have a : p.2 = n := eq_of_beq h.2
  have b : p.2 = 2 := eq_of_beq this
  omega
theorem two_of {α : Type} {r : List α} (h : (r.length : Int) + 1 = 2) : ∃ a, r = [a] := by
  match r, h with
  | [a], _ => exact ⟨a, rfl⟩
  | [], h => simp at h
  | _ :: _ :: _, h => simp at h; omega
theorem pair_ok {fm : Fm} {g : OC} (hg : g = mkF 1 1 (fRet (fAnd (fOp opNotN (fCB d_tag_of (fCons (fVar 0) (fCons (fC (fmW fm)) fNil))) (fC .non)) (fCB d_is_word (fCons (fOp opIx (fVar 0) (fC (.int 1))) fNil)))))
    (h2 : len2 fm = true) (hf : shD (fmD fm) = true) (v : W) (st : Sto) {n : Nat} (hv : vok (n + 1) st v = true) : ∃ l, g [v] st = some (.ok (.bl (pairP fm v)), st ++ l) := by
  subst hg
  have tg : fCB d_tag_of (fCons (fVar 0) (fCons (fC (fmW fm)) fNil)) [some v] st = some (.ok (tagW fm v), st) := e_cb (e_cons (e_var rfl) (e_cons rfl e_nil)) (tag_ok v st hv hf)
  have no : tagW fm v = .non → pairP fm v = false → ∃ l, mkF 1 1 (fRet (fAnd (fOp opNotN (fCB d_tag_of (fCons (fVar 0) (fCons (fC (fmW fm)) fNil))) (fC .non)) (fCB d_is_word (fCons (fOp opIx (fVar 0) (fC (.int 1))) fNil)))) [v] st = some (.ok (.bl (pairP fm v)), st ++ l) := fun h1 h3 => by
    refine ⟨[], f_rt (env1 := [some v]) rfl (s_ret ?_)⟩
    rw [h3, List.append_nil]
    rw [h1] at tg
    exact e_andF (e_op tg rfl rfl)
  cases v with
  | tup ws =>
    cases ws with
    | nil => exact no rfl rfl
    | cons t r =>
      cases t with
      | str x =>
        cases hb : hasF fm x ((r.length : Int) + 1) with
        | false =>
          refine no (by unfold tagW; simp only; rw [hb]; rfl) ?_
          match r, hb with
          | [], _ => rfl
          | [w], hb =>
            unfold pairP; simp only
            have e : hasF fm x 2 = false := hb
            rw [e]; rfl
          | _ :: _ :: _, _ => rfl
        | true =>
          obtain ⟨w, rfl⟩ := two_of (hasF_len h2 hb)
          have tv : tagW fm (.tup [.str x, w]) = .str x := by unfold tagW; simp only; rw [hb]; rfl
          have pv : pairP fm (.tup [.str x, w]) = isW w := by
            unfold pairP; simp only
            have e : hasF fm x 2 = true := hb
            rw [e, Bool.true_and]
          rw [tv] at tg
          obtain ⟨_, hw⟩ := vok_tup hv
          obtain ⟨l, hl⟩ := word_ok w st (hw w (by simp))
          refine ⟨l, f_rt (env1 := [some (W.tup [.str x, w])]) rfl (s_ret ?_)⟩
          rw [pv]
          exact e_andT (e_op tg rfl rfl) (e_cb (e_cons (e_op (e_var rfl) rfl (ix_tup (j := 1) st rfl)) e_nil) hl)
      | _ => exact no rfl (by match r with | [] => rfl | [_] => rfl | _ :: _ :: _ => rfl)
  | _ => exact no rfl rfl
theorem concept_ok (v : W) (st : Sto) {n : Nat} (hv : vok (n + 1) st v = true) : ∃ l, d_is_concept [v] st = some (.ok (.bl (pairP cF v)), st ++ l) := pair_ok (fm := cF) rfl rfl cF_sh v st hv
theorem direction_ok (v : W) (st : Sto) {n : Nat} (hv : vok (n + 1) st v = true) : ∃ l, d_is_direction [v] st = some (.ok (.bl (pairP dF v)), st ++ l) := pair_ok (fm := dF) rfl rfl dF_sh v st hv
def sd : List Str := ["subclass", "disjoint"]
theorem sd_sh : shD (.tuple (sd.map .str)) = true := by decide +kernel
def isA (v : W) : Bool := match v with
  | .tup [.str t, d] => (t == "functional") && pairP dF d
  | .tup [.str t, a, b] => if inS sd t then pairP cF a && pairP cF b else inS ["subrole", "subrole_inverse", "disjoint_roles", "disjoint_inverse"] t && (isW a && isW b)
  | _ => false
/-- f(v[i]) and g(v[j]) -/
theorem and_two {g : OC} {p : W → Bool} {ws : List W} {a b : W} {env : Evn} {st : Sto} (n : Nat) (hg : ∀ (w : W) (st : Sto), vok n st w = true → ∃ l, g [w] st = some (.ok (.bl (p w)), st ++ l)) (h0 : env[0]? = some (some (.tup ws))) (h1 : ws[1]? = some a) (h2 : ws[2]? = some b)
    (va : vok n st a = true) (vb : vok n st b = true) : ∃ l, fAnd (fCB g (fCons (fOp opIx (fVar 0) (fC (.int 1))) fNil)) (fCB g (fCons (fOp opIx (fVar 0) (fC (.int 2))) fNil)) env st = some (.ok (.bl (p a && p b)), st ++ l) := by
  obtain ⟨l, hl⟩ := hg a st va
  have e1 : fCB g (fCons (fOp opIx (fVar 0) (fC (.int 1))) fNil) env st = some (.ok (.bl (p a)), st ++ l) := e_cb (e_cons (e_op (e_var h0) rfl (ix_tup (j := 1) st h1)) e_nil) hl
  cases hp : p a with
  | false => rw [hp] at e1; exact ⟨l, e_andF e1⟩
  | true =>
    rw [hp] at e1
    obtain ⟨m, hm⟩ := hg b (st ++ l) (vok_mono l vb)
    refine ⟨l ++ m, ?_⟩
    rw [Bool.true_and, ← List.append_assoc]
    exact e_andT e1 (e_cb (e_cons (e_op (e_var h0) rfl (ix_tup (j := 2) _ h2)) e_nil) hm)
theorem hasA {x : Str} {n : Int} (h : hasF aF x n = true) : (n = 2 ∧ x = "functional") ∨ (n = 3 ∧ (x == "functional") = false ∧ (inS sd x || inS ["subrole", "subrole_inverse", "disjoint_roles", "disjoint_inverse"] x) = true) := by
  obtain ⟨p, hp, h⟩ := List.any_eq_true.mp h
  rw [Bool.and_eq_true] at h
  have a : p.1 = x := eq_of_beq h.1
  have b : p.2 = n := eq_of_beq h.2
  subst a b
  simp only [aF, List.mem_cons, List.not_mem_nil, or_false] at hp
  rcases hp with rfl | rfl | rfl | rfl | rfl | rfl | rfl
  · exact .inr ⟨rfl, by decide +kernel, by decide +kernel⟩
  · exact .inr ⟨rfl, by decide +kernel, by decide +kernel⟩
  · exact .inr ⟨rfl, by decide +kernel, by decide +kernel⟩
  · exact .inr ⟨rfl, by decide +kernel, by decide +kernel⟩
  · exact .inr ⟨rfl, by decide +kernel, by decide +kernel⟩
  · exact .inr ⟨rfl, by decide +kernel, by decide +kernel⟩
  · exact .inl ⟨rfl, rfl⟩
theorem noA {x : Str} {n : Int} (h : hasF aF x n = false) : (n = 2 → (x == "functional") = false) ∧ (n = 3 → inS sd x = false ∧ inS ["subrole", "subrole_inverse", "disjoint_roles", "disjoint_inverse"] x = false) := by
  unfold hasF aF at h
  simp only [List.any_cons, List.any_nil, Bool.or_false, Bool.or_eq_false_iff, Bool.and_eq_false_iff] at h
  obtain ⟨h1, h2, h3, h4, h5, h6, h7⟩ := h
  refine ⟨fun e => ?_, fun e => ?_⟩
  · subst e
    rcases h7 with q | q
    · rw [← q]
      by_cases hx : x = "functional"
      · subst hx; rfl
      · have a1 : (x == ("functional" : Str)) = false := by simpa using hx
        have a2 : (("functional" : Str) == x) = false := by simpa using fun z => hx z.symm
        rw [a1, a2]
    · exact absurd q (by decide)
  · subst e
    have z : ∀ {a : Str} {m : Int}, (a == x) = false ∨ ((3 : Int) == 3) = false → (a == x) = false := fun q => q.elim id fun q => absurd q (by decide)
    have g1 : (("subclass" : Str) == x) = false := h1.elim id fun q => absurd q (by decide)
    have g2 : (("disjoint" : Str) == x) = false := h2.elim id fun q => absurd q (by decide)
    have g3 : (("subrole" : Str) == x) = false := h3.elim id fun q => absurd q (by decide)
    have g4 : (("subrole_inverse" : Str) == x) = false := h4.elim id fun q => absurd q (by decide)
    have g5 : (("disjoint_roles" : Str) == x) = false := h5.elim id fun q => absurd q (by decide)
    have g6 : (("disjoint_inverse" : Str) == x) = false := h6.elim id fun q => absurd q (by decide)
    unfold inS sd
    simp [List.any_cons, g1, g2, g3, g4, g5, g6]
end K01

namespace K01
open PySem DI
theorem fun_ok : PyData.strOk "functional" = true := by decide +kernel
theorem axiom_ok (v : W) (st : Sto) {n : Nat} (hv : vok (n + 2) st v = true) : ∃ l, d_is_axiom [v] st = some (.ok (.bl (isA v)), st ++ l) := by
  have tg : fSet 1 (fCB d_tag_of (fCons (fVar 0) (fCons (fC c_AXIOM_FORMS) fNil))) [some v, none] st = some (.nx, [some v, some (tagW aF v)], st) := s_set (e_cb (e_cons (e_var rfl) (e_cons rfl e_nil)) (tag_ok (fm := aF) v st hv aF_sh))
  have no : tagW aF v = .non → isA v = false → ∃ l, d_is_axiom [v] st = some (.ok (.bl (isA v)), st ++ l) := fun h1 h3 => by
    rw [h1] at tg
    refine ⟨[], f_rt (env1 := [some v, some .non]) rfl (s_seq tg (s_rt (s_ifT (t_test (e_op (e_var rfl) rfl rfl)) (s_ret ?_))))⟩
    rw [h3, List.append_nil]; rfl
  cases v with
  | tup ws =>
    cases ws with
    | nil => exact no rfl rfl
    | cons t r =>
      cases t with
      | str x =>
        obtain ⟨_, hw⟩ := vok_tup hv
        have hx := (vok_str (hw (.str x) List.mem_cons_self)).2
        cases hb : hasF aF x ((r.length : Int) + 1) with
        | false =>
          refine no (by unfold tagW; simp only; rw [hb]; rfl) ?_
          obtain ⟨n2, n3⟩ := noA hb
          match r, n2, n3 with
          | [], _, _ => rfl
          | [d], n2, _ => unfold isA; simp only; rw [n2 rfl]; rfl
          | [a, b], _, n3 => unfold isA; simp only; rw [(n3 rfl).1, (n3 rfl).2]; rfl
          | _ :: _ :: _ :: _, _, _ => rfl
        | true =>
          have tv : tagW aF (.tup (.str x :: r)) = .str x := by unfold tagW; simp only; rw [hb]; rfl
          rw [tv] at tg
          have t1 : fTest (fOp opIsN (fVar 1) (fC .non)) [some (W.tup (.str x :: r)), some (W.str x)] st = some (.ok false, st) := t_test (e_op (e_var rfl) rfl rfl)
          have t2 : fTest (fOp opEqD (fVar 1) (fC (.str "functional"))) [some (W.tup (.str x :: r)), some (W.str x)] st = some (.ok (x == "functional"), st) := t_test (e_op (e_var rfl) rfl (eq_str _ _ _))
          rcases hasA hb with ⟨h2, rfl⟩ | ⟨h3, hf, ho⟩
          · obtain ⟨d, rfl⟩ := two_of h2
            obtain ⟨l, hl⟩ := direction_ok d st (hw d (by simp))
            have t2' : fTest (fOp opEqD (fVar 1) (fC (.str "functional"))) [some (W.tup [.str "functional", d]), some (W.str "functional")] st = some (.ok true, st) := by rw [t2]; rfl
            refine ⟨l, f_rt (env1 := [some (W.tup [.str "functional", d]), some (W.str "functional")]) rfl (s_seq tg (s_seq (s_ifF t1 rfl) (s_rt (s_ifT t2' (s_ret ?_)))))⟩
            have pv : isA (.tup [.str "functional", d]) = pairP dF d := by unfold isA; simp
            rw [pv]
            exact e_cb (e_cons (e_op (e_var rfl) rfl (ix_tup (j := 1) st rfl)) e_nil) hl
          · obtain ⟨a, b, rfl⟩ : ∃ a b, r = [a, b] := by
              match r, h3 with
              | [a, b], _ => exact ⟨a, b, rfl⟩
              | [], h => simp at h
              | [_], h => simp at h
              | _ :: _ :: _ :: _, h => simp at h; omega
            rw [hf] at t2
            have va := hw a (by simp)
            have vb := hw b (by simp)
            have t3 : fTest (fOp opIn (fVar 1) (fTup (fCons (fC (.str "subclass")) (fCons (fC (.str "disjoint")) fNil)))) [some (W.tup [.str x, a, b]), some (W.str x)] st = some (.ok (inS sd x), st) := t_test (e_op (e_var rfl) (b := .tup (sd.map .str)) rfl (in_ss st sd_sh hx))
            cases hs : inS sd x with
            | true =>
              rw [hs] at t3
              obtain ⟨l, hl⟩ := and_two (g := d_is_concept) (p := pairP cF) (ws := [.str x, a, b]) (env := [some (W.tup [.str x, a, b]), some (W.str x)]) (st := st) (n + 1) (fun w st h => concept_ok w st h) rfl rfl rfl va vb
              refine ⟨l, f_rt (env1 := [some (W.tup [.str x, a, b]), some (W.str x)]) rfl (s_seq tg (s_seq (s_ifF t1 rfl) (s_seq (s_ifF t2 rfl) (s_rt (s_ifT t3 (s_ret ?_))))))⟩
              have pv : isA (.tup [.str x, a, b]) = (pairP cF a && pairP cF b) := by unfold isA; simp only; rw [hs]; rfl
              rw [pv]; exact hl
            | false =>
              rw [hs] at t3
              obtain ⟨l, hl⟩ := and_two (g := d_is_word) (p := isW) (ws := [.str x, a, b]) (env := [some (W.tup [.str x, a, b]), some (W.str x)]) (st := st) (n + 1) (fun w st h => word_ok w st h) rfl rfl rfl va vb
              refine ⟨l, f_rt (env1 := [some (W.tup [.str x, a, b]), some (W.str x)]) rfl (s_seq tg (s_seq (s_ifF t1 rfl) (s_seq (s_ifF t2 rfl) (s_seq (s_ifF t3 rfl) (s_ret ?_)))))⟩
              have pv : isA (.tup [.str x, a, b]) = (isW a && isW b) := by
                unfold isA; simp only; rw [hs]
                rw [hs, Bool.false_or] at ho
                rw [ho]; rfl
              rw [pv]; exact hl
      | _ => exact no rfl (by match r with | [] => rfl | [_] => rfl | [_, _] => rfl | _ :: _ :: _ :: _ => rfl)
  | _ => exact no rfl rfl
/-! ### the law's own checks -/
theorem eq_nil {st : Sto} {ws : List W} {ds : List PyData} {k : Nat} (hk : st[k]? = some (.lst ws)) (hd : allD (toD (st ++ [.lst []]) 23) ws = some ds) (hs : shD (.list ds) = true) : opEqD (.ref k) (.ref st.length) (st ++ [.lst []]) = some (.ok (.bl ds.isEmpty), st ++ [.lst []]) := by
  have hk' : (st ++ [Ob.lst []])[k]? = some (.lst ws) := by rw [List.getElem?_append_left (List.getElem?_eq_some_iff.mp hk).1]; exact hk
  have e1 : toD (st ++ [.lst []]) 24 (.ref k) = some (.list ds) := by
    show (match (st ++ [Ob.lst []])[k]? with | some (.lst ws) => (allD (toD _ 23) ws).map PyData.list | some .emp => some (.dict []) | none => none) = _
    rw [hk']; simp only; rw [hd]; rfl
  have e2 : toD (st ++ [.lst []]) 24 (.ref st.length) = some (.list []) := by
    show (match (st ++ [Ob.lst []])[st.length]? with | some (.lst ws) => (allD (toD _ 23) ws).map PyData.list | some .emp => some (.dict []) | none => none) = _
    simp [allD]
  show opData dEq _ _ _ = _
  unfold opData
  rw [e1, e2]
  show bOut (if shD (.list ds) && shD (.list []) then some (PyData.eqv (.list ds) (.list [])) else none) _ = _
  rw [hs]
  cases ds with
  | nil => rfl
  | cons d r => rfl
theorem allD_sgn (st : Sto) : ∀ cs : List Nat, allD (toD st 23) (cs.map sgn) = some (cs.map fun c => PyData.str ⟨#[c]⟩)
  | [] => rfl
  | c :: cs => by
    show (match toD st 23 (sgn c), allD _ _ with | some d, some ds => some (d :: ds) | _, _ => none) = _
    rw [allD_sgn st cs]; rfl
theorem canLay_sgn : ∀ cs : List Nat, (∀ c ∈ cs, c < 0x110000) → PyData.canLayAll0 (cs.map fun c => PyData.str ⟨#[c]⟩) = true
  | [], _ => rfl
  | c :: cs, h => by
    show (PyData.strOk ⟨#[c]⟩ && PyData.canLayAll0 (cs.map fun c => PyData.str ⟨#[c]⟩)) = true
    rw [canLay_sgn cs fun d hd => h d (List.mem_cons_of_mem _ hd)]
    have := h c List.mem_cons_self
    simp [PyData.strOk, this]
theorem depth_sgn : ∀ cs : List Nat, PyData.depthAll (cs.map fun c => PyData.str ⟨#[c]⟩) = 0
  | [] => rfl
  | c :: cs => by
    show max 0 (PyData.depthAll (cs.map fun c => PyData.str ⟨#[c]⟩)) = 0
    rw [depth_sgn cs]; rfl
theorem shd_sgn {cs : List Nat} (h : ∀ c ∈ cs, c < 0x110000) : shD (.list (cs.map fun c => PyData.str ⟨#[c]⟩)) = true := by
  unfold shD SeqAt.shaped
  rw [Bool.and_eq_true]
  refine ⟨canLay_sgn cs h, decide_eq_true ?_⟩
  show PyData.depthAll (cs.map fun c => PyData.str ⟨#[c]⟩) + 1 ≤ 64
  rw [depth_sgn]; decide
theorem lword_ok (w : W) (st : Sto) {n : Nat} (hv : vok n st w = true) : ∃ l, d_law_is_word [w] st = some (.ok (.bl (isW w)), st ++ l) := by
  by_cases hs : isStr w = true
  · cases w with
    | str x =>
      obtain ⟨hz, hx⟩ := vok_str hv
      have wt := wtest (m := .non) (env := [some (W.str x), none]) (st := st) (x := x) (fm := fC (.int 8)) rfl (fun _ => rfl) hz
      cases h8 : (decide (1 ≤ x.length) && decide (x.length ≤ 8)) with
      | true =>
        rw [h8] at wt
        have lcs := lc_pure (G := gOf (.str x)) (j := 1) (t := fTest (fOp opNotIn (fVar 1) (fC (.str "abcdefghijklmnopqrstuvwxyz")))) (f := fVar 1) (env := [some (W.str x), none]) (st := st) (items := x.cps.toList.map sgn)
          (p := fun w => match w with | .str y => !decide ((y.cps.toList.headD 0) ∈ LET) | _ => false) (h := fun w => w) (fun i => gOf_str x st i) (fun w hw => by
            obtain ⟨c, _, rfl⟩ := List.mem_map.mp hw
            exact t_test (e_op (e_var rfl) rfl (opNotIn_sgn c _ st))) (fun w hw _ => rfl) x.cps.size 0 [] (by simp; have : x.cps.size = x.length := rfl; omega) (Nat.zero_le _) (by simp) (by simp)
        have ev : ([] : List W) ++ (((x.cps.toList.map sgn).drop 0).filter fun w => match w with | .str y => !decide ((y.cps.toList.headD 0) ∈ LET) | _ => false).map (fun w => w) = (x.cps.toList.filter fun c => !decide (c ∈ LET)).map sgn := by
          rw [List.nil_append, List.drop_zero, List.map_id', List.filter_map]; rfl
        rw [ev] at lcs
        have vb : isW (.str x) = ((x.cps.toList.filter fun c => !decide (c ∈ LET)).map fun c => PyData.str ⟨#[c]⟩).isEmpty := by
          unfold isW; simp only; rw [h8, Bool.true_and]
          generalize x.cps.toList = cs
          induction cs with
          | nil => rfl
          | cons c r ih =>
            rw [List.all_cons, List.filter_cons]
            by_cases hc : c ∈ LET
            · simp only [hc, decide_true, Bool.true_and, Bool.not_true, Bool.false_eq_true, if_false]; exact ih
            · simp [hc]
        have ok : ∀ c ∈ x.cps.toList.filter (fun c => !decide (c ∈ LET)), c < 0x110000 := fun c hc => by
          have hx' : x.cps.all (· < 0x110000) = true := hx
          rw [← Array.all_toList, List.all_eq_true] at hx'
          exact of_decide_eq_true (hx' c (List.mem_filter.mp hc).1)
        refine ⟨[.lst ((x.cps.toList.filter fun c => !decide (c ∈ LET)).map sgn), .lst []], f_rt (env1 := [some (W.str x), none]) rfl (s_seq (s_ifF wt rfl) (s_ret ?_))⟩
        rw [vb]
        refine e_op (e_lc (n := x.cps.size) (e_var rfl) rfl lcs) (e_lst e_nil (by simp)) ?_
        have q := eq_nil (st := st ++ [.lst ((x.cps.toList.filter fun c => !decide (c ∈ LET)).map sgn)]) (k := st.length) (by simp) (allD_sgn _ _) (shd_sgn ok)
        rw [q]; simp
      | false =>
        rw [h8] at wt
        have vb : isW (.str x) = false := by unfold isW; simp only; rw [h8, Bool.false_and]
        refine ⟨[], f_rt (env1 := [some (W.str x), none]) rfl (s_rt (s_ifT wt (s_ret ?_)))⟩
        rw [vb, List.append_nil]; rfl
    | _ => cases hs
  · have hs : isStr w = false := by simpa using hs
    have vb : isW w = false := by cases w <;> first | rfl | cases hs
    refine ⟨[], f_rt (env1 := [some w, none]) rfl (s_rt (s_ifT (t_orT (t_not (b := false) (t_test (e_isi (e_var rfl) (by rw [op_str (vok_ty hv), hs]))))) (s_ret ?_)))⟩
    rw [vb, List.append_nil]; rfl
end K01

namespace K01
open PySem DI
def coi : List Str := ["concept", "out", "in"]
theorem coi_sh : shD (.tuple (coi.map .str)) = true := by decide +kernel
theorem has_coi (t : Str) : hasF cF t 2 = inS coi t := by
  unfold hasF cF inS coi
  simp
def hd3 (b : Bool) (v : W) : Bool := match v with | .tup (t :: _) => b || !isStr t | .tup [] => true | _ => true
def lnB (f : Int → Bool) (v : W) : Bool := match v with | .tup ws => f ws.length | _ => true
/-- not a tuple, or of another length, or its first is no text -/
theorem lc3 {env : Evn} {st : Sto} {v : W} {n : Nat} {tl : FT} {b : Bool} (h0 : env[0]? = some (some v)) (hv : vok (n + 1) st v = true)
    (hl : ∀ ws, v = .tup ws → tl env st = some (.ok b, st) ∧ (b = false → ∃ t r, ws = t :: r)) :
    fOrT (fNotT (fTest (fIsi "tuple" (fVar 0)))) (fOrT tl (fNotT (fTest (fIsi "str" (fOp opIx (fVar 0) (fC (.int 0))))))) env st = some (.ok (hd3 b v), st) := by
  by_cases ht : isTup v = true
  · cases v with
    | tup ws =>
      have t1 : fNotT (fTest (fIsi "tuple" (fVar 0))) env st = some (.ok false, st) := t_not (b := true) (t_test (e_isi (e_var h0) (op_tup (vok_ty hv))))
      obtain ⟨h1, h2⟩ := hl ws rfl
      cases b with
      | true => cases ws <;> exact t_orF t1 (t_orT h1)
      | false =>
        obtain ⟨t, r, rfl⟩ := h2 rfl
        obtain ⟨_, hw⟩ := vok_tup hv
        exact t_orF t1 (t_orF h1 (t_not (t_test (e_isi (e_op (e_var h0) rfl (ix_tup (j := 0) st rfl)) (op_str (vok_ty (hw t List.mem_cons_self)))))))
    | _ => cases ht
  · have ht : isTup v = false := by simpa using ht
    have e : hd3 b v = true := by cases v <;> first | rfl | cases ht
    rw [e]
    exact t_orT (t_not (b := false) (t_test (e_isi (e_var h0) (by rw [op_tup (vok_ty hv), ht]))))
theorem lconcept_ok (v : W) (st : Sto) {n : Nat} (hv : vok (n + 1) st v = true) : ∃ l, d_law_concept_ok [v] st = some (.ok (.bl (pairP cF v)), st ++ l) := by
  have tst := lc3 (env := [some v]) (st := st) (v := v) (tl := fTest (fOp opNeD (fCB opLen (fCons (fVar 0) fNil)) (fC (.int 2)))) (b := lnB (fun n => !(n == 2)) v) rfl hv (fun ws e => by
    subst e
    refine ⟨t_test (e_op (e_cb (e_cons (e_var rfl) e_nil) rfl) rfl (ne_int _ _ _)), fun hb => ?_⟩
    have hb : (!((ws.length : Int) == 2)) = false := hb
    have : (ws.length : Int) = 2 := by simpa using hb
    cases ws with
    | nil => simp at this
    | cons t r => exact ⟨t, r, rfl⟩)
  have no : pairP cF v = false → hd3 (lnB (fun n => !(n == 2)) v) v = true → ∃ l, d_law_concept_ok [v] st = some (.ok (.bl (pairP cF v)), st ++ l) := fun h1 h2 => by
    rw [h2] at tst
    refine ⟨[], f_rt (env1 := [some v]) rfl (s_rt (s_ifT tst (s_ret ?_)))⟩
    rw [h1, List.append_nil]; rfl
  cases v with
  | tup ws =>
    match ws, no, tst, hv with
    | [], no, _, _ => exact no rfl rfl
    | [t], no, _, _ => exact no (by cases t <;> rfl) rfl
    | t0 :: _ :: _ :: r, no, _, _ =>
      refine no (by cases t0 <;> rfl) ?_
      have : ((((r.length + 1 + 1 + 1 : Nat) : Int) == 2)) = false := by simp; omega
      unfold hd3 lnB
      simp only [List.length_cons, this, Bool.not_false, Bool.true_or]
    | [t, w], no, tst, hv =>
      cases t with
      | str x =>
        obtain ⟨_, hw⟩ := vok_tup hv
        have hx := (vok_str (hw (.str x) List.mem_cons_self)).2
        obtain ⟨l, hl⟩ := lword_ok w st (hw w (by simp))
        have tst : fOrT (fNotT (fTest (fIsi "tuple" (fVar 0)))) (fOrT (fTest (fOp opNeD (fCB opLen (fCons (fVar 0) fNil)) (fC (.int 2)))) (fNotT (fTest (fIsi "str" (fOp opIx (fVar 0) (fC (.int 0))))))) [some (W.tup [.str x, w])] st = some (.ok false, st) := tst
        have e1 : fOp opIn (fOp opIx (fVar 0) (fC (.int 0))) (fTup (fCons (fC (.str "concept")) (fCons (fC (.str "out")) (fCons (fC (.str "in")) fNil)))) [some (W.tup [.str x, w])] st = some (.ok (.bl (inS coi x)), st) :=
          e_op (e_op (e_var rfl) rfl (ix_tup (j := 0) st rfl)) (b := .tup (coi.map .str)) rfl (in_ss st coi_sh hx)
        have pv : pairP cF (.tup [.str x, w]) = (inS coi x && isW w) := by unfold pairP; simp only; rw [has_coi]
        rw [pv]
        cases hb : inS coi x with
        | false =>
          rw [hb] at e1
          exact ⟨[], f_rt (env1 := [some (W.tup [.str x, w])]) rfl (s_seq (s_ifF tst rfl) (s_ret (by rw [List.append_nil]; exact e_andF e1)))⟩
        | true =>
          rw [hb] at e1
          exact ⟨l, f_rt (env1 := [some (W.tup [.str x, w])]) rfl (s_seq (s_ifF tst rfl) (s_ret (e_andT e1 (e_cb (e_cons (e_op (e_var rfl) rfl (ix_tup (j := 1) st rfl)) e_nil) hl))))⟩
      | _ => exact no rfl rfl
  | _ => exact no rfl rfl
theorem con_ok : PyData.strOk "concept" = true := by decide +kernel
def rol : List Str := ["subrole", "subrole_inverse", "disjoint_roles", "disjoint_inverse"]
theorem rol_sh : shD (.tuple (rol.map .str)) = true := by decide +kernel
theorem pair_dir (t : Str) (w : W) : pairP dF (.tup [.str t, w]) = (pairP cF (.tup [.str t, w]) && !(t == "concept")) := by
  unfold pairP hasF dF cF
  simp only [List.any_cons, List.any_nil, Bool.or_false]
  by_cases h1 : t = "concept"
  · subst h1
    have : (("out" : Str) == "concept") = false := by decide +kernel
    have : (("in" : Str) == "concept") = false := by decide +kernel
    simp [*]
  · have a : (("concept" : Str) == t) = false := by simpa using fun z => h1 z.symm
    have b : (t == ("concept" : Str)) = false := by simpa using h1
    rw [a, b]; simp
theorem laxiom_ok (v : W) (st : Sto) {n : Nat} (hv : vok (n + 2) st v = true) : ∃ l, d_law_axiom_ok [v] st = some (.ok (.bl (isA v)), st ++ l) := by
  have tst := lc3 (env := [some v]) (st := st) (v := v) (tl := fTest (fOp opLt (fCB opLen (fCons (fVar 0) fNil)) (fC (.int 2)))) (b := lnB (fun n => decide (n < 2)) v) rfl hv (fun ws e => by
    subst e
    refine ⟨t_test (e_op (e_cb (e_cons (e_var rfl) e_nil) rfl) rfl rfl), fun hb => ?_⟩
    have : ¬ (ws.length : Int) < 2 := of_decide_eq_false hb
    cases ws with
    | nil => simp at this
    | cons t r => exact ⟨t, r, rfl⟩)
  have no : isA v = false → hd3 (lnB (fun n => decide (n < 2)) v) v = true → ∃ l, d_law_axiom_ok [v] st = some (.ok (.bl (isA v)), st ++ l) := fun h1 h2 => by
    rw [h2] at tst
    refine ⟨[], f_rt (env1 := [some v]) rfl (s_rt (s_ifT tst (s_ret ?_)))⟩
    rw [h1, List.append_nil]; rfl
  cases v with
  | tup ws =>
    match ws, no, tst, hv with
    | [], no, _, _ => exact no rfl rfl
    | [t], no, _, _ => exact no (by cases t <;> rfl) rfl
    | t :: a :: r, no, tst, hv =>
      cases t with
      | str x =>
        obtain ⟨_, hw⟩ := vok_tup hv
        have hx := (vok_str (hw (.str x) List.mem_cons_self)).2
        have d2 : decide ((((.str x :: a :: r : List W).length : Nat) : Int) < 2) = false := decide_eq_false (by simp; omega)
        have tst : fOrT (fNotT (fTest (fIsi "tuple" (fVar 0)))) (fOrT (fTest (fOp opLt (fCB opLen (fCons (fVar 0) fNil)) (fC (.int 2)))) (fNotT (fTest (fIsi "str" (fOp opIx (fVar 0) (fC (.int 0))))))) [some (W.tup (.str x :: a :: r))] st = some (.ok false, st) := by
          rw [tst]; unfold hd3 lnB; simp only [d2]; rfl
        have ix0 : ∀ s, fOp opIx (fVar 0) (fC (.int 0)) [some (W.tup (.str x :: a :: r))] s = some (.ok (.str x), s) := fun s => e_op (e_var rfl) rfl (ix_tup (j := 0) s rfl)
        have ix1 : ∀ s, fOp opIx (fVar 0) (fC (.int 1)) [some (W.tup (.str x :: a :: r))] s = some (.ok a, s) := fun s => e_op (e_var rfl) rfl (ix_tup (j := 1) s rfl)
        have ln : ∀ s, fCB opLen (fCons (fVar 0) fNil) [some (W.tup (.str x :: a :: r))] s = some (.ok (.int ((.str x :: a :: r : List W).length : Nat)), s) := fun s => rfl
        have t1 : fTest (fOp opEqD (fOp opIx (fVar 0) (fC (.int 0))) (fC (.str "functional"))) [some (W.tup (.str x :: a :: r))] st = some (.ok (x == "functional"), st) := t_test (e_op (ix0 st) rfl (eq_str _ _ _))
        have va := hw a (by simp)
        cases hfn : (x == ("functional" : Str)) with
        | true =>
          rw [hfn] at t1
          cases r with
          | nil =>
            have pv : isA (.tup [.str x, a]) = pairP dF a := by unfold isA; simp only; rw [hfn, Bool.true_and]
            rw [pv]
            obtain ⟨l, hl⟩ := lconcept_ok a st va
            have e1 : fOp opEqD (fCB opLen (fCons (fVar 0) fNil)) (fC (.int 2)) [some (W.tup [.str x, a])] st = some (.ok (.bl true), st) := e_op (ln st) rfl (eq_int _ _ _)
            have e2 : fCB d_law_concept_ok (fCons (fOp opIx (fVar 0) (fC (.int 1))) fNil) [some (W.tup [.str x, a])] st = some (.ok (.bl (pairP cF a)), st ++ l) := e_cb (e_cons (ix1 st) e_nil) hl
            cases hp : pairP cF a with
            | false =>
              rw [hp] at e2
              have hd : pairP dF a = false := by
                match a, hp with
                | .tup [.str t, w], hp => rw [pair_dir, hp]; rfl
                | .tup [], _ => rfl
                | .tup [t], _ => cases t <;> rfl
                | .tup (t :: _ :: _ :: _), _ => cases t <;> rfl
                | .tup [.non, _], _ => rfl
                | .tup [.bl _, _], _ => rfl
                | .tup [.int _, _], _ => rfl
                | .tup [.tup _, _], _ => rfl
                | .tup [.ils _, _], _ => rfl
                | .tup [.ref _, _], _ => rfl
                | .non, _ => rfl
                | .bl _, _ => rfl
                | .int _, _ => rfl
                | .str _, _ => rfl
                | .ils _, _ => rfl
                | .ref _, _ => rfl
              rw [hd]
              exact ⟨l, f_rt (env1 := [some (W.tup [.str x, a])]) rfl (s_seq (s_ifF tst rfl) (s_rt (s_ifT t1 (s_ret (e_andT e1 (e_andF e2))))))⟩
            | true =>
              rw [hp] at e2
              obtain ⟨t, w, rfl⟩ : ∃ t w, a = .tup [.str t, w] := by
                unfold pairP at hp
                split at hp
                · exact ⟨_, _, rfl⟩
                · cases hp
              obtain ⟨_, hw2⟩ := vok_tup va
              have ht := (vok_str (hw2 (.str t) (by simp))).2
              rw [pair_dir, hp, Bool.true_and]
              refine ⟨l, f_rt (env1 := [some (W.tup [.str x, .tup [.str t, w]])]) rfl (s_seq (s_ifF tst rfl) (s_rt (s_ifT t1 (s_ret (e_andT e1 (e_andT e2 ?_))))))⟩
              exact e_op (e_op (ix1 _) rfl (ix_tup (j := 0) _ rfl)) rfl (ne_str _ _ _)
          | cons b r =>
            have e1 : fOp opEqD (fCB opLen (fCons (fVar 0) fNil)) (fC (.int 2)) [some (W.tup (.str x :: a :: b :: r))] st = some (.ok (.bl false), st) := by
              refine e_op (ln st) rfl ?_
              rw [eq_int]
              have : ((((.str x :: a :: b :: r : List W).length : Nat) : Int) == 2) = false := by simp; omega
              rw [this]
            have pv : isA (.tup (.str x :: a :: b :: r)) = false := by
              cases r with
              | cons _ _ => rfl
              | nil =>
                have : x = "functional" := eq_of_beq hfn
                subst this
                unfold isA; simp only
                have q1 : inS sd "functional" = false := by decide +kernel
                have q2 : inS ["subrole", "subrole_inverse", "disjoint_roles", "disjoint_inverse"] "functional" = false := by decide +kernel
                rw [q1, q2]; rfl
            rw [pv]
            exact ⟨[], f_rt (env1 := [some (W.tup (.str x :: a :: b :: r))]) rfl (s_seq (s_ifF tst rfl) (s_rt (s_ifT t1 (s_ret (by rw [List.append_nil]; exact e_andF e1)))))⟩
        | false =>
          rw [hfn] at t1
          have t2 : fTest (fOp opNeD (fCB opLen (fCons (fVar 0) fNil)) (fC (.int 3))) [some (W.tup (.str x :: a :: r))] st = some (.ok (!((((.str x :: a :: r : List W).length : Nat) : Int) == 3)), st) := t_test (e_op (ln st) rfl (ne_int _ _ _))
          by_cases h3 : r.length = 1
          · obtain ⟨b, rfl⟩ : ∃ b, r = [b] := by
              match r, h3 with
              | [b], _ => exact ⟨b, rfl⟩
            have vb := hw b (by simp)
            have t2 : fTest (fOp opNeD (fCB opLen (fCons (fVar 0) fNil)) (fC (.int 3))) [some (W.tup [.str x, a, b])] st = some (.ok false, st) := t2
            have t3 : fTest (fOp opIn (fOp opIx (fVar 0) (fC (.int 0))) (fTup (fCons (fC (.str "subclass")) (fCons (fC (.str "disjoint")) fNil)))) [some (W.tup [.str x, a, b])] st = some (.ok (inS sd x), st) := t_test (e_op (ix0 st) (b := .tup (sd.map .str)) rfl (in_ss st sd_sh hx))
            have t4 : fTest (fOp opNotIn (fOp opIx (fVar 0) (fC (.int 0))) (fTup (fCons (fC (.str "subrole")) (fCons (fC (.str "subrole_inverse")) (fCons (fC (.str "disjoint_roles")) (fCons (fC (.str "disjoint_inverse")) fNil)))))) [some (W.tup [.str x, a, b])] st = some (.ok (!inS rol x), st) := t_test (e_op (ix0 st) (b := .tup (rol.map .str)) rfl (notin_ss st rol_sh hx))
            cases hs : inS sd x with
            | true =>
              rw [hs] at t3
              obtain ⟨l, hl⟩ := and_two (g := d_law_concept_ok) (p := pairP cF) (ws := [.str x, a, b]) (env := [some (W.tup [.str x, a, b])]) (st := st) (n + 1) (fun w st h => lconcept_ok w st h) rfl rfl rfl va vb
              have pv : isA (.tup [.str x, a, b]) = (pairP cF a && pairP cF b) := by unfold isA; simp only; rw [hs]; rfl
              rw [pv]
              exact ⟨l, f_rt (env1 := [some (W.tup [.str x, a, b])]) rfl (s_seq (s_ifF tst rfl) (s_seq (s_ifF t1 rfl) (s_seq (s_ifF t2 rfl) (s_rt (s_ifT t3 (s_ret hl))))))⟩
            | false =>
              rw [hs] at t3
              have pv : isA (.tup [.str x, a, b]) = (inS rol x && (isW a && isW b)) := by unfold isA; simp only; rw [hs]; rfl
              rw [pv]
              cases hr : inS rol x with
              | true =>
                rw [hr] at t4
                obtain ⟨l, hl⟩ := and_two (g := d_law_is_word) (p := isW) (ws := [.str x, a, b]) (env := [some (W.tup [.str x, a, b])]) (st := st) (n + 1) (fun w st h => lword_ok w st h) rfl rfl rfl va vb
                exact ⟨l, f_rt (env1 := [some (W.tup [.str x, a, b])]) rfl (s_seq (s_ifF tst rfl) (s_seq (s_ifF t1 rfl) (s_seq (s_ifF t2 rfl) (s_seq (s_ifF t3 rfl) (s_seq (s_ifF t4 rfl) (s_ret hl))))))⟩
              | false =>
                rw [hr] at t4
                exact ⟨[], f_rt (env1 := [some (W.tup [.str x, a, b])]) rfl (s_seq (s_ifF tst rfl) (s_seq (s_ifF t1 rfl) (s_seq (s_ifF t2 rfl) (s_seq (s_ifF t3 rfl) (s_rt (s_ifT t4 (s_ret (by rw [List.append_nil]; rfl))))))))⟩
          · have q : ((((.str x :: a :: r : List W).length : Nat) : Int) == 3) = false := by simp; omega
            rw [q] at t2
            have pv : isA (.tup (.str x :: a :: r)) = false := by
              match r, h3 with
              | [], _ => unfold isA; simp only; rw [hfn]; rfl
              | [_], h => exact absurd rfl h
              | _ :: _ :: _, _ => rfl
            rw [pv]
            exact ⟨[], f_rt (env1 := [some (W.tup (.str x :: a :: r))]) rfl (s_seq (s_ifF tst rfl) (s_seq (s_ifF t1 rfl) (s_rt (s_ifT t2 (s_ret (by rw [List.append_nil]; rfl))))))⟩
      | _ => exact no (by match r with | [] => rfl | [_] => rfl | _ :: _ :: _ => rfl) (by unfold hd3; simp only [isStr, Bool.not_false, Bool.or_true])
  | _ => exact no rfl rfl
end K01

namespace K01
open PySem DI
theorem allD_mono {f g : W → Option PyData} (h : ∀ w d, f w = some d → g w = some d) : ∀ {ws : List W} {ds : List PyData}, allD f ws = some ds → allD g ws = some ds
  | [], _, e => e
  | w :: ws, ds, e => by
    unfold allD at e ⊢
    split at e
    · rename_i d ds' e1 e2
      rw [h w d e1, allD_mono h e2]; exact e
    · cases e
theorem toD_mono (l : Sto) : ∀ {n : Nat} {st : Sto} {w : W} {d : PyData}, toD st n w = some d → toD (st ++ l) n w = some d
  | 0, _, _, _, e => by cases e
  | n + 1, st, w, d, e => by
    have mapm : ∀ {ws : List W} {c : List PyData → PyData}, (allD (toD st n) ws).map c = some d → (allD (toD (st ++ l) n) ws).map c = some d := fun {ws c} e => by
      cases q : allD (toD st n) ws with
      | none => rw [q] at e; cases e
      | some ds => rw [q] at e; rw [allD_mono (fun w d => toD_mono l) q]; exact e
    cases w with
    | tup ws => exact mapm e
    | ils ws => exact mapm e
    | ref k =>
      have e : (match st[k]? with | some (.lst ws) => (allD (toD st n) ws).map PyData.list | some .emp => some (.dict []) | none => none) = some d := e
      show (match (st ++ l)[k]? with | some (.lst ws) => (allD (toD (st ++ l) n) ws).map PyData.list | some .emp => some (.dict []) | none => none) = some d
      cases q : st[k]? with
      | none => rw [q] at e; cases e
      | some o =>
        rw [q] at e
        rw [List.getElem?_append_left (List.getElem?_eq_some_iff.mp q).1, q]
        cases o with
        | lst ws => exact mapm e
        | emp => exact e
    | _ => exact e
def okC (st : Sto) (v : W) : Bool := vok 2 st v && match toD st 24 v with
  | some d => okR d
  | none => false
theorem okC_data {st : Sto} {v : W} (h : okC st v = true) : vok 2 st v = true ∧ ∃ d, toD st 24 v = some d ∧ okR d = true := by
  unfold okC at h
  rw [Bool.and_eq_true] at h
  refine ⟨h.1, ?_⟩
  have h2 := h.2
  split at h2
  · rename_i d hd
    exact ⟨d, hd, h2⟩
  · cases h2
theorem okC_mono (l : Sto) {st : Sto} {v : W} (h : okC st v = true) : okC (st ++ l) v = true := by
  obtain ⟨h1, d, h2, h3⟩ := okC_data h
  unfold okC
  rw [vok_mono l h1, toD_mono l h2]
  simp only
  rw [h3]; rfl
theorem repr_ok {st : Sto} {v : W} {d : PyData} (h : toD st 24 v = some d) (ok : okR d = true) : opRepr [v] st = some (.ok (.str d.shown), st) := by
  show (match toD st 24 v with | some d => (if okR d then DI.ret (W.str d.shown) st else none) | none => none) = _
  rw [h]; simp only; rw [if_pos ok]; rfl
def tf (b : Bool) : Str := if b then "True" else "False"
theorem repr_bl (b : Bool) (st : Sto) : opRepr [.bl b] st = some (.ok (.str (tf b)), st) := by
  have ok : okR (.bool b) = true := by cases b <;> decide +kernel
  rw [repr_ok (d := .bool b) rfl ok]; rfl
theorem eq_tf {st : Sto} {k k' : Nat} {a b : Bool} (h1 : st[k]? = some (.lst [.str (tf a), .str (tf b)])) (h2 : st[k']? = some (.lst [.str (tf a), .str (tf b)])) : opEqD (.ref k) (.ref k') st = some (.ok (.bl true), st) := by
  have e1 : toD st 24 (.ref k) = some (.list [.str (tf a), .str (tf b)]) := by
    show (match st[k]? with | some (.lst ws) => (allD (toD st 23) ws).map PyData.list | some .emp => some (.dict []) | none => none) = _
    rw [h1]; rfl
  have e2 : toD st 24 (.ref k') = some (.list [.str (tf a), .str (tf b)]) := by
    show (match st[k']? with | some (.lst ws) => (allD (toD st 23) ws).map PyData.list | some .emp => some (.dict []) | none => none) = _
    rw [h2]; rfl
  show opData dEq _ _ _ = _
  unfold opData
  rw [e1, e2]
  simp only
  have q : dEq (.list [.str (tf a), .str (tf b)]) (.list [.str (tf a), .str (tf b)]) = some true := by cases a <;> cases b <;> decide +kernel
  rw [q]; rfl
theorem check_ok (v : W) (st : Sto) (h : okC st v = true) : ∃ l, d_law_check [v] st = some (.ok (.bl true), st ++ l) := by
  obtain ⟨h1, d, h2, h3⟩ := okC_data h
  obtain ⟨l1, e1⟩ := concept_ok v st h1
  obtain ⟨l2, e2⟩ := axiom_ok v (st ++ l1) (vok_mono l1 h1)
  have x1 : fSet 1 (fCB opRepr (fCons (fVar 0) fNil)) [some v, none, none] st = some (.nx, [some v, some (.str d.shown), none], st) := s_set (e_cb (e_cons (e_var rfl) e_nil) (repr_ok h2 h3))
  have two : ∀ (c g : OC) (s : Sto) (m1 m2 : Sto) (a b : Bool) (env : Evn), env[0]? = some (some v) → c [v] s = some (.ok (.bl a), s ++ m1) → g [v] (s ++ m1) = some (.ok (.bl b), s ++ m1 ++ m2) →
      fLst (fCons (fCB opRepr (fCons (fCB c (fCons (fVar 0) fNil)) fNil)) (fCons (fCB opRepr (fCons (fCB g (fCons (fVar 0) fNil)) fNil)) fNil)) env s = some (.ok (.ref (s ++ m1 ++ m2).length), s ++ m1 ++ m2 ++ [.lst [.str (tf a), .str (tf b)]]) := fun c g s m1 m2 a b env h0 hc hg => by
    exact e_lst (e_cons (e_cb (e_cons (e_cb (e_cons (e_var h0) e_nil) hc) e_nil) (repr_bl a _)) (e_cons (e_cb (e_cons (e_cb (e_cons (e_var h0) e_nil) hg) e_nil) (repr_bl b _)) e_nil)) (by simp)
  have x2 := two d_is_concept d_is_axiom st l1 l2 (pairP cF v) (isA v) [some v, some (.str d.shown), none] rfl e1 e2
  let s2 : Sto := st ++ l1 ++ l2 ++ [.lst [.str (tf (pairP cF v)), .str (tf (isA v))]]
  have hs2 : s2 = st ++ (l1 ++ l2 ++ [.lst [.str (tf (pairP cF v)), .str (tf (isA v))]]) := by simp [s2]
  have v2 : vok 2 s2 v = true := by rw [hs2]; exact vok_mono _ h1
  obtain ⟨l3, e3⟩ := lconcept_ok v s2 v2
  obtain ⟨l4, e4⟩ := laxiom_ok v (s2 ++ l3) (vok_mono l3 v2)
  have x3 := two d_law_concept_ok d_law_axiom_ok s2 l3 l4 (pairP cF v) (isA v) [some v, some (.str d.shown), some (.ref (st ++ l1 ++ l2).length)] rfl e3 e4
  have hk : (s2 ++ l3 ++ l4 ++ [Ob.lst [.str (tf (pairP cF v)), .str (tf (isA v))]])[(st ++ l1 ++ l2).length]? = some (.lst [.str (tf (pairP cF v)), .str (tf (isA v))]) := by
    rw [List.append_assoc, List.append_assoc, List.getElem?_append_left (by simp [s2])]
    simp [s2]
  have hk' : (s2 ++ l3 ++ l4 ++ [Ob.lst [.str (tf (pairP cF v)), .str (tf (isA v))]])[(s2 ++ l3 ++ l4).length]? = some (.lst [.str (tf (pairP cF v)), .str (tf (isA v))]) := by simp
  have x4 := eq_tf hk hk'
  have x5 : opRepr [v] (s2 ++ l3 ++ l4 ++ [Ob.lst [.str (tf (pairP cF v)), .str (tf (isA v))]]) = some (.ok (.str d.shown), s2 ++ l3 ++ l4 ++ [Ob.lst [.str (tf (pairP cF v)), .str (tf (isA v))]]) := by
    refine repr_ok ?_ h3
    rw [hs2, List.append_assoc, List.append_assoc, List.append_assoc]
    exact toD_mono _ h2
  refine ⟨l1 ++ l2 ++ [.lst [.str (tf (pairP cF v)), .str (tf (isA v))]] ++ l3 ++ l4 ++ [Ob.lst [.str (tf (pairP cF v)), .str (tf (isA v))]], ?_⟩
  have fin : st ++ (l1 ++ l2 ++ [.lst [.str (tf (pairP cF v)), .str (tf (isA v))]] ++ l3 ++ l4 ++ [Ob.lst [.str (tf (pairP cF v)), .str (tf (isA v))]]) = s2 ++ l3 ++ l4 ++ [Ob.lst [.str (tf (pairP cF v)), .str (tf (isA v))]] := by simp [s2]
  rw [fin]
  refine f_rt (env1 := [some v, some (.str d.shown), some (.ref (st ++ l1 ++ l2).length)]) rfl (s_seq x1 (s_seq (s_set x2) (s_ret (e_andT (e_op (e_var rfl) x3 x4) (e_op (e_cb (e_cons (e_var rfl) e_nil) x5) (e_var rfl) ?_)))))
  rw [eq_str]
  simp
end K01

namespace K01
open PySem DI
/-! ### draws -/
abbrev MM : Int := 2147483647
def SOk (n : Nat) (st : Sto) : Prop := ∃ a b : Int, st[n]? = some (.lst [.int a, .int b]) ∧ 0 ≤ b ∧ b < MM
structure Fw (n : Nat) (st st' : Sto) : Prop where
  keep : ∀ i o, i ≠ n → st[i]? = some o → st'[i]? = some o
  ok : SOk n st'
  len : st.length ≤ st'.length
theorem Fw.refl {n : Nat} {st : Sto} (h : SOk n st) : Fw n st st := ⟨fun _ _ _ e => e, h, Nat.le_refl _⟩
theorem Fw.trans {n : Nat} {s1 s2 s3 : Sto} (a : Fw n s1 s2) (b : Fw n s2 s3) : Fw n s1 s3 := ⟨fun i o h e => b.keep i o h (a.keep i o h e), b.ok, Nat.le_trans a.len b.len⟩
theorem SOk.app {n : Nat} {st : Sto} (l : Sto) (h : SOk n st) : SOk n (st ++ l) := by
  obtain ⟨a, b, e, h1, h2⟩ := h
  exact ⟨a, b, by rw [List.getElem?_append_left (List.getElem?_eq_some_iff.mp e).1]; exact e, h1, h2⟩
theorem Fw.app {n : Nat} {st : Sto} (l : Sto) (h : SOk n st) : Fw n st (st ++ l) :=
  ⟨fun i o _ e => by rw [List.getElem?_append_left (List.getElem?_eq_some_iff.mp e).1]; exact e, h.app l, by simp⟩
theorem SOk.lt {n : Nat} {st : Sto} (h : SOk n st) : n < st.length := by
  obtain ⟨_, _, e, _⟩ := h
  exact (List.getElem?_eq_some_iff.mp e).1
theorem ix_ref {st : Sto} {k j : Nat} {ws : List W} {w : W} (hk : st[k]? = some (.lst ws)) (h : ws[j]? = some w) : opIx (.ref k) (.int (j : Int)) st = some (.ok w, st) := by
  show (match st[k]? with | some (.lst ws) => (L2.atI ws (j : Int)).map fun w => (R.ok w, st) | _ => none) = _
  rw [hk]; simp only; rw [L2.atI_nat h]; rfl
theorem s_put {fo fi fe : FE} {env : Evn} {st s1 s2 s3 s4 : Sto} {o i w : W} (he : fe env st = some (.ok w, s1)) (ho : fo env s1 = some (.ok o, s2)) (hi : fi env s2 = some (.ok i, s3)) (hp : putL o i w s3 = some s4) : fPut fo fi fe env st = some (.nx, env, s4) := by
  unfold fPut; rw [he]; show bS (fo env s1) env _ = _; rw [ho]; show bS (fi env s2) env _ = _; rw [hi]; show (putL o i w s3).map _ = _; rw [hp]; rfl
theorem put2 {st : Sto} {n : Nat} {x y w : W} (j : Nat) (h : st[n]? = some (.lst [x, y])) (hj : j < 2) : putL (.ref n) (.int (j : Int)) w st = some (st.set n (.lst ([x, y].set j w))) := by
  show (match st[n]? with | some (.lst ws) => (L2.ixN ws.length (j : Int)).map fun m => st.set n (.lst (ws.set m w)) | _ => none) = _
  rw [h]; simp only
  have e : L2.ixN [x, y].length (j : Int) = some j := by
    unfold L2.ixN
    rw [if_pos (by omega), if_pos (by simp; omega)]; simp
  rw [e]; rfl
theorem o_mod (i j : Int) (st : Sto) (h : 0 < j) : opMod (.int i) (.int j) st = some (.ok (.int (i % j)), st) := by
  show (if cMod i j then DI.ret (W.int (i % j)) st else none) = _
  have : cMod i j = true := decide_eq_true h
  rw [this]; rfl
theorem o_div (i j : Int) (st : Sto) (h : 0 < j) (h2 : j < 1073741824) : opDiv (.int i) (.int j) st = some (.ok (.int (i / j)), st) := by
  show (if cDiv i j then DI.ret (W.int (i / j)) st else none) = _
  have : cDiv i j = true := by unfold cDiv; rw [decide_eq_true h, decide_eq_true h2]; rfl
  rw [this]; rfl
theorem o_mulR (i j : Int) (st : Sto) (h : -(2 ^ 64) < j) (h2 : j < 2 ^ 64) : opMul (.int i) (.int j) st = some (.ok (.int (i * j)), st) := by
  show (if cMul i j then DI.ret (W.int (i * j)) st else none) = _
  have : cMul i j = true := by unfold cMul; rw [decide_eq_true h, decide_eq_true h2]; simp
  rw [this]; rfl
theorem fw_set {n : Nat} {st : Sto} {a b : Int} (h : n < st.length) (h1 : 0 ≤ b) (h2 : b < MM) : Fw n st (st.set n (.lst [.int a, .int b])) :=
  ⟨fun i o hi e => by rw [List.getElem?_set_ne (fun z => hi z.symm)]; exact e, ⟨a, b, List.getElem?_set_self h, h1, h2⟩, by simp⟩
theorem draw_ok {n : Nat} {st : Sto} {c : Int} (h : SOk n st) (hc : 0 < c) (hc2 : c < 1073741824) : ∃ (r : Nat) (st' : Sto), (r : Int) < c ∧ Fw n st st' ∧ d_law_draw [.ref n, .int c] st = some (.ok (.int r), st') := by
  have hn := h.lt
  obtain ⟨a, b, e, h1, h2⟩ := h
  have ix0 : ∀ env : Evn, env[0]? = some (some (.ref n)) → fOp opIx (fVar 0) (fC (.int 0)) env st = some (.ok (.int a), st) := fun env q => e_op (e_var q) rfl (ix_ref (j := 0) e rfl)
  have ix1 : ∀ env : Evn, env[0]? = some (some (.ref n)) → fOp opIx (fVar 0) (fC (.int 1)) env st = some (.ok (.int b), st) := fun env q => e_op (e_var q) rfl (ix_ref (j := 1) e rfl)
  have t : fTest (fOp opGt (fOp opIx (fVar 0) (fC (.int 0))) (fC (.int 0))) [some (W.ref n), some (.int c), none] st = some (.ok (decide (0 < a)), st) := t_test (e_op (ix0 _ rfl) rfl rfl)
  by_cases ha : 0 < a
  · rw [decide_eq_true ha] at t
    have r0 := Int.emod_nonneg a (by omega : c ≠ 0)
    have r1 := Int.emod_lt_of_pos a hc
    refine ⟨(a % c).toNat, st.set n (.lst [.int (a / c), .int b]), by omega, fw_set hn h1 h2, ?_⟩
    have er : (((a % c).toNat : Nat) : Int) = a % c := Int.toNat_of_nonneg r0
    rw [er]
    refine f_rt (env1 := [some (W.ref n), some (.int c), some (.int (a % c))]) rfl (s_rt (s_ifT t (s_seq (s_set (e_op (ix0 _ rfl) (e_var rfl) (o_mod a c st hc))) (s_seq (s_put (e_op (ix0 _ rfl) (e_var rfl) (o_div a c st hc hc2)) (e_var rfl) rfl (put2 0 e (by omega))) (s_ret (e_var rfl))))))
  · rw [decide_eq_false ha] at t
    let b' : Int := (b * 69621 + 7) % 2147483647
    have b0 : 0 ≤ b' := Int.emod_nonneg _ (by decide)
    have b1 : b' < MM := Int.emod_lt_of_pos _ (by decide)
    let r : Int := (b' * b') % 2147483629 / 32 % c
    have r0 : 0 ≤ r := Int.emod_nonneg _ (by omega)
    have r1 : r < c := Int.emod_lt_of_pos _ hc
    refine ⟨r.toNat, st.set n (.lst [.int a, .int b']), by omega, fw_set hn b0 b1, ?_⟩
    have er : ((r.toNat : Nat) : Int) = r := Int.toNat_of_nonneg r0
    rw [er]
    have e' : (st.set n (.lst [.int a, .int b']))[n]? = some (.lst [.int a, .int b']) := List.getElem?_set_self hn
    have ix1' : fOp opIx (fVar 0) (fC (.int 1)) [some (W.ref n), some (.int c), none] (st.set n (.lst [.int a, .int b'])) = some (.ok (.int b'), st.set n (.lst [.int a, .int b'])) := e_op (e_var rfl) rfl (ix_ref (j := 1) e' rfl)
    refine f_rt (env1 := [some (W.ref n), some (.int c), none]) rfl (s_seq (s_ifF t rfl) (s_seq (s_put (e_op (e_op (e_op (ix1 _ rfl) rfl (o_mulR b 69621 st (by decide) (by decide))) rfl rfl) rfl (o_mod (b * 69621 + 7) 2147483647 st (by decide))) (e_var rfl) rfl (put2 1 e (by omega))) (s_ret ?_)))
    have mm : (-(2 ^ 64) : Int) < b' ∧ b' < 2 ^ 64 := ⟨by omega, by omega⟩
    exact e_op (e_op (e_op (e_op ix1' ix1' (o_mulR b' b' _ mm.1 mm.2)) rfl (o_mod _ _ _ (by decide))) rfl (o_div _ _ _ (by decide) (by decide))) (e_var rfl) (o_mod _ _ _ hc)
theorem choose_ok {n k : Nat} {st : Sto} {ws : List W} (h : SOk n st) (hk : st[k]? = some (.lst ws)) (hn : k ≠ n) (h0 : 0 < ws.length) (hz : ws.length < 1000) : ∃ w st', w ∈ ws ∧ Fw n st st' ∧ d_law_choose [.ref n, .ref k] st = some (.ok w, st') := by
  obtain ⟨r, st', hr, fw, e⟩ := draw_ok (c := (ws.length : Int)) h (by omega) (by omega)
  have hr' : r < ws.length := by omega
  refine ⟨ws[r], st', List.getElem_mem hr', fw, ?_⟩
  have ln : fCB opLen (fCons (fVar 1) fNil) [some (W.ref n), some (.ref k)] st = some (.ok (.int ws.length), st) := by
    refine e_cb (e_cons (e_var rfl) e_nil) ?_
    show (match (match st[k]? with | some (.lst ws) => some ws.length | _ => none) with | some n => DI.ret (W.int n) st | none => none) = _
    rw [hk]; rfl
  exact f_rt (env1 := [some (W.ref n), some (.ref k)]) rfl (s_ret (e_op (e_var rfl) (e_cb (e_cons (e_var rfl) (e_cons ln e_nil)) e) (ix_ref (fw.keep k _ hn hk) (by simp [hr']))))
/-- one of a written list, drawn -/
theorem pick_ok {n : Nat} {st : Sto} {ws : List W} {fs : FA} {env : Evn} {i : Nat} (h : SOk n st) (h0 : 0 < ws.length) (hz : ws.length < 1000) (hi : env[i]? = some (some (.ref n))) (hf : fs env st = some (.ok ws, st)) {c : Int} (hc : c = ws.length) :
    ∃ w st', w ∈ ws ∧ Fw n st st' ∧ fOp opIx (fLst fs) (fCB d_law_draw (fCons (fVar i) (fCons (fC (.int c)) fNil))) env st = some (.ok w, st') := by
  subst hc
  have h' := h.app [.lst ws]
  obtain ⟨r, st', hr, fw, e⟩ := draw_ok (c := (ws.length : Int)) h' (by omega) (by omega)
  have hr' : r < ws.length := by omega
  have hk : (st ++ [Ob.lst ws])[st.length]? = some (.lst ws) := by simp
  have hn : st.length ≠ n := Nat.ne_of_gt h.lt
  exact ⟨ws[r], st', List.getElem_mem hr', (Fw.app _ h).trans fw, e_op (e_lst hf (by omega)) (e_cb (e_cons (e_var hi) (e_cons rfl e_nil)) e) (ix_ref (fw.keep _ _ hn hk) (by simp [hr']))⟩
theorem pow18 (st : Sto) : opPow (.int 10) (.int 18) st = some (.ok (.int 1000000000000000000), st) := by
  show (if cPow 10 18 then DI.ret (W.int (10 ^ (18 : Int).toNat)) st else none) = _
  have h1 : cPow 10 18 = true := by decide +kernel
  have h2 : (10 : Int) ^ (18 : Int).toNat = 1000000000000000000 := by decide +kernel
  rw [h1, h2]; rfl
/-! ### the stream -/
theorem stream_ok (ns : List Int) (k : Nat) (hk : k < 63) (st : Sto) : ∃ st', SOk st.length (st') ∧ d_law_stream [.ils (ns.map W.int), .int k] st = some (.ok (.ref st.length), st') ∧ ∃ l, st' = st ++ l := by
  have go : ∀ cell : Int, ∃ a b : Int, 0 ≤ b ∧ b < MM ∧
      fSeq (fSet 3 (fCB opMax2 (fCons (fVar 2) (fCons (fOp opSub (fNeg (fC (.int 1))) (fVar 2)) fNil))))
      (fSeq (fSet 4 (fOp opMod (fOp opMul (fOp opAdd (fOp opAdd (fOp opAdd (fOp opMod (fVar 3) (fC (.int 2147483629))) (fOp opMul (fOp opMul (fC (.int 7919)) (fVar 1)) (fVar 1))) (fOp opMul (fC (.int 31)) (fVar 1))) (fC (.int 17))) (fC (.int 48271))) (fC (.int 2147483647))))
      (fRet (fLst (fCons (fOp opMul (fVar 3) (fCB opInt (fCons (fOp opGe (fVar 3) (fOp opPow (fC (.int 10)) (fC (.int 18)))) fNil))) (fCons (fVar 4) fNil))))) [some (.ils (ns.map W.int)), some (.int k), some (.int cell), none, none] st
      = some (.rt (.ref st.length), [some (.ils (ns.map W.int)), some (.int k), some (.int cell), some (.int (if -1 - cell > cell then -1 - cell else cell)), some (.int b)], st ++ [.lst [.int a, .int b]]) := fun cell => by
    let sz : Int := if -1 - cell > cell then -1 - cell else cell
    let mx : Int := (sz % 2147483629 + 7919 * k * k + 31 * k + 17) * 48271 % 2147483647
    let fl : Int := if decide ((1000000000000000000 : Int) ≤ sz) then 1 else 0
    refine ⟨sz * fl, mx, Int.emod_nonneg _ (by decide), Int.emod_lt_of_pos _ (by decide), ?_⟩
    refine s_seq (s_set (a := .int sz) (e_cb (e_cons (e_var rfl) (e_cons (e_op rfl (e_var rfl) rfl) e_nil)) rfl)) (s_seq (s1 := st) (s_set (a := .int mx) ?_) (s_ret (e_lst (e_cons (e_op (b := .int fl) (s2 := st) (e_var rfl) ?_ ?_) (e_cons (e_var rfl) e_nil)) (by simp))))
    · have kk : (-(2 ^ 64) : Int) < (k : Int) ∧ (k : Int) < 2 ^ 64 := ⟨by omega, by omega⟩
      exact e_op (e_op (e_op (e_op (e_op (e_op (e_var rfl) rfl (o_mod sz _ st (by decide))) (e_op (e_op rfl (e_var rfl) (o_mulR _ _ _ kk.1 kk.2)) (e_var rfl) (o_mulR _ _ _ kk.1 kk.2)) rfl) (e_op rfl (e_var rfl) (o_mulR _ _ _ kk.1 kk.2)) rfl) rfl rfl) rfl (o_mulR _ _ _ (by decide) (by decide))) rfl (o_mod _ _ _ (by decide))
    · refine e_cb (e_cons (a := .bl (decide ((1000000000000000000 : Int) ≤ sz))) (e_op (e_var rfl) (e_op rfl rfl (pow18 st)) rfl) e_nil) ?_
      rfl
    · refine o_mulR _ _ _ ?_ ?_
      · show (-(2 ^ 64) : Int) < (if decide ((1000000000000000000 : Int) ≤ sz) then 1 else 0); split <;> decide
      · show (if decide ((1000000000000000000 : Int) ≤ sz) then (1 : Int) else 0) < 2 ^ 64; split <;> decide
  have ln : fCB opLen (fCons (fVar 0) fNil) [some (.ils (ns.map W.int)), some (.int k), some (.int 0), none, none] st = some (.ok (.int (ns.map W.int).length), st) := rfl
  have t : fTest (fOp opLt (fVar 1) (fCB opLen (fCons (fVar 0) fNil))) [some (.ils (ns.map W.int)), some (.int k), some (.int 0), none, none] st = some (.ok (decide ((k : Int) < ((ns.map W.int).length : Int))), st) := t_test (e_op (e_var rfl) ln rfl)
  have fin : ∀ cell : Int, fIfS (fTest (fOp opLt (fVar 1) (fCB opLen (fCons (fVar 0) fNil)))) (fSet 2 (fOp opIx (fVar 0) (fVar 1))) fNext [some (.ils (ns.map W.int)), some (.int k), some (.int 0), none, none] st = some (.nx, [some (.ils (ns.map W.int)), some (.int k), some (.int cell), none, none], st) →
      ∃ st', SOk st.length (st') ∧ d_law_stream [.ils (ns.map W.int), .int k] st = some (.ok (.ref st.length), st') ∧ ∃ l, st' = st ++ l := fun cell q => by
    obtain ⟨a, b, b0, b1, g⟩ := go cell
    exact ⟨st ++ [.lst [.int a, .int b]], ⟨a, b, by simp, b0, b1⟩, f_rt rfl (s_seq (s_set rfl) (s_seq q g)), _, rfl⟩
  by_cases hl : k < ns.length
  · have hd : decide ((k : Int) < ((ns.map W.int).length : Int)) = true := decide_eq_true (by simp; omega)
    rw [hd] at t
    have ge : (ns.map W.int)[k]? = some (.int ns[k]) := by simp [hl]
    refine fin ns[k] (s_ifT t (s_set (e_op (e_var rfl) (e_var rfl) ?_)))
    show ((L2.atI (ns.map W.int) (k : Int)).map fun w => (R.ok w, st)) = _
    rw [L2.atI_nat ge]; rfl
  · have hd : decide ((k : Int) < ((ns.map W.int).length : Int)) = false := decide_eq_false (by simp; omega)
    rw [hd] at t
    exact fin 0 (s_ifF t rfl)
end K01

namespace K01
open PySem DI PySem.W PyProof.Rows
/-! ### values by their parts -/
structure Pt (k D B : Nat) (st : Sto) (w : DI.W) (d : PyData) : Prop where
  v : vok k st w = true
  t : ∀ m, D < m → toD st m w = some d
  s : d.showable = true
  h : d.depth ≤ D
  x : txtOk d = true
  b : bdD d ≤ B
def flag (d : PyData) : Prop := d.hasDict = false ∨ hasL d = false
def pureD (d : PyData) : Prop := d.hasDict = false ∧ hasL d = false
theorem pt_all {k D B : Nat} {st : Sto} {P : PyData → Prop} : ∀ {ws : List DI.W}, (∀ w ∈ ws, ∃ d, Pt k D B st w d ∧ P d) →
    ∃ ds, (∀ m, D < m → allD (toD st m) ws = some ds) ∧ PyData.showableAll ds = true ∧ PyData.depthAll ds ≤ D ∧ txtOkAll ds = true ∧ bdAll ds ≤ ws.length * (B + 2) ∧ ∀ d ∈ ds, P d
  | [], _ => ⟨[], fun _ _ => rfl, rfl, Nat.zero_le _, rfl, Nat.zero_le _, fun _ h => nomatch h⟩
  | w :: ws, h => by
    obtain ⟨d, p, hp⟩ := h w List.mem_cons_self
    obtain ⟨ds, h1, h2, h3, h4, h5, h6⟩ := pt_all fun u hu => h u (List.mem_cons_of_mem _ hu)
    refine ⟨d :: ds, fun m hm => ?_, ?_, ?_, ?_, ?_, fun e he => ?_⟩
    · unfold allD; rw [p.t m hm, h1 m hm]
    · show (d.showable && PyData.showableAll ds) = true; rw [p.s, h2]; rfl
    · show max d.depth (PyData.depthAll ds) ≤ D; exact Nat.max_le.mpr ⟨p.h, h3⟩
    · show (txtOk d && txtOkAll ds) = true; rw [p.x, h4]; rfl
    · show (bdD d + 2) + bdAll ds ≤ (ws.length + 1) * (B + 2)
      have := p.b
      rw [Nat.add_mul]; omega
    · rcases List.mem_cons.mp he with rfl | he
      · exact hp
      · exact h6 e he
theorem noD_all : ∀ {ds : List PyData}, (∀ d ∈ ds, d.hasDict = false) → PyData.hasDictAll ds = false
  | [], _ => rfl
  | d :: ds, h => by show (d.hasDict || PyData.hasDictAll ds) = false; rw [h d List.mem_cons_self, noD_all fun e he => h e (List.mem_cons_of_mem _ he)]; rfl
theorem noL_all : ∀ {ds : List PyData}, (∀ d ∈ ds, hasL d = false) → hasLAll ds = false
  | [], _ => rfl
  | d :: ds, h => by show (hasL d || hasLAll ds) = false; rw [h d List.mem_cons_self, noL_all fun e he => h e (List.mem_cons_of_mem _ he)]; rfl
theorem pt_tup {k D B : Nat} {st : Sto} {P : PyData → Prop} {ws : List DI.W} (hz : ws.length ≤ 1000) (h : ∀ w ∈ ws, ∃ d, Pt k D B st w d ∧ P d) :
    ∃ ds, Pt (k + 1) (D + 1) (ws.length * (B + 2) + 4) st (.tup ws) (.tuple ds) ∧ ∀ d ∈ ds, P d := by
  obtain ⟨ds, h1, h2, h3, h4, h5, h6⟩ := pt_all h
  refine ⟨ds, ⟨?_, fun m hm => ?_, h2, ?_, h4, ?_⟩, h6⟩
  · unfold vok
    show ((true && true) && (decide (ws.length ≤ 1000) && ws.all (vok k st))) = true
    rw [decide_eq_true hz, List.all_eq_true.mpr fun w hw => let ⟨_, p, _⟩ := h w hw; p.v]; rfl
  · obtain ⟨m', rfl⟩ : ∃ m', m = m' + 1 := ⟨m - 1, by omega⟩
    show (allD (toD st m') ws).map PyData.tuple = _
    rw [h1 m' (by omega)]; rfl
  · show PyData.depthAll ds + 1 ≤ D + 1; omega
  · show bdAll ds + 4 ≤ _; omega
theorem pt_lst {k D B j : Nat} {st : Sto} {P : PyData → Prop} {ws : List DI.W} (hj : st[j]? = some (.lst ws)) (h : ∀ w ∈ ws, ∃ d, Pt k D B st w d ∧ P d) :
    ∃ ds, Pt 2 (D + 1) (ws.length * (B + 2) + 4) st (.ref j) (.list ds) ∧ ∀ d ∈ ds, P d := by
  obtain ⟨ds, h1, h2, h3, h4, h5, h6⟩ := pt_all h
  refine ⟨ds, ⟨?_, fun m hm => ?_, h2, ?_, h4, ?_⟩, h6⟩
  · have e : tyW (.ref j) st = some "list" := by
      show (match st[j]? with | some (.lst _) => some "list" | some .emp => some "dict" | none => none) = _
      rw [hj]
    unfold vok; rw [e]; rfl
  · obtain ⟨m', rfl⟩ : ∃ m', m = m' + 1 := ⟨m - 1, by omega⟩
    show (match st[j]? with | some (.lst ws) => (allD (toD st m') ws).map PyData.list | some .emp => some (.dict []) | none => none) = _
    rw [hj]; simp only; rw [h1 m' (by omega)]; rfl
  · show PyData.depthAll ds + 1 ≤ D + 1; omega
  · show bdAll ds + 4 ≤ _; omega
theorem Pt.okC {k D B : Nat} {st : Sto} {w : DI.W} {d : PyData} (p : Pt (k + 2) D B st w d) (hD : D ≤ 20) (hB : B ≤ 1000000) (f : flag d) : K01.okC st w = true := by
  have v2 : vok 2 st w = true := by
    have := p.v
    induction k with
    | zero => exact this
    | succ k ih => exact ih ⟨vok_down p.v, p.t, p.s, p.h, p.x, p.b⟩ (vok_down this)
  unfold K01.okC
  rw [v2, p.t 24 (by omega)]
  show okR d = true
  unfold okR
  rw [p.s, p.x, decide_eq_true (show d.depth ≤ 40 by have := p.h; omega), decide_eq_true (show bdD d ≤ 1000000 by have := p.b; omega)]
  rcases f with f | f <;> rw [f] <;> simp
theorem Pt.weak {k D B D' B' : Nat} {st : Sto} {w : DI.W} {d : PyData} (p : Pt k D B st w d) (hD : D ≤ D') (hB : B ≤ B') : Pt k D' B' st w d :=
  ⟨p.v, fun m hm => p.t m (by omega), p.s, Nat.le_trans p.h hD, p.x, Nat.le_trans p.b hB⟩
theorem Pt.down {k D B : Nat} {st : Sto} {w : DI.W} {d : PyData} (p : Pt (k + 1) D B st w d) : Pt k D B st w d := ⟨vok_down p.v, p.t, p.s, p.h, p.x, p.b⟩
theorem Pt.app {k D B : Nat} {st : Sto} {w : DI.W} {d : PyData} (l : Sto) (p : Pt k D B st w d) : Pt k D B (st ++ l) w d := ⟨vok_mono l p.v, fun m hm => toD_mono l (p.t m hm), p.s, p.h, p.x, p.b⟩
theorem pt_str (k : Nat) (st : Sto) {x : Str} (hx : PyData.strOk x = true) (hl : x.length ≤ 100) : Pt k 0 1002 st (.str x) (.str x) := by
  refine ⟨?_, fun m hm => ?_, rfl, Nat.zero_le _, hx, ?_⟩
  · have e : strB (.str x) = true := by unfold strB; simp only; rw [hx, decide_eq_true (by omega)]; rfl
    cases k <;> (unfold vok; rw [e]; rfl)
  · cases m with
    | zero => omega
    | succ m => rfl
  · show 10 * x.length + 2 ≤ 1002; omega
/-! ### names, concepts, axioms -/
def nm (w : DI.W) : Prop := ∃ x : Str, w = .str x ∧ x.length ≤ 8 ∧ PyData.strOk x = true
def NmL (st : Sto) (k : Nat) : Prop := ∃ ws, st[k]? = some (.lst ws) ∧ 0 < ws.length ∧ ws.length < 10 ∧ ∀ w ∈ ws, nm w
theorem NmL.fw {n k : Nat} {st st' : Sto} (h : NmL st k) (f : Fw n st st') (hn : k ≠ n) : NmL st' k := let ⟨ws, a, b⟩ := h; ⟨ws, f.keep k _ hn a, b⟩
theorem nm_choose {n k : Nat} {st : Sto} (h : SOk n st) (hk : NmL st k) (hn : k ≠ n) : ∃ w st', nm w ∧ Fw n st st' ∧ d_law_choose [.ref n, .ref k] st = some (.ok w, st') := by
  obtain ⟨ws, a, b, c, d⟩ := hk
  obtain ⟨w, st', hw, f, e⟩ := choose_ok h a hn b (by omega)
  exact ⟨w, st', d w hw, f, e⟩
def nmsC (h : Str) : List DI.W := [.str (h ++ ⟨#[97]⟩), .str (h ++ ⟨#[98]⟩), .str (h ++ ⟨#[99]⟩), .str (h ++ ⟨#[100]⟩)]
def nmsR (h : Str) : List DI.W := [.str (h ++ ⟨#[114]⟩), .str (h ++ ⟨#[115]⟩), .str (h ++ ⟨#[116]⟩)]
def nmB (w : DI.W) : Bool := match w with | .str x => decide (x.length ≤ 8) && PyData.strOk x | _ => false
theorem nm_of {w : DI.W} (h : nmB w = true) : nm w := by
  unfold nmB at h
  split at h
  · rename_i x
    rw [Bool.and_eq_true] at h
    exact ⟨x, rfl, of_decide_eq_true h.1, h.2⟩
  · cases h
theorem names_ok {n : Nat} {st : Sto} (h : SOk n st) : ∃ kc kr st', NmL st' kc ∧ NmL st' kr ∧ kc ≠ n ∧ kr ≠ n ∧ Fw n st st' ∧ d_law_names [.ref n] st = some (.ok (.tup [.ref kc, .ref kr]), st') := by
  obtain ⟨w, s1, hw, f1, e1⟩ := pick_ok (n := n) (st := st) (ws := [.str "", .str "k", .str "zzzzzzz"]) (fs := fCons (fC (.str "")) (fCons (fC (.str "k")) (fCons (fC (.str "zzzzzzz")) fNil))) (env := [some (DI.W.ref n), none, none, none, none]) (i := 0) h (by decide) (by decide) rfl rfl (c := 3) rfl
  have main : ∀ hd : Str, w = .str hd → (nmsC hd).all nmB = true → (nmsR hd).all nmB = true →
      (∀ s, fLc (fC (.str "abcd")) 4 fYes (fOp opAdd (fVar 1) (fVar 4)) [some (DI.W.ref n), some (.str hd), none, none, none] s = some (.ok (.ref s.length), s ++ [.lst (nmsC hd)])) →
      (∀ s k, fLc (fC (.str "rst")) 4 fYes (fOp opAdd (fVar 1) (fVar 4)) [some (DI.W.ref n), some (.str hd), some (.ref k), none, none] s = some (.ok (.ref s.length), s ++ [.lst (nmsR hd)])) →
      ∃ kc kr st', NmL st' kc ∧ NmL st' kr ∧ kc ≠ n ∧ kr ≠ n ∧ Fw n st st' ∧ d_law_names [.ref n] st = some (.ok (.tup [.ref kc, .ref kr]), st') := fun hd ew a1 a2 g1 g2 => by
    subst ew
    have n1 : n < s1.length := f1.ok.lt
    let s2 : Sto := s1 ++ [.lst (nmsC hd)]
    let s3 : Sto := s2 ++ [.lst (nmsR hd)]
    let s4 : Sto := s3 ++ [.lst ((nmsC hd).take 3)]
    let s5 : Sto := s4 ++ [.lst [.ref s2.length, .ref s3.length]]
    have ok5 : SOk n s5 := (((f1.ok.app _).app _).app _).app _
    obtain ⟨r, s6, hr, f6, e6⟩ := draw_ok (c := 4) ok5 (by decide) (by decide)
    have i1 : s5[s1.length]? = some (.lst (nmsC hd)) := by simp [s5, s4, s3, s2]
    have i2 : s5[s2.length]? = some (.lst (nmsR hd)) := by simp [s5, s4, s3]
    have i3 : s5[s3.length]? = some (.lst ((nmsC hd).take 3)) := by simp [s5, s4]
    have i4 : s5[s4.length]? = some (.lst [.ref s2.length, .ref s3.length]) := by simp [s5]
    have l2 : s2.length = s1.length + 1 := by simp [s2]
    have l3 : s3.length = s1.length + 2 := by simp [s3, s2]
    have l4 : s4.length = s1.length + 3 := by simp [s4, s3, s2]
    have ne : ∀ k, s1.length ≤ k → k ≠ n := fun k q => by omega
    have lc := List.all_eq_true.mp a1
    have lr := List.all_eq_true.mp a2
    have m1 : NmL s6 s1.length := ⟨_, f6.keep _ _ (ne _ (by omega)) i1, by simp [nmsC], by simp [nmsC], fun w hw => nm_of (lc w hw)⟩
    have m2 : NmL s6 s2.length := ⟨_, f6.keep _ _ (ne _ (by omega)) i2, by simp [nmsR], by simp [nmsR], fun w hw => nm_of (lr w hw)⟩
    have m3 : NmL s6 s3.length := ⟨_, f6.keep _ _ (ne _ (by omega)) i3, by simp [nmsC], by simp [nmsC], fun w hw => nm_of (lc w (List.mem_of_mem_take hw))⟩
    have fw : Fw n st s6 := f1.trans ((((Fw.app _ f1.ok).trans (Fw.app _ (f1.ok.app _))).trans (Fw.app _ ((f1.ok.app _).app _))).trans ((Fw.app _ (((f1.ok.app _).app _).app _)).trans f6))
    have j4 := f6.keep _ _ (ne _ (by omega)) i4
    let env : Evn := [some (DI.W.ref n), some (.str hd), some (.ref s1.length), some (.ref s2.length), none]
    have sl : fSl (fVar 2) fNoPart (fPart (fC (.int 3))) env s3 = some (.ok (.ref s3.length), s4) := by
      show (match s3[s1.length]? with | some (.lst ws) => some (R.ok (DI.W.ref s3.length), s3 ++ [Ob.lst (cutW ws none (some 3))]) | _ => none) = _
      have : s3[s1.length]? = some (.lst (nmsC hd)) := by simp [s3, s2]
      rw [this]; rfl
    have fl : ∀ b : Bool, opIx (.ref s4.length) (.int (if b then 1 else 0)) s6 = some (.ok (.ref (if b then s3.length else s2.length)), s6) := fun b => by
      cases b
      · exact ix_ref (j := 0) j4 rfl
      · exact ix_ref (j := 1) j4 rfl
    have fin : d_law_names [.ref n] st = some (.ok (.tup [.ref s1.length, .ref (if ((r : Int) == 0) then s3.length else s2.length)]), s6) := by
      refine f_rt (env1 := env) rfl (s_seq (s_set e1) (s_seq (s_set (g1 s1)) (s_seq (s_set (g2 s2 _)) (s_ret (e_tup (e_cons (e_var rfl) (e_cons (e_op (e_lst (e_cons (e_var rfl) (e_cons sl e_nil)) (by simp)) (e_cb (e_cons (e_op (e_cb (e_cons (e_var rfl) (e_cons rfl e_nil)) e6) rfl (eq_int _ _ _)) e_nil) rfl) (fl _)) e_nil)) (by simp))))))
    refine ⟨s1.length, _, s6, m1, ?_, ne _ (Nat.le_refl _), ?_, fw, fin⟩
    · cases ((r : Int) == 0)
      · exact m2
      · exact m3
    · cases ((r : Int) == 0)
      · exact ne _ (by simp only [Bool.false_eq_true, if_false]; omega)
      · exact ne _ (by simp only [if_true]; omega)
  simp only [List.mem_cons, List.not_mem_nil, or_false] at hw
  rcases hw with rfl | rfl | rfl
  · exact main "" rfl (by decide +kernel) (by decide +kernel) (fun s => by kernel_rfl) (fun s k => by kernel_rfl)
  · exact main "k" rfl (by decide +kernel) (by decide +kernel) (fun s => by kernel_rfl) (fun s k => by kernel_rfl)
  · exact main "zzzzzzz" rfl (by decide +kernel) (by decide +kernel) (fun s => by kernel_rfl) (fun s k => by kernel_rfl)
end K01

namespace K01
open PySem DI PySem.W PyProof.Rows
def pp (w : DI.W) : Prop := ∀ st, ∃ d, Pt 1 2 3000 st w d ∧ pureD d
def txt (t : Str) : Prop := PyData.strOk t = true ∧ t.length ≤ 100
theorem pp_str {t : Str} (h : txt t) : pp (.str t) := fun st => ⟨.str t, (pt_str 1 st h.1 h.2).weak (by decide) (by decide), rfl, rfl⟩
theorem pp_nm {w : DI.W} (h : nm w) : pp w := by
  obtain ⟨x, rfl, h1, h2⟩ := h
  exact pp_str ⟨h2, by omega⟩
theorem pp_pair {t : Str} {w : DI.W} (h : txt t) (hw : nm w) : pp (.tup [.str t, w]) := fun st => by
  obtain ⟨x, rfl, h1, h2⟩ := hw
  obtain ⟨ds, p, q⟩ := pt_tup (k := 0) (D := 0) (B := 1002) (st := st) (P := pureD) (ws := [.str t, .str x]) (by simp) (fun w hw => by
    simp only [List.mem_cons, List.not_mem_nil, or_false] at hw
    rcases hw with rfl | rfl
    · exact ⟨_, pt_str 0 st h.1 h.2, rfl, rfl⟩
    · exact ⟨_, pt_str 0 st h2 (by omega), rfl, rfl⟩)
  exact ⟨_, p.weak (by decide) (by simp), noD_all fun d hd => (q d hd).1, noL_all fun d hd => (q d hd).2⟩
structure VOk (v : DI.W) (t : Str) (r : List DI.W) : Prop where
  e : v = .tup (.str t :: r)
  n : 1 ≤ r.length ∧ r.length ≤ 2
  t : txt t
  p : ∀ w ∈ r, pp w
theorem txt_of {t : Str} {ss : List Str} (hs : ss.all (fun t => PyData.strOk t && decide (t.length ≤ 100)) = true) (h : t ∈ ss) : txt t := by
  have := List.all_eq_true.mp hs t h
  rw [Bool.and_eq_true] at this
  exact ⟨this.1, of_decide_eq_true this.2⟩
def CoOk (v : DI.W) : Prop := ∃ t w, v = .tup [.str t, w] ∧ txt t ∧ nm w
theorem concept_draw {n kc kr : Nat} {st : Sto} (h : SOk n st) (hc : NmL st kc) (hr : NmL st kr) (nc : kc ≠ n) (nr : kr ≠ n) : ∃ v st', CoOk v ∧ Fw n st st' ∧ d_law_concept [.ref n, .tup [.ref kc, .ref kr]] st = some (.ok v, st') := by
  obtain ⟨w, s1, hw, f1, e1⟩ := pick_ok (n := n) (st := st) (ws := [.str "concept", .str "concept", .str "out", .str "in"]) (fs := fCons (fC (.str "concept")) (fCons (fC (.str "concept")) (fCons (fC (.str "out")) (fCons (fC (.str "in")) fNil)))) (env := [some (DI.W.ref n), some (.tup [.ref kc, .ref kr]), none]) (i := 0) h (by decide) (by decide) rfl rfl (c := 4) rfl
  obtain ⟨t, rfl, ht⟩ : ∃ t : Str, w = .str t ∧ t ∈ (["concept", "out", "in"] : List Str) := by
    simp only [List.mem_cons, List.not_mem_nil, or_false] at hw
    rcases hw with rfl | rfl | rfl | rfl
    · exact ⟨_, rfl, by simp⟩
    · exact ⟨_, rfl, by simp⟩
    · exact ⟨_, rfl, by simp⟩
    · exact ⟨_, rfl, by simp⟩
  have tx : txt t := txt_of (ss := ["concept", "out", "in"]) (by decide +kernel) ht
  have pick : ∀ b : Bool, opIx (.tup [.ref kc, .ref kr]) (.int (if b then 1 else 0)) s1 = some (.ok (.ref (if b then kr else kc)), s1) := fun b => by cases b <;> rfl
  have ix : fOp opIx (fVar 1) (fCB opInt (fCons (fOp opNeD (fVar 2) (fC (.str "concept"))) fNil)) [some (DI.W.ref n), some (.tup [.ref kc, .ref kr]), some (.str t)] s1 = some (.ok (.ref (if !(t == "concept") then kr else kc)), s1) :=
    e_op (e_var rfl) (e_cb (e_cons (e_op (e_var rfl) rfl (ne_str _ _ _)) e_nil) rfl) (pick _)
  have hk : NmL s1 (if !(t == "concept") then kr else kc) := by cases (!(t == "concept")); exact hc.fw f1 nc; exact hr.fw f1 nr
  have hn : (if !(t == "concept") then kr else kc) ≠ n := by cases (!(t == "concept")); exact nc; exact nr
  obtain ⟨w, s2, hw2, f2, e2⟩ := nm_choose f1.ok hk hn
  exact ⟨_, s2, ⟨t, w, rfl, tx, hw2⟩, f1.trans f2, f_rt (env1 := [some (DI.W.ref n), some (.tup [.ref kc, .ref kr]), some (.str t)]) rfl (s_seq (s_set e1) (s_ret (e_tup (e_cons (e_var rfl) (e_cons (e_cb (e_cons (e_var rfl) (e_cons ix e_nil)) e2) e_nil)) (by simp))))⟩
def menu : List Str := ["subclass", "disjoint", "subrole", "subrole_inverse", "disjoint_roles", "disjoint_inverse", "functional"]
theorem co_pp {v : DI.W} (h : CoOk v) : pp v := by
  obtain ⟨t, w, rfl, a, b⟩ := h
  exact pp_pair a b
theorem axiom_draw {n kc kr km : Nat} {st : Sto} (h : SOk n st) (hc : NmL st kc) (hr : NmL st kr) (nc : kc ≠ n) (nr : kr ≠ n) (hm : st[km]? = some (.lst (menu.map .str))) (nmn : km ≠ n) :
    ∃ v t r st', VOk v t r ∧ Fw n st st' ∧ d_law_axiom [.ref n, .tup [.ref kc, .ref kr], .ref km] st = some (.ok v, st') := by
  obtain ⟨w, s1, hw, f1, e1⟩ := choose_ok h hm nmn (by decide) (by decide)
  obtain ⟨t, ht, rfl⟩ := List.mem_map.mp hw
  have tx : txt t := txt_of (ss := menu) (by decide +kernel) ht
  let env : Evn := [some (DI.W.ref n), some (.tup [.ref kc, .ref kr]), some (.ref km), some (.str t)]
  have x1 : fSet 3 (fCB d_law_choose (fCons (fVar 0) (fCons (fVar 2) fNil))) [some (DI.W.ref n), some (.tup [.ref kc, .ref kr]), some (.ref km), none] st = some (.nx, env, s1) := s_set (e_cb (e_cons (e_var rfl) (e_cons (e_var rfl) e_nil)) e1)
  have tt : ∀ (u : Str) (s : Sto), fTest (fOp opEqD (fVar 3) (fC (.str u))) env s = some (.ok (t == u), s) := fun u s => t_test (e_op (e_var rfl) rfl (eq_str _ _ _))
  have hc1 := hc.fw f1 nc
  have hr1 := hr.fw f1 nr
  have ixr : ∀ s, fOp opIx (fVar 1) (fC (.int 1)) env s = some (.ok (.ref kr), s) := fun s => e_op (e_var rfl) rfl (ix_tup (j := 1) s rfl)
  have t1 : fOrT (fTest (fOp opEqD (fVar 3) (fC (.str "subclass")))) (fTest (fOp opEqD (fVar 3) (fC (.str "disjoint")))) env s1 = some (.ok ((t == "subclass") || (t == "disjoint")), s1) := by
    cases q : (t == ("subclass" : Str)) with
    | true => have := tt "subclass" s1; rw [q] at this; exact t_orT this
    | false => have := tt "subclass" s1; rw [q] at this; exact t_orF this (tt "disjoint" s1)
  cases hb : ((t == ("subclass" : Str)) || (t == ("disjoint" : Str))) with
  | true =>
    rw [hb] at t1
    obtain ⟨a, s2, ha, f2, e2⟩ := concept_draw f1.ok hc1 hr1 nc nr
    obtain ⟨b, s3, hbb, f3, e3⟩ := concept_draw f2.ok (hc1.fw f2 nc) (hr1.fw f2 nr) nc nr
    exact ⟨_, t, [a, b], s3, ⟨rfl, by simp, tx, fun w hw => by
      simp only [List.mem_cons, List.not_mem_nil, or_false] at hw
      rcases hw with rfl | rfl
      · exact co_pp ha
      · exact co_pp hbb⟩, (f1.trans f2).trans f3, f_rt (env1 := env) rfl (s_seq x1 (s_rt (s_ifT t1 (s_ret (e_tup (e_cons (e_var rfl) (e_cons (e_cb (e_cons (e_var rfl) (e_cons (e_var rfl) e_nil)) e2) (e_cons (e_cb (e_cons (e_var rfl) (e_cons (e_var rfl) e_nil)) e3) e_nil))) (by simp))))))⟩
  | false =>
    rw [hb] at t1
    have t2 := tt "functional" s1
    cases hf : (t == ("functional" : Str)) with
    | true =>
      rw [hf] at t2
      obtain ⟨w, s2, hw2, f2, e2⟩ := pick_ok (n := n) (st := s1) (ws := [.str "out", .str "in"]) (fs := fCons (fC (.str "out")) (fCons (fC (.str "in")) fNil)) (env := env) (i := 0) f1.ok (by decide) (by decide) rfl rfl (c := 2) rfl
      obtain ⟨u, rfl, hu⟩ : ∃ u : Str, w = .str u ∧ u ∈ (["out", "in"] : List Str) := by
        simp only [List.mem_cons, List.not_mem_nil, or_false] at hw2
        rcases hw2 with rfl | rfl
        · exact ⟨_, rfl, by simp⟩
        · exact ⟨_, rfl, by simp⟩
      have ux : txt u := txt_of (ss := ["out", "in"]) (by decide +kernel) hu
      obtain ⟨x, s3, hx, f3, e3⟩ := nm_choose f2.ok (hr1.fw f2 nr) nr
      exact ⟨_, t, [.tup [.str u, x]], s3, ⟨rfl, by simp, tx, fun w hw => by
        simp only [List.mem_cons, List.not_mem_nil, or_false] at hw
        subst hw
        exact pp_pair ux hx⟩, (f1.trans f2).trans f3, f_rt (env1 := env) rfl (s_seq x1 (s_seq (s_ifF t1 rfl) (s_rt (s_ifT t2 (s_ret (e_tup (e_cons (e_var rfl) (e_cons (e_tup (e_cons e2 (e_cons (e_cb (e_cons (e_var rfl) (e_cons (ixr s2) e_nil)) e3) e_nil)) (by simp)) e_nil)) (by simp)))))))⟩
    | false =>
      rw [hf] at t2
      obtain ⟨a, s2, ha, f2, e2⟩ := nm_choose f1.ok hr1 nr
      obtain ⟨b, s3, hbb, f3, e3⟩ := nm_choose f2.ok (hr1.fw f2 nr) nr
      exact ⟨_, t, [a, b], s3, ⟨rfl, by simp, tx, fun w hw => by
        simp only [List.mem_cons, List.not_mem_nil, or_false] at hw
        rcases hw with rfl | rfl
        · exact pp_nm ha
        · exact pp_nm hbb⟩, (f1.trans f2).trans f3, f_rt (env1 := env) rfl (s_seq x1 (s_seq (s_ifF t1 rfl) (s_seq (s_ifF t2 rfl) (s_ret (e_tup (e_cons (e_var rfl) (e_cons (e_cb (e_cons (e_var rfl) (e_cons (ixr s1) e_nil)) e2) (e_cons (e_cb (e_cons (e_var rfl) (e_cons (ixr s2) e_nil)) e3) e_nil))) (by simp))))))⟩
theorem VOk.parts {v : DI.W} {t : Str} {r : List DI.W} (h : VOk v t r) : ∀ w ∈ (DI.W.str t :: r), pp w := fun w hw => by
  rcases List.mem_cons.mp hw with rfl | hw
  · exact pp_str h.t
  · exact h.p w hw
theorem VOk.okC {v : DI.W} {t : Str} {r : List DI.W} (h : VOk v t r) (st : Sto) : K01.okC st v = true := by
  rw [h.e]
  have hn := h.n
  obtain ⟨ds, p, q⟩ := pt_tup (k := 1) (D := 2) (B := 3000) (st := st) (P := pureD) (ws := .str t :: r) (by simp; omega) (fun w hw => h.parts w hw st)
  refine (p.weak (Nat.le_refl _) (Nat.le_refl _)).okC (k := 0) (by decide) ?_ (.inl (noD_all fun d hd => (q d hd).1))
  simp only [List.length_cons]; omega
end K01

namespace K01
open PySem DI PySem.W PyProof.Rows
/-! ### odd values -/
def oddA (a b c : Nat) : List DI.W := [.non, .bl true, .int 1, .str "", .str "a b", .str "A", .str "abcdefghi", .tup [], .ref a, .ref b, .ref c, .tup [.str "concept"], .tup [.str "out", .int 1], .tup [.str "in", .str ""]]
def oddB : List DI.W := [.str "subclass", .str "functional", .str "out", .tup [.str "out", .str "r"], .tup [.str "concept", .str "a"], .tup [.str "concept", .tup [.str "concept", .str "a"]]]
structure OddSt (st : Sto) (a b c : Nat) : Prop where
  a : st[a]? = some (.lst [])
  b : st[b]? = some .emp
  c : st[c]? = some (.lst [.str "out", .str "r"])
/-- a value written out: everything about it is computed -/
def litB (w : DI.W) (d : PyData) : Bool := vok 1 [] w && (d.showable && (decide (d.depth ≤ 2) && (txtOk d && (decide (bdD d ≤ 3000) && (!d.hasDict && !hasL d)))))
def lit : DI.W → Bool
  | .non | .bl _ | .int _ | .str _ => true
  | .tup ws => ws.all fun w => match w with
    | .non | .bl _ | .int _ | .str _ => true
    | .tup us => us.all fun u => match u with | .non | .bl _ | .int _ | .str _ => true | _ => false
    | _ => false
  | _ => false
theorem pt_lit {w : DI.W} {d : PyData} (h : litB w d = true) (ht : ∀ st m, 2 < m → toD st m w = some d) (st : Sto) : Pt 1 2 3000 st w d ∧ pureD d := by
  unfold litB at h
  simp only [Bool.and_eq_true, Bool.not_eq_true'] at h
  obtain ⟨h1, h2, h3, h4, h5, h6, h7⟩ := h
  exact ⟨⟨by have := vok_mono st h1; simpa using this, fun m hm => ht st m hm, h2, of_decide_eq_true h3, h4, of_decide_eq_true h5⟩, h6, h7⟩
theorem three {m : Nat} (h : 2 < m) : ∃ k, m = k + 3 := ⟨m - 3, by omega⟩
theorem odd_pt {st : Sto} {a b c : Nat} (o : OddSt st a b c) {w : DI.W} (hw : w ∈ oddA a b c ++ oddB) : ∃ d, Pt 1 2 3000 st w d ∧ flag d := by
  have go : ∀ {w : DI.W} {d : PyData}, litB w d = true → (∀ st m, toD st (m + 3) w = some d) → ∃ d, Pt 1 2 3000 st w d ∧ flag d := fun {w d} h1 h2 => by
    obtain ⟨p, q⟩ := pt_lit h1 (fun s m hm => by obtain ⟨k, rfl⟩ := three hm; exact h2 s k) st
    exact ⟨d, p, .inl q.1⟩
  simp only [oddA, oddB, List.cons_append, List.nil_append, List.mem_cons, List.not_mem_nil, or_false] at hw
  rcases hw with rfl | rfl | rfl | rfl | rfl | rfl | rfl | rfl | rfl | rfl | rfl | rfl | rfl | rfl | rfl | rfl | rfl | rfl | rfl | rfl
  · exact go (d := .none) (by decide +kernel) fun _ _ => rfl
  · exact go (d := .bool true) (by decide +kernel) fun _ _ => rfl
  · exact go (d := .int 1) (by decide +kernel) fun _ _ => rfl
  · exact go (d := .str "") (by decide +kernel) fun _ _ => rfl
  · exact go (d := .str "a b") (by decide +kernel) fun _ _ => rfl
  · exact go (d := .str "A") (by decide +kernel) fun _ _ => rfl
  · exact go (d := .str "abcdefghi") (by decide +kernel) fun _ _ => rfl
  · exact go (d := .tuple []) (by decide +kernel) fun _ _ => rfl
  · obtain ⟨ds, p, q⟩ := pt_lst (k := 0) (D := 0) (B := 0) (P := fun d => d.hasDict = false) o.a (fun w hw => nomatch hw)
    exact ⟨_, (p.weak (by decide) (by simp)).down, .inl (noD_all q)⟩
  · refine ⟨.dict [], ⟨?_, fun m hm => ?_, rfl, by decide, rfl, by decide⟩, .inr rfl⟩
    · have e : tyW (.ref b) st = some "dict" := by
        show (match st[b]? with | some (.lst _) => some "list" | some .emp => some "dict" | none => none) = _
        rw [o.b]
      unfold vok; rw [e]; rfl
    · obtain ⟨k, rfl⟩ := three hm
      show (match st[b]? with | some (.lst ws) => (allD (toD st (k + 2)) ws).map PyData.list | some .emp => some (.dict []) | none => none) = _
      rw [o.b]
  · obtain ⟨ds, p, q⟩ := pt_lst (k := 0) (D := 0) (B := 1002) (P := fun d => d.hasDict = false) o.c (fun w hw => by
      simp only [List.mem_cons, List.not_mem_nil, or_false] at hw
      rcases hw with rfl | rfl
      · exact ⟨_, pt_str 0 st (by decide +kernel) (by decide +kernel), rfl⟩
      · exact ⟨_, pt_str 0 st (by decide +kernel) (by decide +kernel), rfl⟩)
    exact ⟨_, (p.weak (by decide) (by simp)).down, .inl (noD_all q)⟩
  · exact go (d := .tuple [.str "concept"]) (by decide +kernel) fun _ _ => rfl
  · exact go (d := .tuple [.str "out", .int 1]) (by decide +kernel) fun _ _ => rfl
  · exact go (d := .tuple [.str "in", .str ""]) (by decide +kernel) fun _ _ => rfl
  · exact go (d := .str "subclass") (by decide +kernel) fun _ _ => rfl
  · exact go (d := .str "functional") (by decide +kernel) fun _ _ => rfl
  · exact go (d := .str "out") (by decide +kernel) fun _ _ => rfl
  · exact go (d := .tuple [.str "out", .str "r"]) (by decide +kernel) fun _ _ => rfl
  · exact go (d := .tuple [.str "concept", .str "a"]) (by decide +kernel) fun _ _ => rfl
  · exact go (d := .tuple [.str "concept", .tuple [.str "concept", .str "a"]]) (by decide +kernel) fun _ _ => rfl
/-! ### mutated -/
theorem add_ref {st : Sto} {a b : Nat} {xs ys : List DI.W} (h1 : st[a]? = some (.lst xs)) (h2 : st[b]? = some (.lst ys)) (hz : (xs ++ ys).length ≤ 1000000) : opAdd (.ref a) (.ref b) st = some (.ok (.ref st.length), st ++ [.lst (xs ++ ys)]) := by
  show (match st[a]?, st[b]? with | some (.lst xs), some (.lst ys) => newL (xs ++ ys) st | _, _ => none) = _
  rw [h1, h2]
  show newL (xs ++ ys) st = _
  unfold newL
  have z : szW (xs ++ ys).length = true := decide_eq_true hz
  rw [if_pos z]
theorem add_tup {st : Sto} {xs ys : List DI.W} (hz : xs.length + ys.length ≤ 1000000) : opAdd (.tup xs) (.tup ys) st = some (.ok (.tup (xs ++ ys)), st) := by
  show (if szW (xs.length + ys.length) then DI.ret (DI.W.tup (xs ++ ys)) st else none) = _
  have z : szW (xs.length + ys.length) = true := decide_eq_true hz
  rw [if_pos z]; rfl
theorem cut_to (ws : List DI.W) {p : Nat} (h : p ≤ ws.length) : cutW ws none (some (p : Int)) = ws.take p := by
  unfold cutW
  rw [HT.sIx_nat, HT.sIx_none]
  have : min p ws.length - 0 = p := by omega
  rw [this, List.drop_zero]
theorem cut_from (ws : List DI.W) {p : Nat} (h : p ≤ ws.length) : cutW ws (some (p : Int)) none = ws.drop p := by
  unfold cutW
  rw [HT.sIx_nat, HT.sIx_none]
  have : min p ws.length = p := by omega
  rw [this]
  exact List.take_of_length_le (by simp)
theorem sl_tup {fa : FE} {fl fh : FO} {env : Evn} {st : Sto} {ws : List DI.W} {lo hi : Option Int} (ha : fa env st = some (.ok (.tup ws), st)) (hl : fl env st = some (.ok lo, st)) (hh : fh env st = some (.ok hi, st)) : fSl fa fl fh env st = some (.ok (.tup (cutW ws lo hi)), st) := by
  unfold fSl; rw [ha]; show bnd (fl env st) _ = _; rw [hl]; show bnd (fh env st) _ = _; rw [hh]; rfl
theorem e_part {fa : FE} {env : Evn} {st : Sto} {i : Int} (ha : fa env st = some (.ok (.int i), st)) : fPart fa env st = some (.ok (some i), st) := by
  unfold fPart; rw [ha]; rfl
/-- a tuple of parts, at most one of them odd -/
theorem mixed {D B : Nat} {st : Sto} {us : List DI.W} {w0 : DI.W} {d0 : PyData} (hD : 2 ≤ D) (hB : 3000 ≤ B) (hz : us.length ≤ 5) (p0 : Pt 1 D B st w0 d0) (f0 : flag d0) (h : ∀ w ∈ us, w = w0 ∨ pp w) : ∃ d, Pt 2 (D + 1) (5 * (B + 2) + 4) st (.tup us) d ∧ flag d := by
  have wk : ∀ w, pp w → ∃ d, Pt 1 D B st w d ∧ pureD d := fun w q => let ⟨d, p, r⟩ := q st; ⟨d, p.weak hD hB, r⟩
  have lim : us.length * (B + 2) + 4 ≤ 5 * (B + 2) + 4 := Nat.add_le_add_right (Nat.mul_le_mul_right _ hz) 4
  rcases f0 with f0 | f0
  · obtain ⟨ds, p, q⟩ := pt_tup (k := 1) (D := D) (B := B) (st := st) (P := fun d => d.hasDict = false) (ws := us) (by omega) (fun w hw => by
      rcases h w hw with rfl | h
      · exact ⟨_, p0, f0⟩
      · obtain ⟨d, a, b⟩ := wk w h; exact ⟨d, a, b.1⟩)
    exact ⟨_, p.weak (Nat.le_refl _) lim, .inl (noD_all q)⟩
  · obtain ⟨ds, p, q⟩ := pt_tup (k := 1) (D := D) (B := B) (st := st) (P := fun d => hasL d = false) (ws := us) (by omega) (fun w hw => by
      rcases h w hw with rfl | h
      · exact ⟨_, p0, f0⟩
      · obtain ⟨d, a, b⟩ := wk w h; exact ⟨d, a, b.2⟩)
    exact ⟨_, p.weak (Nat.le_refl _) lim, .inr (noL_all q)⟩
theorem mutated_ok {n : Nat} {st : Sto} {v : DI.W} {t : Str} {r : List DI.W} (h : SOk n st) (hv : VOk v t r) : ∃ v' d st', Fw n st st' ∧ Pt 2 3 16000 st' v' d ∧ flag d ∧ d_law_mutated [.ref n, v] st = some (.ok v', st') := by
  let s1 : Sto := st ++ [.lst []]
  let s2 : Sto := s1 ++ [.emp]
  let s3 : Sto := s2 ++ [.lst [.str "out", .str "r"]]
  let s4 : Sto := s3 ++ [.lst (oddA st.length s1.length s2.length)]
  let s5 : Sto := s4 ++ [.lst oddB]
  let s6 : Sto := s5 ++ [.lst (oddA st.length s1.length s2.length ++ oddB)]
  have l1 : s1.length = st.length + 1 := by simp [s1]
  have l2 : s2.length = st.length + 2 := by simp [s2, s1]
  have l3 : s3.length = st.length + 3 := by simp [s3, s2, s1]
  have l4 : s4.length = st.length + 4 := by simp [s4, s3, s2, s1]
  have l5 : s5.length = st.length + 5 := by simp [s5, s4, s3, s2, s1]
  have hn := h.lt
  have ne : ∀ k, st.length ≤ k → k ≠ n := fun k q => by omega
  have ok6 : SOk n s6 := (((((h.app _).app _).app _).app _).app _).app _
  have fw6 : Fw n st s6 := by
    have e : s6 = st ++ ([Ob.lst []] ++ [.emp] ++ [.lst [.str "out", .str "r"]] ++ [.lst (oddA st.length s1.length s2.length)] ++ [.lst oddB] ++ [.lst (oddA st.length s1.length s2.length ++ oddB)]) := by simp [s6, s5, s4, s3, s2, s1]
    rw [e]; exact Fw.app _ h
  have o6 : OddSt s6 st.length s1.length s2.length := by
    refine ⟨?_, ?_, ?_⟩
    · simp [s6, s5, s4, s3, s2, s1]
    · simp [s6, s5, s4, s3, s2]
    · simp [s6, s5, s4, s3]
  have i5 : s6[s5.length]? = some (.lst (oddA st.length s1.length s2.length ++ oddB)) := by simp [s6]
  have x1 : fSet 2 (fLst (fCons (fC .non) (fCons (fC (.bl true)) (fCons (fC (.int 1)) (fCons (fC (.str "")) (fCons (fC (.str "a b")) (fCons (fC (.str "A")) (fCons (fC (.str "abcdefghi")) (fCons (fTup fNil) (fCons (fLst fNil) (fCons fEmp (fCons (fLst (fCons (fC (.str "out")) (fCons (fC (.str "r")) fNil))) (fCons (fTup (fCons (fC (.str "concept")) fNil)) (fCons (fTup (fCons (fC (.str "out")) (fCons (fC (.int 1)) fNil))) (fCons (fTup (fCons (fC (.str "in")) (fCons (fC (.str "")) fNil))) fNil))))))))))))))) [some (.ref n), some v, none, none, none] st = some (.nx, [some (.ref n), some v, some (.ref s3.length), none, none], s4) := by kernel_rfl
  have x2 : fSet 2 (fOp opAdd (fVar 2) (fLst (fCons (fC (.str "subclass")) (fCons (fC (.str "functional")) (fCons (fC (.str "out")) (fCons (fTup (fCons (fC (.str "out")) (fCons (fC (.str "r")) fNil))) (fCons (fTup (fCons (fC (.str "concept")) (fCons (fC (.str "a")) fNil))) (fCons (fTup (fCons (fC (.str "concept")) (fCons (fTup (fCons (fC (.str "concept")) (fCons (fC (.str "a")) fNil))) fNil))) fNil)))))))) [some (.ref n), some v, some (.ref s3.length), none, none] s4 = some (.nx, [some (.ref n), some v, some (.ref s5.length), none, none], s6) := by
    refine s_set (e_op (e_var rfl) (s2 := s5) (b := .ref s4.length) (by kernel_rfl) (add_ref ?_ ?_ (by simp [oddA, oddB])))
    · simp [s5, s4]
    · simp [s5]
  have hve := hv.e
  subst hve
  have hr := hv.n
  obtain ⟨p, s7, hp, f7, e7⟩ := draw_ok (n := n) (st := s6) (c := (((.str t :: r : List DI.W).length : Nat) : Int)) ok6 (by simp only [List.length_cons]; omega) (by simp only [List.length_cons]; omega)
  obtain ⟨c, s8, hc, f8, e8⟩ := draw_ok (n := n) (st := s7) (c := 6) f7.ok (by decide) (by decide)
  have hp' : p < (.str t :: r : List DI.W).length := by omega
  let env : Evn := [some (.ref n), some (.tup (.str t :: r)), some (.ref s5.length), some (.int p), some (.int c)]
  have f68 := f7.trans f8
  have keep8 : OddSt s8 st.length s1.length s2.length := ⟨f68.keep _ _ (ne _ (by omega)) o6.a, f68.keep _ _ (ne _ (by omega)) o6.b, f68.keep _ _ (ne _ (by omega)) o6.c⟩
  have i8 := f68.keep _ _ (ne s5.length (by omega)) i5
  have fw8 : Fw n st s8 := fw6.trans f68
  have x3 : fSet 3 (fCB d_law_draw (fCons (fVar 0) (fCons (fCB opLen (fCons (fVar 1) fNil)) fNil))) [some (.ref n), some (.tup (.str t :: r)), some (.ref s5.length), none, none] s6 = some (.nx, [some (.ref n), some (.tup (.str t :: r)), some (.ref s5.length), some (.int p), none], s7) := s_set (e_cb (e_cons (e_var rfl) (e_cons (e_cb (e_cons (e_var rfl) e_nil) rfl) e_nil)) e7)
  have x4 : fSet 4 (fCB d_law_draw (fCons (fVar 0) (fCons (fC (.int 6)) fNil))) [some (.ref n), some (.tup (.str t :: r)), some (.ref s5.length), some (.int p), none] s7 = some (.nx, env, s8) := s_set (e_cb (e_cons (e_var rfl) (e_cons rfl e_nil)) e8)
  have tc : ∀ i : Int, fTest (fOp opEqD (fVar 4) (fC (.int i))) env s8 = some (.ok ((c : Int) == i), s8) := fun i => t_test (e_op (e_var rfl) rfl (eq_int _ _ _))
  have hpp := hv.parts
  have to' : ∀ s, fSl (fVar 1) fNoPart (fPart (fVar 3)) env s = some (.ok (.tup ((.str t :: r : List DI.W).take p)), s) := fun s => by
    rw [← cut_to _ (Nat.le_of_lt hp')]
    exact sl_tup (e_var rfl) rfl (e_part (e_var rfl))
  have from' : ∀ s, fSl (fVar 1) (fPart (fOp opAdd (fVar 3) (fC (.int 1)))) fNoPart env s = some (.ok (.tup ((.str t :: r : List DI.W).drop (p + 1))), s) := fun s => by
    rw [← cut_from _ (show p + 1 ≤ _ from hp')]
    exact sl_tup (e_var rfl) (e_part (e_op (e_var rfl) rfl rfl)) rfl
  have none_pt : Pt 1 2 3000 s8 .non .none := (pt_lit (w := .non) (d := .none) (by decide +kernel) (fun s m hm => by obtain ⟨k, rfl⟩ := three hm; rfl) s8).1
  have lt3 : (.str t :: r : List DI.W).length ≤ 3 := by simp; omega
  cases c0 : ((c : Int) == 0) with
  | true =>
    have q := tc 0; rw [c0] at q
    let s9 : Sto := s8 ++ [.lst (.str t :: r)]
    have i9 : s9[s8.length]? = some (.lst (.str t :: r)) := by simp [s9]
    obtain ⟨ds, pt, pq⟩ := pt_lst (k := 1) (D := 2) (B := 3000) (P := pureD) i9 (fun w hw => hpp w hw s9)
    refine ⟨.ref s8.length, .list ds, s9, fw8.trans (Fw.app _ fw8.ok), pt.weak (by decide) ?_, .inl (noD_all fun d hd => (pq d hd).1), f_rt (env1 := env) rfl (s_seq x1 (s_seq x2 (s_seq x3 (s_seq x4 (s_rt (s_ifT q (s_ret (e_cb (e_cons (e_var rfl) e_nil) rfl))))))))⟩
    have : (.str t :: r : List DI.W).length * (3000 + 2) ≤ 3 * (3000 + 2) := Nat.mul_le_mul_right _ lt3
    omega
  | false =>
    have q0 := tc 0; rw [c0] at q0
    cases c1 : ((c : Int) == 1) with
    | true =>
      have q := tc 1; rw [c1] at q
      obtain ⟨d, pt, fl⟩ := mixed (D := 2) (B := 3000) (st := s8) (us := (.str t :: r : List DI.W).take p ++ (.str t :: r : List DI.W).drop (p + 1)) (Nat.le_refl _) (Nat.le_refl _) (by simp; omega) none_pt (.inl rfl) (fun w hw => by
        rcases List.mem_append.mp hw with hw | hw
        · exact .inr (hpp w (List.mem_of_mem_take hw))
        · exact .inr (hpp w (List.mem_of_mem_drop hw)))
      refine ⟨_, d, s8, fw8, pt.weak (Nat.le_refl _) (by decide), fl, f_rt (env1 := env) rfl (s_seq x1 (s_seq x2 (s_seq x3 (s_seq x4 (s_seq (s_ifF q0 rfl) (s_rt (s_ifT q (s_ret (e_op (to' s8) (from' s8) (add_tup ?_)))))))))) ⟩
      simp; omega
    | false =>
      have q1 := tc 1; rw [c1] at q1
      obtain ⟨w0, s9, hw0, f9, e9⟩ := choose_ok (n := n) (k := s5.length) (st := s8) f8.ok i8 (ne _ (by omega)) (by simp [oddA, oddB]) (by simp [oddA, oddB])
      have keep9 : OddSt s9 st.length s1.length s2.length := ⟨f9.keep _ _ (ne _ (by omega)) keep8.a, f9.keep _ _ (ne _ (by omega)) keep8.b, f9.keep _ _ (ne _ (by omega)) keep8.c⟩
      obtain ⟨d0, p0, fl0⟩ := odd_pt keep9 hw0
      have ch : fTup (fCons (fCB d_law_choose (fCons (fVar 0) (fCons (fVar 2) fNil))) fNil) env s8 = some (.ok (.tup [w0]), s9) := e_tup (e_cons (e_cb (e_cons (e_var rfl) (e_cons (e_var rfl) e_nil)) e9) e_nil) (by simp)
      cases c2 : ((c : Int) == 2) with
      | true =>
        have q := tc 2; rw [c2] at q
        obtain ⟨d, pt, fl⟩ := mixed (D := 2) (B := 3000) (st := s9) (us := (.str t :: r : List DI.W) ++ [w0]) (Nat.le_refl _) (Nat.le_refl _) (by simp; omega) p0 fl0 (fun w hw => by
          rcases List.mem_append.mp hw with hw | hw
          · exact .inr (hpp w hw)
          · exact .inl (List.mem_singleton.mp hw))
        refine ⟨_, d, s9, fw8.trans f9, pt.weak (Nat.le_refl _) (by decide), fl, f_rt (env1 := env) rfl (s_seq x1 (s_seq x2 (s_seq x3 (s_seq x4 (s_seq (s_ifF q0 rfl) (s_seq (s_ifF q1 rfl) (s_rt (s_ifT q (s_ret (e_op (e_var rfl) ch (add_tup ?_)))))))))))⟩
        simp; omega
      | false =>
        have q2 := tc 2; rw [c2] at q2
        obtain ⟨d, pt, fl⟩ := mixed (D := 2) (B := 3000) (st := s9) (us := (.str t :: r : List DI.W).take p ++ [w0] ++ (.str t :: r : List DI.W).drop (p + 1)) (Nat.le_refl _) (Nat.le_refl _) (by simp; omega) p0 fl0 (fun w hw => by
          rcases List.mem_append.mp hw with hw | hw
          · rcases List.mem_append.mp hw with hw | hw
            · exact .inr (hpp w (List.mem_of_mem_take hw))
            · exact .inl (List.mem_singleton.mp hw)
          · exact .inr (hpp w (List.mem_of_mem_drop hw)))
        refine ⟨_, d, s9, fw8.trans f9, pt.weak (Nat.le_refl _) (by decide), fl, f_rt (env1 := env) rfl (s_seq x1 (s_seq x2 (s_seq x3 (s_seq x4 (s_seq (s_ifF q0 rfl) (s_seq (s_ifF q1 rfl) (s_seq (s_ifF q2 rfl) (s_ret (e_op (e_op (to' s8) ch (add_tup ?_)) (from' s9) (add_tup ?_)))))))))) ⟩
        · simp; omega
        · simp; omega
end K01

namespace K01
open PySem DI PySem.W PyProof.Rows
/-! ### loops -/
theorem loop_rng {j n : Nat} {body : FS} {lo : Int} (P : Nat → Evn → Sto → Prop) (h : ∀ i env st, i < n → P i env st → ∃ env1 st1, body (env.set j (some (.int (lo + i)))) st = some (.nx, env1, st1) ∧ P (i + 1) env1 st1) :
    ∀ m i env st, m = n - i → i ≤ n → P i env st → ∃ env' st', loop (gRng lo n) j body (m + 1) i env st = some (.nx, env', st') ∧ P n env' st'
  | m, i, env, st, hm, hi, p => by
    unfold loop
    by_cases hl : i < n
    · obtain ⟨m', rfl⟩ : ∃ m', m = m' + 1 := ⟨m - 1, by omega⟩
      obtain ⟨env1, st1, e, p1⟩ := h i env st hl p
      have g : gRng lo n st i = some (some (.int (lo + i))) := by unfold gRng; rw [if_pos hl]
      rw [g]; simp only; rw [e]; simp only
      exact loop_rng P h m' (i + 1) env1 st1 (by omega) hl p1
    · have g : gRng lo n st i = some none := by unfold gRng; rw [if_neg hl]
      have e : i = n := by omega
      rw [g]; subst e
      exact ⟨env, st, rfl, p⟩
  termination_by m => m
theorem loop_lst {k j : Nat} {body : FS} {ws : List DI.W} (P : Nat → Evn → Sto → Prop) (hk : ∀ i env st, P i env st → st[k]? = some (.lst ws))
    (h : ∀ i w env st, ws[i]? = some w → P i env st → ∃ env1 st1, body (env.set j (some w)) st = some (.nx, env1, st1) ∧ P (i + 1) env1 st1) :
    ∀ m i env st, m = ws.length - i → i ≤ ws.length → P i env st → ∃ env' st', loop (gOf (.ref k)) j body (m + 1) i env st = some (.nx, env', st') ∧ P ws.length env' st'
  | m, i, env, st, hm, hi, p => by
    unfold loop
    have g : gOf (.ref k) st i = some ws[i]? := by
      show (match st[k]? with | some (.lst ws) => some ws[i]? | _ => none) = _
      rw [hk i env st p]
    rw [g]
    by_cases hl : i < ws.length
    · obtain ⟨m', rfl⟩ : ∃ m', m = m' + 1 := ⟨m - 1, by omega⟩
      have gi : ws[i]? = some ws[i] := by simp [hl]
      obtain ⟨env1, st1, e, p1⟩ := h i ws[i] env st gi p
      rw [gi]; simp only; rw [e]; simp only
      exact loop_lst P hk h m' (i + 1) env1 st1 (by omega) hl p1
    · have gi : ws[i]? = none := by simp; omega
      have e : i = ws.length := by omega
      rw [gi]; subst e
      exact ⟨env, st, rfl, p⟩
  termination_by m => m
/-! ### the fixed values -/
def fixB : Bool := match d_law_fixed [] [] with
  | some (.ok (.ref m), s) => (match s[m]? with
    | some (.lst ws) => decide (ws.length ≤ 100) && ws.all (okC s)
    | _ => false)
  | _ => false
theorem fix_ok : ∃ m s ws, d_law_fixed [] [] = some (.ok (.ref m), s) ∧ s[m]? = some (.lst ws) ∧ ws.length ≤ 100 ∧ ∀ w ∈ ws, okC s w = true := by
  have h : fixB = true := by decide +kernel
  unfold fixB at h
  split at h
  · rename_i m s e
    split at h
    · rename_i ws hw
      rw [Bool.and_eq_true] at h
      exact ⟨m, s, ws, e, hw, of_decide_eq_true h.1, fun w hw => List.all_eq_true.mp h.2 w hw⟩
    · cases h
  · cases h
theorem app_get {s : Sto} {m : Nat} {o : Ob} (l : Sto) (h : s[m]? = some o) : (s ++ l)[m]? = some o := by
  rw [List.getElem?_append_left (List.getElem?_eq_some_iff.mp h).1]; exact h
theorem lc_none {env : Evn} {s : Sto} {m j : Nat} {ws : List DI.W} (hj : j < env.length) (hm : s[m]? = some (.lst ws)) (hw : ∀ w ∈ ws, okC s w = true) :
    ∀ k i l, k = ws.length - i → i ≤ ws.length → ∃ l', lcLoop (gOf (.ref m)) j (fNotT (fTest (fCB d_law_check (fCons (fVar j) fNil)))) (fVar j) env (k + 1) i [] (s ++ l) = some (.ok [], s ++ l')
  | k, i, l, hk, hi => by
    unfold lcLoop
    have g : gOf (.ref m) (s ++ l) i = some ws[i]? := by
      show (match (s ++ l)[m]? with | some (.lst ws) => some ws[i]? | _ => none) = _
      rw [app_get l hm]
    rw [g]
    by_cases hl : i < ws.length
    · obtain ⟨k', rfl⟩ : ∃ k', k = k' + 1 := ⟨k - 1, by omega⟩
      have gi : ws[i]? = some ws[i] := by simp [hl]
      obtain ⟨l1, e⟩ := check_ok ws[i] (s ++ l) (okC_mono l (hw _ (List.getElem_mem hl)))
      have t : fNotT (fTest (fCB d_law_check (fCons (fVar j) fNil))) (env.set j (some ws[i])) (s ++ l) = some (.ok false, s ++ l ++ l1) := t_not (b := true) (t_test (e_cb (e_cons (e_var (by rw [List.getElem?_set_self hj])) e_nil) e))
      rw [gi]; simp only; rw [t]; simp only
      rw [List.append_assoc]
      exact lc_none hj hm hw k' (i + 1) (l ++ l1) (by omega) hl
    · have gi : ws[i]? = none := by simp; omega
      rw [gi]
      exact ⟨l, rfl⟩
  termination_by k => k
theorem ne_nil {st : Sto} {k k' : Nat} (h1 : st[k]? = some (.lst [])) (h2 : st[k']? = some (.lst [])) : opNeD (.ref k) (.ref k') st = some (.ok (.bl false), st) := by
  have e1 : ∀ k, st[k]? = some (.lst []) → toD st 24 (.ref k) = some (.list []) := fun k h => by
    show (match st[k]? with | some (.lst ws) => (allD (toD st 23) ws).map PyData.list | some .emp => some (.dict []) | none => none) = _
    rw [h]; rfl
  show opData dNe _ _ _ = _
  unfold opData
  rw [e1 k h1, e1 k' h2]; rfl
theorem first_ok (env : Evn) (h : 6 < env.length) : ∃ st, fIfS (fTest (fOp opNeD (fLc (fCB d_law_fixed fNil) 6 (fNotT (fTest (fCB d_law_check (fCons (fVar 6) fNil)))) (fVar 6)) (fLst fNil))) (fRet (fC (.bl false))) fNext env [] = some (.nx, env, st) := by
  obtain ⟨m, s, ws, e, hm, hl, hw⟩ := fix_ok
  obtain ⟨l, q⟩ := lc_none (env := env.set 6 none) (j := 6) (by simpa using h) hm hw ws.length 0 [] (by omega) (Nat.zero_le _)
  rw [List.append_nil] at q
  have c : cnt (.ref m) s = some ws.length := by
    show (match s[m]? with | some (.lst ws) => some ws.length | _ => none) = _
    rw [hm]
  refine ⟨s ++ l ++ [.lst []] ++ [.lst []], s_ifF (t_test (e_op (e_lc (e_cb e_nil e) c q) (e_lst e_nil (by simp)) (ne_nil ?_ ?_))) rfl⟩
  · rw [List.append_assoc (s ++ l)]; simp
  · simp
/-! ### one turn -/
structure Stt (ns : List Int) (km n kc kr : Nat) (env : Evn) (st : Sto) : Prop where
  l : env.length = 8
  e0 : env[0]? = some (some (.ils (ns.map .int)))
  e1 : env[1]? = some (some (.ref km))
  e3 : env[3]? = some (some (.ref n))
  e4 : env[4]? = some (some (.tup [.ref kc, .ref kr]))
  ok : SOk n st
  hc : NmL st kc
  hr : NmL st kr
  nc : kc ≠ n
  nr : kr ≠ n
  hm : st[km]? = some (.lst (menu.map .str))
  nm : km ≠ n
theorem Stt.set {ns : List Int} {km n kc kr : Nat} {env : Evn} {st : Sto} (h : Stt ns km n kc kr env st) {j : Nat} (hj : 5 ≤ j) (w : DI.W) : Stt ns km n kc kr (env.set j (some w)) st :=
  ⟨by simp [h.l], by rw [List.getElem?_set_ne (by omega)]; exact h.e0, by rw [List.getElem?_set_ne (by omega)]; exact h.e1, by rw [List.getElem?_set_ne (by omega)]; exact h.e3, by rw [List.getElem?_set_ne (by omega)]; exact h.e4, h.ok, h.hc, h.hr, h.nc, h.nr, h.hm, h.nm⟩
theorem Stt.fw {ns : List Int} {km n kc kr : Nat} {env : Evn} {st st' : Sto} (h : Stt ns km n kc kr env st) (f : Fw n st st') : Stt ns km n kc kr env st' :=
  ⟨h.l, h.e0, h.e1, h.e3, h.e4, f.ok, h.hc.fw f h.nc, h.hr.fw f h.nr, h.nc, h.nr, f.keep _ _ h.nm h.hm, h.nm⟩
theorem ls_toD {st : Sto} {k : Nat} {ss : List Str} (h : st[k]? = some (.lst (ss.map .str))) : toD st 24 (.ref k) = some (.list (ss.map .str)) := by
  show (match st[k]? with | some (.lst ws) => (allD (toD st 23) ws).map PyData.list | some .emp => some (.dict []) | none => none) = _
  rw [h]; simp only
  have q : allD (toD st 23) (ss.map DI.W.str) = some (ss.map PyData.str) := by
    clear h
    induction ss with
    | nil => rfl
    | cons p r ih => show (match toD st 23 (DI.W.str p), allD _ _ with | some d, some ds => some (d :: ds) | _, _ => none) = _; rw [ih]; rfl
  rw [q]; rfl
theorem in_ls {st : Sto} {k : Nat} {ss : List Str} {x : Str} (h : st[k]? = some (.lst (ss.map .str))) (hs : shD (.list (ss.map .str)) = true) (hx : PyData.strOk x = true) : opIn (.str x) (.ref k) st = some (.ok (.bl (inS ss x)), st) := by
  show opData dIn (.str x) (.ref k) st = _
  unfold opData
  rw [ls_toD h, show toD st 24 (DI.W.str x) = some (.str x) from rfl]
  simp only
  show bOut (if shD (.str x) && shD (.list (ss.map .str)) then some ((ss.map PyData.str).any fun z => PyData.eqv z (.str x)) else none) st = _
  rw [hs, shd_str hx, any_str]; rfl
theorem menu_sh : shD (.list (menu.map .str)) = true := by decide +kernel
theorem cut_last (ws : List DI.W) (h : 1 ≤ ws.length) : cutW ws none (some (-1)) = ws.take (ws.length - 1) := by
  unfold cutW
  rw [HT.sIx_none]
  have : HT.sIx ws.length ws.length (some (-1)) = ws.length - 1 := by
    show (if (-1 : Int) < 0 then (-1 + (ws.length : Int)).toNat else min (-1 : Int).toNat ws.length) = _
    rw [if_pos (by decide)]; omega
  rw [this, List.drop_zero, Nat.sub_zero]
def body3 : FS := (fSeq (fIfS (fOrT (fNotT (fTest (fCB d_law_check (fCons (fVar 6) fNil)))) (fNotT (fTest (fCB d_law_check (fCons (fCB d_law_mutated (fCons (fVar 3) (fCons (fVar 6) fNil))) fNil))))) (fRet (fC (.bl false))) fNext)
      (fSeq (fSet 7 (fCB d_law_mutated (fCons (fVar 3) (fCons (fTup (fCons (fC (.str "out")) (fCons (fOp opIx (fOp opIx (fVar 4) (fC (.int 1))) (fC (.int 0))) fNil))) fNil))))
      (fIfS (fAndT (fTest (fOp opIn (fOp opIx (fVar 6) (fC (.int 0))) (fVar 1))) (fNotT (fTest (fCB d_law_check (fCons (fOp opAdd (fSl (fVar 6) fNoPart (fPart (fNeg (fC (.int 1))))) (fTup (fCons (fVar 7) fNil))) fNil))))) (fRet (fC (.bl false))) fNext)))
theorem turn_ok {ns : List Int} {km n kc kr : Nat} {env : Evn} {st : Sto} (h : Stt ns km n kc kr env st) {v : DI.W} {t : Str} {r : List DI.W} (hv : VOk v t r) : ∃ w st', body3 (env.set 6 (some v)) st = some (.nx, (env.set 6 (some v)).set 7 (some w), st') ∧ Fw n st st' := by
  have h6 := h.set (j := 6) (by decide) v
  have ev : (env.set 6 (some v))[6]? = some (some v) := List.getElem?_set_self (by rw [h.l]; decide)
  -- check(value)
  obtain ⟨l1, c1⟩ := check_ok v st (hv.okC st)
  have f1 : Fw n st (st ++ l1) := Fw.app _ h.ok
  -- mutated
  obtain ⟨v2, d2, s2, f2, p2, g2, c2⟩ := mutated_ok (h.ok.app l1) hv
  obtain ⟨l3, c3⟩ := check_ok v2 s2 (p2.okC (k := 0) (by decide) (by decide) g2)
  have x1 : fOrT (fNotT (fTest (fCB d_law_check (fCons (fVar 6) fNil)))) (fNotT (fTest (fCB d_law_check (fCons (fCB d_law_mutated (fCons (fVar 3) (fCons (fVar 6) fNil))) fNil)))) (env.set 6 (some v)) st = some (.ok false, s2 ++ l3) :=
    t_orF (t_not (b := true) (t_test (e_cb (e_cons (e_var ev) e_nil) c1))) (t_not (b := true) (t_test (e_cb (e_cons (e_cb (e_cons (e_var h6.e3) (e_cons (e_var ev) e_nil)) c2) e_nil) c3)))
  have f3 : Fw n st (s2 ++ l3) := (f1.trans f2).trans (Fw.app _ f2.ok)
  have h3 := h6.fw f3
  -- last
  obtain ⟨ws, hw1, hw2, hw3, hw4⟩ := h3.hr
  obtain ⟨w0, hw0⟩ : ∃ w0, ws[0]? = some w0 := ⟨ws[0], by simp [hw2]⟩
  have nm0 : K01.nm w0 := hw4 w0 (List.mem_of_getElem? hw0)
  have out : txt "out" := txt_of (ss := ["out"]) (by decide +kernel) (by simp)
  have hv' : VOk (.tup [.str "out", w0]) "out" [w0] := ⟨rfl, by simp, out, fun w hw => by rw [List.mem_singleton.mp hw]; exact pp_nm nm0⟩
  obtain ⟨v4, d4, s4, f4, p4, g4, c4⟩ := mutated_ok h3.ok hv'
  have x2 : fSet 7 (fCB d_law_mutated (fCons (fVar 3) (fCons (fTup (fCons (fC (.str "out")) (fCons (fOp opIx (fOp opIx (fVar 4) (fC (.int 1))) (fC (.int 0))) fNil))) fNil))) (env.set 6 (some v)) (s2 ++ l3) = some (.nx, (env.set 6 (some v)).set 7 (some v4), s4) :=
    s_set (e_cb (e_cons (e_var h6.e3) (e_cons (e_tup (e_cons rfl (e_cons (e_op (e_op (e_var h6.e4) rfl (ix_tup (j := 1) _ rfl)) rfl (ix_ref (j := 0) hw1 hw0)) e_nil)) (by simp)) e_nil)) c4)
  have h4 := (h6.set (j := 7) (by decide) v4).fw (f3.trans f4)
  have ev6 : ((env.set 6 (some v)).set 7 (some v4))[6]? = some (some v) := by rw [List.getElem?_set_ne (by decide)]; exact ev
  have ev7 : ((env.set 6 (some v)).set 7 (some v4))[7]? = some (some v4) := List.getElem?_set_self (by simp [h.l])
  have e := hv.e
  have hn := hv.n
  have ti : fTest (fOp opIn (fOp opIx (fVar 6) (fC (.int 0))) (fVar 1)) ((env.set 6 (some v)).set 7 (some v4)) s4 = some (.ok (inS menu t), s4) := by
    subst e
    exact t_test (e_op (e_op (e_var ev6) rfl (ix_tup (j := 0) _ rfl)) (e_var h4.e1) (in_ls h4.hm menu_sh hv.t.1))
  cases hb : inS menu t with
  | false =>
    rw [hb] at ti
    exact ⟨v4, s4, s_seq (s_ifF x1 rfl) (s_seq x2 (s_ifF (t_andF ti) rfl)), f3.trans f4⟩
  | true =>
    rw [hb] at ti
    have hl : (.str t :: r : List DI.W).length ≤ 3 := by simp; omega
    obtain ⟨d5, p5, g5⟩ := mixed (D := 3) (B := 16000) (st := s4) (us := (.str t :: r : List DI.W).take ((.str t :: r : List DI.W).length - 1) ++ [v4]) (by decide) (by decide) (by simp; omega) p4.down g4 (fun w hw => by
      rcases List.mem_append.mp hw with hw | hw
      · exact .inr (hv.parts w (List.mem_of_mem_take hw))
      · exact .inl (List.mem_singleton.mp hw))
    obtain ⟨l6, c6⟩ := check_ok _ s4 (p5.okC (k := 0) (by decide) (by decide) g5)
    have x3 : fNotT (fTest (fCB d_law_check (fCons (fOp opAdd (fSl (fVar 6) fNoPart (fPart (fNeg (fC (.int 1))))) (fTup (fCons (fVar 7) fNil))) fNil))) ((env.set 6 (some v)).set 7 (some v4)) s4 = some (.ok false, s4 ++ l6) := by
      subst e
      refine t_not (b := true) (t_test (e_cb (e_cons (e_op (sl_tup (lo := none) (hi := some (-1)) (e_var ev6) rfl (e_part rfl)) (e_tup (e_cons (e_var ev7) e_nil) (by simp)) ?_) e_nil) c6))
      rw [cut_last _ (by simp)]
      exact add_tup (by simp; omega)
    exact ⟨v4, s4 ++ l6, s_seq (s_ifF x1 rfl) (s_seq x2 (s_ifF (t_andT ti x3) rfl)), (f3.trans f4).trans (Fw.app _ f4.ok)⟩
end K01

namespace K01
open PySem DI PySem.W PyProof.Rows
theorem s_for {fi : FE} {j k : Nat} {fb : FS} {env : Evn} {st s1 : Sto} {ws : List DI.W} {o : OutS} (h : fi env st = some (.ok (.ref k), s1)) (hk : s1[k]? = some (.lst ws)) (hl : loop (gOf (.ref k)) j fb (ws.length + 1) 0 env s1 = o) : fFor fi j fb env st = o := by
  unfold fFor; rw [h]
  show (match cnt (.ref k) s1 with | some n => loop (gOf (.ref k)) j fb (n + 1) 0 env s1 | none => none) = _
  have c : cnt (.ref k) s1 = some ws.length := by
    show (match s1[k]? with | some (.lst ws) => some ws.length | _ => none) = _
    rw [hk]
  rw [c]; exact hl
theorem s_forR {fa : FA} {j n : Nat} {lo : Int} {fb : FS} {env : Evn} {st s1 : Sto} {ws : List DI.W} {o : OutS} {rg : List DI.W → Option (Int × Nat)} (h : fa env st = some (.ok ws, s1)) (hr : rg ws = some (lo, n)) (hl : loop (gRng lo n) j fb (n + 1) 0 env s1 = o) : fForR rg fa j fb env st = o := by
  unfold fForR; rw [h]
  show (match rg ws with | some (lo, n) => loop (gRng lo n) j fb (n + 1) 0 env s1 | none => none) = _
  rw [hr]; exact hl
def body2 : FS := fFor (fLst (fCons (fCB d_law_concept (fCons (fVar 3) (fCons (fVar 4) fNil))) (fCons (fCB d_law_axiom (fCons (fVar 3) (fCons (fVar 4) (fCons (fVar 1) fNil)))) fNil))) 6 body3
theorem inner_ok {ns : List Int} {km n kc kr : Nat} {env : Evn} {st : Sto} (h : Stt ns km n kc kr env st) : ∃ env' st', body2 env st = some (.nx, env', st') ∧ Stt ns km n kc kr env' st' := by
  obtain ⟨v1, s1, hv1, f1, e1⟩ := concept_draw h.ok h.hc h.hr h.nc h.nr
  have h1 := h.fw f1
  obtain ⟨v2, t2, r2, s2, hv2, f2, e2⟩ := axiom_draw h1.ok h1.hc h1.hr h1.nc h1.nr h1.hm h1.nm
  have h2 := h1.fw f2
  obtain ⟨t1, w1, ev1, tx1, nm1⟩ := hv1
  have hV1 : VOk v1 t1 [w1] := ⟨ev1, by simp, tx1, fun w hw => by rw [List.mem_singleton.mp hw]; exact pp_nm nm1⟩
  let s3 : Sto := s2 ++ [.lst [v1, v2]]
  have h3 : Stt ns km n kc kr env s3 := h2.fw (Fw.app _ h2.ok)
  have i3 : s3[s2.length]? = some (.lst [v1, v2]) := by simp [s3]
  have ne : s2.length ≠ n := Nat.ne_of_gt h2.ok.lt
  obtain ⟨env', st', hl, hP⟩ := loop_lst (k := s2.length) (j := 6) (body := body3) (ws := [v1, v2]) (P := fun _ env st => Stt ns km n kc kr env st ∧ st[s2.length]? = some (.lst [v1, v2])) (fun _ _ _ p => p.2) (fun i w env st hw p => by
    have ex : ∃ t r, VOk w t r := by
      have := List.mem_of_getElem? hw
      simp only [List.mem_cons, List.not_mem_nil, or_false] at this
      rcases this with rfl | rfl
      · exact ⟨_, _, hV1⟩
      · exact ⟨_, _, hv2⟩
    obtain ⟨t, r, hv⟩ := ex
    obtain ⟨w7, st1, q, f⟩ := turn_ok p.1 hv
    exact ⟨_, st1, q, ((p.1.set (j := 6) (by decide) w).set (j := 7) (by decide) w7).fw f, f.keep _ _ ne p.2⟩) 2 0 env s3 rfl (Nat.zero_le _) ⟨h3, i3⟩
  refine ⟨env', st', s_for (e_lst (e_cons (e_cb (e_cons (e_var h.e3) (e_cons (e_var h.e4) e_nil)) e1) (e_cons (e_cb (e_cons (e_var h.e3) (e_cons (e_var h.e4) (e_cons (e_var h.e1) e_nil))) e2) e_nil)) (by simp)) i3 hl, hP.1⟩
def body1 : FS := (fSeq (fSet 3 (fCB d_law_stream (fCons (fVar 0) (fCons (fVar 2) fNil))))
      (fSeq (fSet 4 (fCB d_law_names (fCons (fVar 3) fNil)))
      (fForR rng1 (fCons (fC (.int 6)) fNil) 5 body2)))
structure Out1 (ns : List Int) (km : Nat) (env : Evn) (st : Sto) : Prop where
  l : env.length = 8
  e0 : env[0]? = some (some (.ils (ns.map .int)))
  e1 : env[1]? = some (some (.ref km))
  hm : st[km]? = some (.lst (menu.map .str))
theorem outer_ok {ns : List Int} {km i : Nat} {env : Evn} {st : Sto} (hi : i < 12) (h : Out1 ns km env st) : ∃ env' st', body1 (env.set 2 (some (.int (0 + i)))) st = some (.nx, env', st') ∧ Out1 ns km env' st' := by
  obtain ⟨s1, ok1, e1, l1, rfl⟩ := stream_ok ns i (by omega) st
  obtain ⟨kc, kr, s2, hc, hr, nc, nr, f2, e2⟩ := names_ok ok1
  have hkm : km < st.length := (List.getElem?_eq_some_iff.mp h.hm).1
  have nmn : km ≠ st.length := by omega
  let ev1 : Evn := env.set 2 (some (.int (0 + i)))
  let ev2 : Evn := ev1.set 3 (some (.ref st.length))
  let ev3 : Evn := ev2.set 4 (some (.tup [.ref kc, .ref kr]))
  have le := h.l
  have a0 : ev1[0]? = some (some (.ils (ns.map .int))) := by simp only [ev1]; rw [List.getElem?_set_ne (by decide)]; exact h.e0
  have a2 : ev1[2]? = some (some (.int (0 + i))) := List.getElem?_set_self (by rw [le]; decide)
  have z : (0 + (i : Int)) = (i : Int) := Int.zero_add _
  have x1 : fSet 3 (fCB d_law_stream (fCons (fVar 0) (fCons (fVar 2) fNil))) ev1 st = some (.nx, ev2, st ++ l1) := s_set (e_cb (e_cons (e_var a0) (e_cons (e_var a2) e_nil)) (by rw [z]; exact e1))
  have b3 : ev2[3]? = some (some (.ref st.length)) := List.getElem?_set_self (by simp [ev1, le])
  have x2 : fSet 4 (fCB d_law_names (fCons (fVar 3) fNil)) ev2 (st ++ l1) = some (.nx, ev3, s2) := s_set (e_cb (e_cons (e_var b3) e_nil) e2)
  have S : Stt ns km st.length kc kr ev3 s2 := by
    refine ⟨by simp [ev3, ev2, ev1, le], ?_, ?_, ?_, ?_, f2.ok, hc, hr, nc, nr, f2.keep _ _ nmn (app_get l1 h.hm), nmn⟩
    · simp only [ev3, ev2]; rw [List.getElem?_set_ne (by decide), List.getElem?_set_ne (by decide)]; exact a0
    · simp only [ev3, ev2, ev1]; rw [List.getElem?_set_ne (by decide), List.getElem?_set_ne (by decide), List.getElem?_set_ne (by decide)]; exact h.e1
    · simp only [ev3]; rw [List.getElem?_set_ne (by decide)]; exact b3
    · exact List.getElem?_set_self (by simp [ev2, ev1, le])
  obtain ⟨env', st', hl, hP⟩ := loop_rng (j := 5) (n := 6) (body := body2) (lo := 0) (fun _ env st => Stt ns km st.length kc kr env st ∨ Stt ns km (st ++ []).length kc kr env st ∨ ∃ n, Stt ns km n kc kr env st) (fun i env st _ p => by
    obtain ⟨n, p⟩ : ∃ n, Stt ns km n kc kr env st := by
      rcases p with p | p | p
      · exact ⟨_, p⟩
      · exact ⟨_, p⟩
      · exact p
    obtain ⟨env1, st1, q, s⟩ := inner_ok (p.set (j := 5) (by decide) (.int (0 + i)))
    exact ⟨env1, st1, q, .inr (.inr ⟨n, s⟩)⟩) 6 0 ev3 s2 rfl (by decide) (.inr (.inr ⟨_, S⟩))
  obtain ⟨n, p⟩ : ∃ n, Stt ns km n kc kr env' st' := by
    rcases hP with p | p | p
    · exact ⟨_, p⟩
    · exact ⟨_, p⟩
    · exact p
  exact ⟨env', st', s_seq x1 (s_seq x2 (s_forR rfl rfl hl)), p.l, p.e0, p.e1, p.hm⟩
theorem count_ok (ns : List Int) (env : Evn) (st : Sto) (h0 : env[0]? = some (some (.ils (ns.map .int)))) : ∃ n : Nat, n ≤ 12 ∧ fCons (fCB opMax2 (fCons (fC (.int 1)) (fCons (fCB opMin2 (fCons (fC (.int 12)) (fCons (fCB opLen (fCons (fVar 0) fNil)) fNil))) fNil))) fNil env st = some (.ok [.int n], st) := by
  have ln : fCB opLen (fCons (fVar 0) fNil) env st = some (.ok (.int (ns.map DI.W.int).length), st) := e_cb (e_cons (e_var h0) e_nil) rfl
  let a : Int := if ((ns.map DI.W.int).length : Int) < 12 then ((ns.map DI.W.int).length : Int) else 12
  let b : Int := if a > 1 then a else 1
  have mn : fCB opMin2 (fCons (fC (.int 12)) (fCons (fCB opLen (fCons (fVar 0) fNil)) fNil)) env st = some (.ok (.int a), st) := e_cb (e_cons rfl (e_cons ln e_nil)) rfl
  have mx : fCB opMax2 (fCons (fC (.int 1)) (fCons (fCB opMin2 (fCons (fC (.int 12)) (fCons (fCB opLen (fCons (fVar 0) fNil)) fNil))) fNil)) env st = some (.ok (.int b), st) := e_cb (e_cons rfl (e_cons mn e_nil)) rfl
  have ha : a ≤ 12 := by simp only [a]; split <;> omega
  have hb : 0 ≤ b ∧ b ≤ 12 := by simp only [b]; split <;> omega
  refine ⟨b.toNat, by omega, ?_⟩
  have e : ((b.toNat : Nat) : Int) = b := Int.toNat_of_nonneg hb.1
  rw [e]
  exact e_cons mx e_nil
theorem main (ns : List Int) (h : ns.length ≤ 63) : ∃ st', d_law [.ils (ns.map DI.W.int)] [] = some (.ok (.bl true), st') := by
  let ev : Evn := [some (.ils (ns.map .int)), none, none, none, none, none, none, none]
  obtain ⟨s0, x0⟩ := first_ok ev (by simp [ev])
  let s1 : Sto := s0 ++ [.lst (menu.map .str)]
  let ev1 : Evn := [some (.ils (ns.map .int)), some (.ref s0.length), none, none, none, none, none, none]
  have x1 : fSet 1 (fLst (fCons (fC (.str "subclass")) (fCons (fC (.str "disjoint")) (fCons (fC (.str "subrole")) (fCons (fC (.str "subrole_inverse")) (fCons (fC (.str "disjoint_roles")) (fCons (fC (.str "disjoint_inverse")) (fCons (fC (.str "functional")) fNil)))))))) ev s0 = some (.nx, ev1, s1) := rfl
  obtain ⟨n, hn, ec⟩ := count_ok ns ev1 s1 rfl
  have r1 : rng1 [.int (n : Int)] = some (0, n) := by
    have hz : (decide (-(2 ^ 62) ≤ (n : Int)) && decide ((n : Int) < 2 ^ 62)) = true := by
      rw [Bool.and_eq_true]
      exact ⟨decide_eq_true (by omega), decide_eq_true (by omega)⟩
    unfold rng1
    simp only
    rw [if_pos hz, Int.toNat_natCast]
  obtain ⟨env', st', hl, hP⟩ := loop_rng (j := 2) (n := n) (body := body1) (lo := 0) (fun _ env st => Out1 ns s0.length env st) (fun i env st hi p => outer_ok (by omega) p) n 0 ev1 s1 rfl (Nat.zero_le _) ⟨rfl, rfl, rfl, by simp [s1]⟩
  exact ⟨st', f_rt (env1 := env') rfl (s_seq x0 (s_seq x1 (s_seq (s_forR ec r1 hl) (s_ret rfl))))⟩
end K01

namespace K01
open PySem L2 PySem.Spec PyProof.Rows DI
def EX0 : XR := fun _ _ _ _ _ => False
def dd_consists_of : He.DefD := ⟨("consists_of", none), "consists_of", "consists_of", defArgs s_consists_of, defBody s_consists_of, defScope s_consists_of, [], []⟩
def dd_is_word : He.DefD := ⟨("is_word", none), "is_word", "is_word", defArgs s_is_word, defBody s_is_word, defScope s_is_word, [], []⟩
def dd_tag_of : He.DefD := ⟨("tag_of", none), "tag_of", "tag_of", defArgs s_tag_of, defBody s_tag_of, defScope s_tag_of, [], []⟩
def dd_is_concept : He.DefD := ⟨("is_concept", none), "is_concept", "is_concept", defArgs s_is_concept, defBody s_is_concept, defScope s_is_concept, [], []⟩
def dd_is_direction : He.DefD := ⟨("is_direction", none), "is_direction", "is_direction", defArgs s_is_direction, defBody s_is_direction, defScope s_is_direction, [], []⟩
def dd_is_axiom : He.DefD := ⟨("is_axiom", none), "is_axiom", "is_axiom", defArgs s_is_axiom, defBody s_is_axiom, defScope s_is_axiom, [], []⟩
def dd_law_stream : He.DefD := ⟨("_law_stream", none), "_law_stream", "_law_stream", defArgs s_law_stream, defBody s_law_stream, defScope s_law_stream, [], []⟩
def dd_law_draw : He.DefD := ⟨("_law_draw", none), "_law_draw", "_law_draw", defArgs s_law_draw, defBody s_law_draw, defScope s_law_draw, [], []⟩
def dd_law_choose : He.DefD := ⟨("_law_choose", none), "_law_choose", "_law_choose", defArgs s_law_choose, defBody s_law_choose, defScope s_law_choose, [], []⟩
def dd_law_names : He.DefD := ⟨("_law_names", none), "_law_names", "_law_names", defArgs s_law_names, defBody s_law_names, defScope s_law_names, [], []⟩
def dd_law_concept : He.DefD := ⟨("_law_concept", none), "_law_concept", "_law_concept", defArgs s_law_concept, defBody s_law_concept, defScope s_law_concept, [], []⟩
def dd_law_axiom : He.DefD := ⟨("_law_axiom", none), "_law_axiom", "_law_axiom", defArgs s_law_axiom, defBody s_law_axiom, defScope s_law_axiom, [], []⟩
def dd_law_allowed : He.DefD := ⟨("_law_allowed", none), "_law_allowed", "_law_allowed", defArgs s_law_allowed, defBody s_law_allowed, defScope s_law_allowed, [], []⟩
def dd_law_ontology : He.DefD := ⟨("_law_ontology", none), "_law_ontology", "_law_ontology", defArgs s_law_ontology, defBody s_law_ontology, defScope s_law_ontology, [], []⟩
def dd_law_is_word : He.DefD := ⟨("_law_is_word", none), "_law_is_word", "_law_is_word", defArgs s_law_is_word, defBody s_law_is_word, defScope s_law_is_word, [], []⟩
def dd_law_concept_ok : He.DefD := ⟨("_law_concept_ok", none), "_law_concept_ok", "_law_concept_ok", defArgs s_law_concept_ok, defBody s_law_concept_ok, defScope s_law_concept_ok, [], []⟩
def dd_law_axiom_ok : He.DefD := ⟨("_law_axiom_ok", none), "_law_axiom_ok", "_law_axiom_ok", defArgs s_law_axiom_ok, defBody s_law_axiom_ok, defScope s_law_axiom_ok, [], []⟩
def dd_law_check : He.DefD := ⟨("_law_check", none), "_law_check", "_law_check", defArgs s_law_check, defBody s_law_check, defScope s_law_check, [], []⟩
def dd_law_fixed : He.DefD := ⟨("_law_fixed", none), "_law_fixed", "_law_fixed", defArgs s_law_fixed, defBody s_law_fixed, defScope s_law_fixed, [], []⟩
def dd_law_mutated : He.DefD := ⟨("_law_mutated", none), "_law_mutated", "_law_mutated", defArgs s_law_mutated, defBody s_law_mutated, defScope s_law_mutated, [], []⟩
def dd_law : He.DefD := ⟨("law", none), "law", "law", defArgs s_law, defBody s_law, defScope s_law, [], []⟩
def hfn : List He.DefD := [dd_consists_of, dd_is_word, dd_tag_of, dd_is_concept, dd_is_direction, dd_is_axiom, dd_law_stream, dd_law_draw, dd_law_choose, dd_law_names, dd_law_concept, dd_law_axiom, dd_law_allowed, dd_law_ontology, dd_law_is_word, dd_law_concept_ok, dd_law_axiom_ok, dd_law_check, dd_law_fixed, dd_law_mutated, dd_law]
def hfa : List He.Fa := [.free "all", .free "int", .free "isinstance", .free "len", .free "list", .free "max", .free "min", .free "range", .free "repr", .free "str", .free "tuple", .glo "consists_of", .glo "is_word", .glo "tag_of", .glo "is_concept", .glo "is_direction", .glo "is_axiom", .glo "_law_stream", .glo "_law_draw", .glo "_law_choose", .glo "_law_names", .glo "_law_concept", .glo "_law_axiom", .glo "_law_allowed", .glo "_law_ontology", .glo "_law_is_word", .glo "_law_concept_ok", .glo "_law_axiom_ok", .glo "_law_check", .glo "_law_fixed", .glo "_law_mutated", .glo "law"]
def hcs : List (Str × W) := [("LETTERS", c_LETTERS), ("MOST_CHARACTERS", c_MOST_CHARACTERS), ("CONCEPT_FORMS", c_CONCEPT_FORMS), ("DIRECTION_FORMS", c_DIRECTION_FORMS), ("AXIOM_FORMS", c_AXIOM_FORMS)]
abbrev HR0 : PySem.W.OpenRow := PySem.W.OpenLaw.row PySem.Challenge.rw_factsandfar_k01_concepts_and_axioms
abbrev hk : PySem.W.Hook := He.hookX 5 hfa hfn [] [] (consB hcs)
def hob (s : PySem.W.SharedT) : He.AlX := He.obsX 5 hfa hfn [] [] (consB hcs) (HandSHeadRun.getT s)
theorem hob_eq (s : PySem.W.SharedT) : hob s = hk.obs s.abs := He.obsX_eq (HandSHeadRun.getT_eq s)
def hloose : List Str := ["LETTERS", "MOST_CHARACTERS", "CONCEPT_FORMS", "DIRECTION_FORMS", "AXIOM_FORMS", "consists_of", "is_word", "tag_of", "is_concept", "is_direction", "is_axiom", "_law_stream", "_law_draw", "_law_choose", "_law_names", "_law_concept", "_law_axiom", "_law_allowed", "_law_ontology", "_law_is_word", "_law_concept_ok", "_law_axiom_ok", "_law_check", "_law_fixed", "_law_mutated", "__name__"]
set_option maxHeartbeats 0 in
theorem hrun (w : World) : HandSHeadRun.RunEq HR0 (PySem.W.view HR0.prog [28]) hk hob 20000 ["LETTERS", "MOST_CHARACTERS", "CONCEPT_FORMS", "DIRECTION_FORMS", "AXIOM_FORMS", "consists_of", "is_word", "tag_of", "is_concept", "is_direction", "is_axiom", "_law_stream", "_law_draw", "_law_choose", "_law_names", "_law_concept", "_law_axiom", "_law_allowed", "_law_ontology", "_law_is_word", "_law_concept_ok", "_law_axiom_ok", "_law_check", "_law_fixed", "_law_mutated", "__name__"] w := by
  intro os
  kernel_rfl
theorem hfacts {P : Program} {w : World} {K : PySem.W.Frag} {h h0 : Heap} {mg : Str → Option Value} {f : Addr} (X : K.In h) (G : h.Ns mainGlobals mg) (hfa0 : mg "law" = some (.ref f)) (c : He.SaysX hfa hfn [] [] (consB hcs) w h0 K) :
    ∃ fd : FuncData, (∀ (s : Shared) (v : Value), BindsTo s fd ⟨[v], []⟩ [("_law_script", v)]) ∧ ∀ base : Heap, K.In base → base.Ns mainGlobals mg → FnG P w K mg base 6 f fd ["_law_script"] (spI K EX0 d_law) := by
  have cd := c.t.d
  have f_all : mg "all" = none := He.free_ok X G (cd.fact 0 (f := .free "all") rfl)
  have f_int : mg "int" = none := He.free_ok X G (cd.fact 1 (f := .free "int") rfl)
  have f_isinstance : mg "isinstance" = none := He.free_ok X G (cd.fact 2 (f := .free "isinstance") rfl)
  have f_len : mg "len" = none := He.free_ok X G (cd.fact 3 (f := .free "len") rfl)
  have f_list : mg "list" = none := He.free_ok X G (cd.fact 4 (f := .free "list") rfl)
  have f_max : mg "max" = none := He.free_ok X G (cd.fact 5 (f := .free "max") rfl)
  have f_min : mg "min" = none := He.free_ok X G (cd.fact 6 (f := .free "min") rfl)
  have f_range : mg "range" = none := He.free_ok X G (cd.fact 7 (f := .free "range") rfl)
  have f_repr : mg "repr" = none := He.free_ok X G (cd.fact 8 (f := .free "repr") rfl)
  have f_str : mg "str" = none := He.free_ok X G (cd.fact 9 (f := .free "str") rfl)
  have f_tuple : mg "tuple" = none := He.free_ok X G (cd.fact 10 (f := .free "tuple") rfl)
  have g_LETTERS : CN K mg "LETTERS" c_LETTERS := consB_ok X G c.more 0
  have g_MOST_CHARACTERS : CN K mg "MOST_CHARACTERS" c_MOST_CHARACTERS := consB_ok X G c.more 1
  have g_CONCEPT_FORMS : CN K mg "CONCEPT_FORMS" c_CONCEPT_FORMS := consB_ok X G c.more 2
  have g_DIRECTION_FORMS : CN K mg "DIRECTION_FORMS" c_DIRECTION_FORMS := consB_ok X G c.more 3
  have g_AXIOM_FORMS : CN K mg "AXIOM_FORMS" c_AXIOM_FORMS := consB_ok X G c.more 4
  obtain ⟨fd_consists_of, F_consists_of⟩ := cd.def_ 0 (d := dd_consists_of) rfl
  have m_consists_of : mg "consists_of" = some (.ref (He.fAd K ("consists_of", none))) := He.glo_ok X G (cd.fact 11 (f := .glo "consists_of") rfl)
  obtain ⟨fd_is_word, F_is_word⟩ := cd.def_ 1 (d := dd_is_word) rfl
  have m_is_word : mg "is_word" = some (.ref (He.fAd K ("is_word", none))) := He.glo_ok X G (cd.fact 12 (f := .glo "is_word") rfl)
  obtain ⟨fd_tag_of, F_tag_of⟩ := cd.def_ 2 (d := dd_tag_of) rfl
  have m_tag_of : mg "tag_of" = some (.ref (He.fAd K ("tag_of", none))) := He.glo_ok X G (cd.fact 13 (f := .glo "tag_of") rfl)
  obtain ⟨fd_is_concept, F_is_concept⟩ := cd.def_ 3 (d := dd_is_concept) rfl
  have m_is_concept : mg "is_concept" = some (.ref (He.fAd K ("is_concept", none))) := He.glo_ok X G (cd.fact 14 (f := .glo "is_concept") rfl)
  obtain ⟨fd_is_direction, F_is_direction⟩ := cd.def_ 4 (d := dd_is_direction) rfl
  have m_is_direction : mg "is_direction" = some (.ref (He.fAd K ("is_direction", none))) := He.glo_ok X G (cd.fact 15 (f := .glo "is_direction") rfl)
  obtain ⟨fd_is_axiom, F_is_axiom⟩ := cd.def_ 5 (d := dd_is_axiom) rfl
  have m_is_axiom : mg "is_axiom" = some (.ref (He.fAd K ("is_axiom", none))) := He.glo_ok X G (cd.fact 16 (f := .glo "is_axiom") rfl)
  obtain ⟨fd_law_stream, F_law_stream⟩ := cd.def_ 6 (d := dd_law_stream) rfl
  have m_law_stream : mg "_law_stream" = some (.ref (He.fAd K ("_law_stream", none))) := He.glo_ok X G (cd.fact 17 (f := .glo "_law_stream") rfl)
  obtain ⟨fd_law_draw, F_law_draw⟩ := cd.def_ 7 (d := dd_law_draw) rfl
  have m_law_draw : mg "_law_draw" = some (.ref (He.fAd K ("_law_draw", none))) := He.glo_ok X G (cd.fact 18 (f := .glo "_law_draw") rfl)
  obtain ⟨fd_law_choose, F_law_choose⟩ := cd.def_ 8 (d := dd_law_choose) rfl
  have m_law_choose : mg "_law_choose" = some (.ref (He.fAd K ("_law_choose", none))) := He.glo_ok X G (cd.fact 19 (f := .glo "_law_choose") rfl)
  obtain ⟨fd_law_names, F_law_names⟩ := cd.def_ 9 (d := dd_law_names) rfl
  have m_law_names : mg "_law_names" = some (.ref (He.fAd K ("_law_names", none))) := He.glo_ok X G (cd.fact 20 (f := .glo "_law_names") rfl)
  obtain ⟨fd_law_concept, F_law_concept⟩ := cd.def_ 10 (d := dd_law_concept) rfl
  have m_law_concept : mg "_law_concept" = some (.ref (He.fAd K ("_law_concept", none))) := He.glo_ok X G (cd.fact 21 (f := .glo "_law_concept") rfl)
  obtain ⟨fd_law_axiom, F_law_axiom⟩ := cd.def_ 11 (d := dd_law_axiom) rfl
  have m_law_axiom : mg "_law_axiom" = some (.ref (He.fAd K ("_law_axiom", none))) := He.glo_ok X G (cd.fact 22 (f := .glo "_law_axiom") rfl)
  obtain ⟨fd_law_allowed, F_law_allowed⟩ := cd.def_ 12 (d := dd_law_allowed) rfl
  have m_law_allowed : mg "_law_allowed" = some (.ref (He.fAd K ("_law_allowed", none))) := He.glo_ok X G (cd.fact 23 (f := .glo "_law_allowed") rfl)
  obtain ⟨fd_law_ontology, F_law_ontology⟩ := cd.def_ 13 (d := dd_law_ontology) rfl
  have m_law_ontology : mg "_law_ontology" = some (.ref (He.fAd K ("_law_ontology", none))) := He.glo_ok X G (cd.fact 24 (f := .glo "_law_ontology") rfl)
  obtain ⟨fd_law_is_word, F_law_is_word⟩ := cd.def_ 14 (d := dd_law_is_word) rfl
  have m_law_is_word : mg "_law_is_word" = some (.ref (He.fAd K ("_law_is_word", none))) := He.glo_ok X G (cd.fact 25 (f := .glo "_law_is_word") rfl)
  obtain ⟨fd_law_concept_ok, F_law_concept_ok⟩ := cd.def_ 15 (d := dd_law_concept_ok) rfl
  have m_law_concept_ok : mg "_law_concept_ok" = some (.ref (He.fAd K ("_law_concept_ok", none))) := He.glo_ok X G (cd.fact 26 (f := .glo "_law_concept_ok") rfl)
  obtain ⟨fd_law_axiom_ok, F_law_axiom_ok⟩ := cd.def_ 16 (d := dd_law_axiom_ok) rfl
  have m_law_axiom_ok : mg "_law_axiom_ok" = some (.ref (He.fAd K ("_law_axiom_ok", none))) := He.glo_ok X G (cd.fact 27 (f := .glo "_law_axiom_ok") rfl)
  obtain ⟨fd_law_check, F_law_check⟩ := cd.def_ 17 (d := dd_law_check) rfl
  have m_law_check : mg "_law_check" = some (.ref (He.fAd K ("_law_check", none))) := He.glo_ok X G (cd.fact 28 (f := .glo "_law_check") rfl)
  obtain ⟨fd_law_fixed, F_law_fixed⟩ := cd.def_ 18 (d := dd_law_fixed) rfl
  have m_law_fixed : mg "_law_fixed" = some (.ref (He.fAd K ("_law_fixed", none))) := He.glo_ok X G (cd.fact 29 (f := .glo "_law_fixed") rfl)
  obtain ⟨fd_law_mutated, F_law_mutated⟩ := cd.def_ 19 (d := dd_law_mutated) rfl
  have m_law_mutated : mg "_law_mutated" = some (.ref (He.fAd K ("_law_mutated", none))) := He.glo_ok X G (cd.fact 30 (f := .glo "_law_mutated") rfl)
  obtain ⟨fd_law, F_law⟩ := cd.def_ 20 (d := dd_law) rfl
  have m_law : mg "law" = some (.ref (He.fAd K ("law", none))) := He.glo_ok X G (cd.fact 31 (f := .glo "law") rfl)
  have b := FunD.bindsA (ps := ["_law_script"]) F_law fun _ _ _ _ _ _ us hl => match us, hl with | [_], _ => rfl
  refine ⟨fd_law, fun s v => b s [v] rfl, fun base _ _ => ?_⟩
  have k_consists_of : Kn P w K mg base EX0 "consists_of" 1 ["candidate", "characters"] d_consists_of := kn_consists_of F_consists_of m_consists_of g_MOST_CHARACTERS f_isinstance f_str f_len f_all
  have k_is_word : Kn P w K mg base EX0 "is_word" 2 ["candidate"] d_is_word := kn_is_word F_is_word m_is_word g_LETTERS k_consists_of
  have k_tag_of : Kn P w K mg base EX0 "tag_of" 1 ["candidate", "forms"] d_tag_of := kn_tag_of F_tag_of m_tag_of f_isinstance f_tuple f_len f_str
  have k_is_concept : Kn P w K mg base EX0 "is_concept" 3 ["candidate"] d_is_concept := kn_is_concept F_is_concept m_is_concept g_CONCEPT_FORMS k_tag_of k_is_word
  have k_is_direction : Kn P w K mg base EX0 "is_direction" 3 ["candidate"] d_is_direction := kn_is_direction F_is_direction m_is_direction g_DIRECTION_FORMS k_tag_of k_is_word
  have k_is_axiom : Kn P w K mg base EX0 "is_axiom" 4 ["candidate"] d_is_axiom := kn_is_axiom F_is_axiom m_is_axiom g_AXIOM_FORMS k_tag_of k_is_direction k_is_concept k_is_word
  have k_law_stream : Kn P w K mg base EX0 "_law_stream" 1 ["_law_script", "_law_k"] d_law_stream := kn_law_stream F_law_stream m_law_stream f_len f_max f_int
  have k_law_draw : Kn P w K mg base EX0 "_law_draw" 1 ["_law_stream_here", "_law_count"] d_law_draw := kn_law_draw F_law_draw m_law_draw
  have k_law_choose : Kn P w K mg base EX0 "_law_choose" 2 ["_law_stream_here", "_law_items"] d_law_choose := kn_law_choose F_law_choose m_law_choose f_len k_law_draw
  have k_law_names : Kn P w K mg base EX0 "_law_names" 2 ["_law_stream_here"] d_law_names := kn_law_names F_law_names m_law_names f_int k_law_draw
  have k_law_concept : Kn P w K mg base EX0 "_law_concept" 3 ["_law_stream_here", "_law_names_here"] d_law_concept := kn_law_concept F_law_concept m_law_concept f_int k_law_draw k_law_choose
  have k_law_axiom : Kn P w K mg base EX0 "_law_axiom" 4 ["_law_stream_here", "_law_names_here", "_law_menu"] d_law_axiom := kn_law_axiom F_law_axiom m_law_axiom k_law_choose k_law_concept k_law_draw
  have k_law_allowed : Kn P w K mg base EX0 "_law_allowed" 1 ["_law_items"] d_law_allowed := kn_law_allowed F_law_allowed m_law_allowed
  have k_law_ontology : Kn P w K mg base EX0 "_law_ontology" 5 ["_law_stream_here", "_law_names_here", "_law_menu", "_law_most"] d_law_ontology := kn_law_ontology F_law_ontology m_law_ontology f_range k_law_draw k_law_axiom k_law_allowed
  have k_law_is_word : Kn P w K mg base EX0 "_law_is_word" 1 ["_law_value"] d_law_is_word := kn_law_is_word F_law_is_word m_law_is_word f_isinstance f_str f_len
  have k_law_concept_ok : Kn P w K mg base EX0 "_law_concept_ok" 2 ["_law_value"] d_law_concept_ok := kn_law_concept_ok F_law_concept_ok m_law_concept_ok f_isinstance f_tuple f_len f_str k_law_is_word
  have k_law_axiom_ok : Kn P w K mg base EX0 "_law_axiom_ok" 3 ["_law_value"] d_law_axiom_ok := kn_law_axiom_ok F_law_axiom_ok m_law_axiom_ok f_isinstance f_tuple f_len f_str k_law_concept_ok k_law_is_word
  have k_law_check : Kn P w K mg base EX0 "_law_check" 5 ["_law_value"] d_law_check := kn_law_check F_law_check m_law_check f_repr k_is_axiom k_is_concept k_law_axiom_ok k_law_concept_ok
  have k_law_fixed : Kn P w K mg base EX0 "_law_fixed" 1 [] d_law_fixed := kn_law_fixed F_law_fixed m_law_fixed
  have k_law_mutated : Kn P w K mg base EX0 "_law_mutated" 3 ["_law_stream_here", "_law_value"] d_law_mutated := kn_law_mutated F_law_mutated m_law_mutated f_len f_list k_law_draw k_law_choose
  have k_law := fl_law (P := P) (w := w) (base := base) (EX := EX0) F_law m_law f_len f_min f_max f_range k_law_fixed k_law_check k_law_stream k_law_names k_law_axiom k_law_concept k_law_mutated
  have e := hfa0.symm.trans m_law
  cases e
  exact k_law
end K01
open PySem PySem.W PySem.Calls PyProof.Rows
set_option maxHeartbeats 0 in
theorem PySem.Challenge.cw_factsandfar_k01_concepts_and_axioms_holds : PySem.Challenge.rw_factsandfar_k01_concepts_and_axioms.Holds := by
  w_on; o_law
  refine HandSHeadRun.head_any (r := OpenLaw.row PySem.Challenge.rw_factsandfar_k01_concepts_and_axioms) (q := view (OpenLaw.row PySem.Challenge.rw_factsandfar_k01_concepts_and_axioms).prog [28]) (H := K01.hk) (ob := K01.hob) (M := 20000) (loose := ["LETTERS", "MOST_CHARACTERS", "CONCEPT_FORMS", "DIRECTION_FORMS", "AXIOM_FORMS", "consists_of", "is_word", "tag_of", "is_concept", "is_direction", "is_axiom", "_law_stream", "_law_draw", "_law_choose", "_law_names", "_law_concept", "_law_axiom", "_law_allowed", "_law_ontology", "_law_is_word", "_law_concept_ok", "_law_axiom_ok", "_law_check", "_law_fixed", "_law_mutated", "__name__"]) (d := HandSHeadRun.topDef (OpenLaw.row PySem.Challenge.rw_factsandfar_k01_concepts_and_axioms).prog 28) (kwd := []) K01.hob_eq
    (by kernel_rfl) (fun s => by kernel_rfl) K01.hrun (by kernel_rfl) (by kernel_rfl) (by kernel_rfl) (by rfl) (by first | assumption | decide +kernel) (by decide +kernel) ⟨rfl, rfl, rfl, rfl, rfl, by decide +kernel⟩ ?hw ?hc
  case hw => w_witness2
  case hc =>
    refine DI.walkG (l := PySem.Challenge.rw_factsandfar_k01_concepts_and_axioms) (n := 63) (k := 6) (x := "_law_script") (EX := K01.EX0) (g := K01.d_law) rfl (by decide) (by kernel_rfl) ⟨rfl, by decide, by decide⟩ ?F K01.main
    intro w mg fa h Y G hmg0
    obtain ⟨K, KX, c⟩ := Y
    have hmg : mg ("law" : PySem.Str) = some (.ref fa) := by
      have e : (HandSHeadRun.topDef (OpenLaw.row PySem.Challenge.rw_factsandfar_k01_concepts_and_axioms).prog 28).name = ("law" : PySem.Str) := by kernel_rfl
      rw [← e]
      exact hmg0
    obtain ⟨fd, hb, hF⟩ := K01.hfacts (P := (PySem.Challenge.rw_factsandfar_k01_concepts_and_axioms).prog) (w := w) KX G hmg c
    exact ⟨K, fd, KX, hb, hF⟩

