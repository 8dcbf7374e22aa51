import PyProof.Rows.All
import Wide.All
import OpenK.AllK
import Wide.FinOn
import KE.GoesMore
import HandS.ForMost
import HandS.IsInst
import HandS.Deep
import HandS.Wide
import HandS.Iter
import KE.KDictKeyed
import KE.KeyNested
import HandS.DictEq
import HandS.TupAny
import HandS.ForExc
import HandS.Defaults
import HandS.HeadEnd
import HandS.HeadHook4
import HandS.Exc
import HandS.ExcInit
import HandS.ExcField
import HandS.ExcIs
import KE.KExcIs
import HandS.RaiseMore
import PyProof.ExcBaseAll.ValueError
import PyProof.ExcBaseAll.LookupError
import PyProof.ExcBaseAll.OverflowError
import PyProof.ExcBaseAll.RuntimeError
import KE.SortData
import KE.KDictSum
import KE.KDictCopyH
import HandS.TupLe
import HandS.Flow
import KE.KDictDisplayH
import PyProof.DictTable
import HandS.Call
import KE.KDictPairs
import HandS.TryOnly
import KE.KStateDown
import HandS.More
import HandS.Head0
import HandS.Head1
import HandS.Head2
import HandS.HeadHook1
import HandS.HeadHook2
import PySem.Challenge.RW_factsandfar_k05_chains
set_option Elab.async false
set_option linter.all false
set_option maxRecDepth 100000
set_option maxHeartbeats 4000000
namespace PySem
open Sem (wp)
open AutoSeq1 (wpAny_loadPart')
theorem di_enum_new (l : Addr) (items : Array Value) (o : Obj) (hcls : o.cls = .type "tuple") (n : Nat) (hdat : o.data = .seq items n) :
    Meets (Builtin.«enumerate.__new__» ⟨[.type "enumerate", .ref l], []⟩) (fun _ R s => s.heap.get? l = some o ∧
      R (.ok (.ret (.ref (s.heap.push { cls := .type "tuple_iterator", data := .fields #[.ref l, .int 0 0] }).objs.size)))
        { s with heap := (s.heap.push { cls := .type "tuple_iterator", data := .fields #[.ref l, .int 0 0] }).push { cls := .type "enumerate", data := .fields #[.none, .bool false, .ref s.heap.objs.size, rawInt 0, .none, .none] } }) :=
  .of_wp fun prog w A R s h => by
    obtain ⟨hp, g, d, tk, os⟩ := s; obtain ⟨hl, h⟩ := h
    have hsub := sub_enumerate
    have hL : Heap.IsTuple (Shared.heap ⟨hp, g, d, tk, os⟩) l items := ⟨_, hl, hcls, n, hdat⟩
    obtain ⟨c, dct, dt, sl⟩ := o
    replace hcls : c = .type "tuple" := hcls
    replace hdat : dt = .seq items n := hdat
    subst hcls hdat
    wp_walk using wpAny_loadPart' hl
    refine wpAny_stack_any fun st => wpAny_pure ?_
    split
    · rename_i c _ _ _ _ _
      cases (c == Value.type "enumerate")
      · wp_walk using wpAny_loadPart' hl, wpAny_pyIter_tuple hL
        exact ⟨_, rfl, h⟩
      · wp_walk using wpAny_loadPart' hl, wpAny_pyIter_tuple hL
        exact ⟨_, rfl, h⟩
    · wp_walk using wpAny_loadPart' hl, wpAny_pyIter_tuple hL
      exact ⟨_, rfl, h⟩
theorem di_enum_call {prog : Program} {w : World} {A : Around} {E : Value → Shared → Prop} {s : Shared} {l : Addr} {items : Array Value} {Q : Value → Shared → Prop} (hL : s.heap.IsTuple l items)
    (h : ∀ h', IsEnum h' (s.heap.objs.size + 1) s.heap.objs.size 0 .none → h'.IsTupleIter s.heap.objs.size l 0 → h'.objs.size = s.heap.objs.size + 2 →
      (∀ b o, s.heap.get? b = some o → h'.get? b = some o) → Q (.ref (s.heap.objs.size + 1)) { s with heap := h' }) :
    wpAny (model prog w) A (call (.type "enumerate") [.ref l]) Q E s := by
  obtain ⟨o, hl, hc, n, hd⟩ := hL
  refine callType_new F.called_enumerate (by decide) (F.typeCall_enumerate_1 _) (F.newCall_enumerate_1 _) (fun obj => F.args_object_init_2 obj _) F.entry_enumerate_new
    (di_enum_new l items o hc n hd) ⟨hl, ?_⟩
  have hz : (s.heap.push { cls := .type "tuple_iterator", data := .fields #[.ref l, .int 0 0] }).objs.size = s.heap.objs.size + 1 := Heap.size_push ..
  show _ ∧ _
  rw [hz]
  have he : IsEnum ((s.heap.push { cls := .type "tuple_iterator", data := .fields #[.ref l, .int 0 0] }).push
      { cls := .type "enumerate", data := .fields #[.none, .bool false, .ref s.heap.objs.size, rawInt 0, .none, .none] }) (s.heap.objs.size + 1) s.heap.objs.size 0 .none := by
    have := Heap.get?_push_size (s.heap.push { cls := .type "tuple_iterator", data := .fields #[.ref l, .int 0 0] })
      (o := { cls := .type "enumerate", data := .fields #[.none, .bool false, .ref s.heap.objs.size, rawInt 0, .none, .none] }) rfl
    rw [hz] at this; exact this
  refine ⟨⟨_, he, rfl⟩, h _ he ⟨_, Heap.get?_push_of_some _ (Heap.get?_push_size _ rfl), rfl, rfl⟩ (by rw [Heap.size_push, hz]) fun b o x => Heap.get?_push_of_some _ (Heap.get?_push_of_some _ x)⟩
end PySem
namespace DI
open PySem L2 PySem.Spec PyProof.Rows
/-- the tuple at a, each item in a new pair -/
def IteT (K : PySem.W.Frag) (a : Addr) : It :=
  ⟨fun i H => ∃ (xs : List V) (x : V), SqT K H a xs ∧ xs[i]? = some x, fun i H v H' => ∃ T x, v = .ref T ∧ H T = none ∧ H' = upd H T (.tup [.int (i : Nat), x]) ∧ ∀ xs, SqT K H a xs → xs[i]? = some x, fun i H => ∃ xs : List V, SqT K H a xs ∧ xs.length ≤ i⟩
theorem tup_inj {X : Cx} {pins : List (Addr × Obj)} {σ : L2.St} {H : Hp} {s : Shared} {a : Addr} {xs ys : List V} (I : Inv X pins σ H s) (h1 : SqT X.K H a xs) (h2 : SqT X.K H a ys) : xs = ys := I.tuple_inj h1 h2
theorem turn_enumT {P : Program} {w : World} {K : PySem.W.Frag} {elts : List Expr} {kk : Nat} {tpos : Pos} (a e it : Addr) :
    Turn P w K (.Tuple elts kk tpos) (IteT K a) [e, it] e (fun i h => (∃ old, IsEnum h e it ((i : Nat) : Int) old) ∧ h.IsTupleIter it a i ∧ e ≠ it) where
  mem := by simp
  obj := fun i h st b hb => by
    obtain ⟨⟨old, he⟩, ⟨o, ho, hc, hd⟩, _⟩ := st
    have e' : b = e ∨ b = it := by simpa using hb
    rcases e' with z | z
    · rw [z]; exact ⟨_, he, fun v q => nomatch q⟩
    · rw [z]; exact ⟨o, ho, fun v q => by rw [hd] at q; cases q⟩
  keep := fun i h h' st k => let ⟨⟨old, he⟩, ⟨o, ho, r⟩, hne⟩ := st; ⟨⟨old, k e (by simp) _ he⟩, ⟨o, k it (by simp) o ho, r⟩, hne⟩
  item := by
    intro X hP hw hK hc i pins s σ H E I hf st hg
    subst hP hw hK
    obtain ⟨⟨old, he⟩, hit, hne⟩ := st
    obtain ⟨xs, x, hq, hx⟩ := hg
    obtain ⟨its, rv, p, hz⟩ := I.tuple hq
    obtain ⟨u, hu, ru⟩ := rv.get hx
    have hel : e < s.heap.objs.size := Heap.lt_size he
    have hil : it < s.heap.objs.size := by obtain ⟨_, q, _⟩ := hit; exact Heap.lt_size q
    have hai : a ≠ it := fun z => by
      obtain ⟨o1, q1, _, d1⟩ := hit
      obtain ⟨o2, q2, _, m, d2⟩ := p
      rw [z, q1] at q2; cases q2
      rw [d1] at d2; cases d2
    have hae : a ≠ e := fun z => by
      obtain ⟨o2, q2, _, m, d2⟩ := p
      rw [z, he] at q2; cases q2
      cases d2
    refine wpAny_pyNext_enum_itemD (Draws.tuple (show X.A.in1.handled = none from I.ok.hd hc) it a hai its.toArray) he ⟨hit, p⟩ (by have := (List.getElem?_eq_some_iff.mp hu).1; simpa using this) hne (by simp [hne, Ne.symm hae]) fun u' h' tk hp' ho hit' hT hsz hk => ?_
    have hp' : its.toArray[i]? = some u' := hp'
    have eu : u' = u := by
      have : its[i]? = some u' := by simpa using hp'
      rw [hu] at this; cases this; rfl
    subst eu
    refine ⟨_, rfl, wpAny_letOwnedTupleGo_enum (s := { s with heap := h', toks := tk + 1 }) ho fun h'' he' sb => ?_⟩
    have hT2 : h''.get? s.heap.objs.size = some { cls := .type "tuple", data := .seq #[.int i tk, u'] } := (sb.2 _ (Nat.ne_of_gt hel)).trans hT
    have new : ObjOk X.prog X.w (upd H s.heap.objs.size (.tup [.int (i : Nat), x])) h'' s.heap.objs.size (.tup [.int (i : Nat), x]) :=
      ⟨by show 2 ≤ sizeLine; decide, [.int i tk, u'], .cons ⟨_, rfl⟩ (.cons ru .nil), ⟨_, hT2, rfl, _, rfl⟩⟩
    have I1 : Inv X pins σ (upd H s.heap.objs.size (.tup [.int (i : Nat), x])) { s with heap := h'', toks := tk + 1 } :=
      I.turnedNew (ch := [e, it]) (fun b ob hb q => (sb.2 b (fun z => hb (by simp [z]))).trans (hk b ob (fun z => hb (by simp [z])) (fun z => hb (by simp [z])) q)) hf (Nat.le_refl _) new
    obtain ⟨⟨o3, q3, r3⟩, _⟩ := hit'
    refine ⟨.ref s.heap.objs.size, _, I1, rfl, ⟨_, x, rfl, I.hok.fresh (Nat.le_refl _), rfl, fun ys hy => by rw [tup_inj I hy hq]; exact hx⟩, ⟨⟨u', ?_⟩, ⟨o3, (sb.2 it (Ne.symm hne)).trans q3, r3⟩, hne⟩, fun b hb => ?_⟩
    · have e1 : ((i + 1 : Nat) : Int) = (i : Int) + 1 := by omega
      rw [e1]; exact he'
    · have hb' : b < s.heap.objs.size := by
        have e' : b = e ∨ b = it := by simpa using hb
        rcases e' with z | z
        · rw [z]; exact hel
        · rw [z]; exact hil
      rw [upd_ne (Nat.ne_of_lt hb')]
      exact (hf b hb).1
  done := by
    intro X hP hw hK hc i pins s σ H E I hf st hg
    subst hP hw hK
    obtain ⟨⟨old, he⟩, hit, hne⟩ := st
    obtain ⟨xs, hq, hx⟩ := hg
    obtain ⟨its, rv, p, hz⟩ := I.tuple hq
    obtain ⟨f0, f1, f2, f3, f4, f5⟩ := hf it (by simp)
    have hl := rv.length
    have hai : a ≠ it := fun z => by
      obtain ⟨o1, q1, _, d1⟩ := hit
      obtain ⟨o2, q2, _, m, d2⟩ := p
      rw [z, q1] at q2; cases q2
      rw [d1] at d2; cases d2
    have hT : s.TypeIs (.ref e) "enumerate" := ⟨_, he, rfl⟩
    unfold pyNext
    refine wpAny_bind (wpAny_attempt (wpAny_callSpecial?_slot (name := Str.ofString "__next__") hT F.slot_enumerate_next
      (wpAny_call_entry F.slot_enumerate_next hT F.entry_enumerate_next ?_ (F.args_enumerate_next_1 _))))
    show wpAny _ _ (field (.ref e) 2 >>= _) _ _ _
    refine wpAny_bind (wpAny_field he rfl (x := .ref it) rfl ?_)
    refine wpAny_bind (wpAny_nextOf_tuple_end (show X.A.in1.handled = none from I.ok.hd hc) hit p (by simp; omega) fun h' x he' hx' => ?_)
    obtain ⟨o, ho, hc⟩ := hx'
    refine wpAny_bind (wpAny_isInstance (T := "StopIteration") (b := true) ⟨o, ho, hc⟩ isSubtype_stop ?_)
    exact wpAny_pure ⟨rfl, I.turned (t' := s.toks) (fun b o hb q => he' b o hb q) f0 f1 f3 f4 f5⟩
  self := fun A i s Q E st h => let ⟨⟨_, he⟩, _⟩ := st; wpAny_pyIter_enum he h
def iEnumT (K : PySem.W.Frag) (ta : TA) : TI := fun σ H R => ta σ H fun vs H1 => ∃ a xs, vs = [.ref a] ∧ SqT K H1 a xs ∧ R (IteT K a) H1
theorem pi_enumT {X : Cx} {e : Expr} {ta : TA} {p pos tpos : Pos} {elts : List Expr} {kk : Nat} (hg : Gl X "enumerate") (hm : X.mg "enumerate" = none) (ha : PA X [e] ta) (hs : starEach [e] X.env = [(false, eval e X.env)] := by rfl) :
    PI X (.Tuple elts kk tpos) (.Call (.Name "enumerate" p) [e] [] pos) (iEnumT X.K ta) := by
  refine ⟨fun pins s σ H R I h => ?_⟩
  refine Call_ (ld_blt I hg hm boot_enumerate (PyProof.Rows.callWith_type1 (thn (ha.run pos pins s σ H _ I h) fun us s1 ⟨vs, H1, I1, r1, q1⟩ => ?_) hs rfl))
  obtain ⟨a, xs, ex, hq, q⟩ := q1
  subst ex
  cases r1 with
  | cons r rr =>
    cases rr
    cases r
    obtain ⟨its, rv, p', hz⟩ := I1.tuple hq
    refine di_enum_call p' fun h' he hit hsz hk => wpAny_pyIter_enum he ?_
    have I2 : Inv X pins σ H1 { s1 with heap := h' } := I1.kept (t' := s1.toks) hk
    refine ⟨s1.heap.objs.size + 1, [s1.heap.objs.size + 1, s1.heap.objs.size], _, _, H1, rfl, I2, turn_enumT a (s1.heap.objs.size + 1) s1.heap.objs.size, ⟨⟨.none, he⟩, hit, Nat.succ_ne_self _⟩, fun b hb => ?_, q⟩
    have e' : b = s1.heap.objs.size + 1 ∨ b = s1.heap.objs.size := by simpa using hb
    have hle : s1.heap.objs.size ≤ b := by
      rcases e' with z | z
      · rw [z]; exact Nat.le_add_right _ _
      · rw [z]; exact Nat.le_refl _
    exact I1.fpOk hle (I1.hok.fresh hle)
end DI

namespace DI
open PySem L2

/-- a value: tuples, and lists that nobody writes, by what they hold; lists and dicts by their number in the store -/
inductive W where
  | non | bl (b : Bool) | int (i : Int) | str (x : Str) | tup (ws : List W) | ils (ws : List W) | ref (n : Nat)
  /-- a caught exception: without fields; with its dict, numbered n -/
  | adr (a : Addr) | exn (a d : Addr) (n : Nat)
/-- what stands in the store: a list, an empty dict, the fields of an exception, a dict whose keys are tuples -/
inductive Ob where
  | lst (ws : List W) | emp | xd (fs : List (Str × W)) | dct (kvs : List (W × W))
abbrev Sto := List Ob
abbrev Evn := List (Option W)

/-! a key: nothing, a number (True is 1), a text, a tuple of such -/
mutual
def nkW : W → Option NestedKey
  | .non => some .none
  | .bl b => some (.num (if b = true then 1 else 0))
  | .int i => some (.num i)
  | .str x => some (.text x)
  | .tup ws => (nkWs ws).map .tup
  | _ => none
def nkWs : List W → Option (List NestedKey)
  | [] => some []
  | w :: ws => match nkW w, nkWs ws with
    | some k, some ks => some (k :: ks)
    | _, _ => none
end
/-- the dict at a: its keys, where they stand, its values -/
def DctO (w0 : World) (a : Addr) (ys : List (NestedKey × Addr × Value)) : HO := .ext fun h => (a == sysModules) = false ∧ ∃ o es ep, h.get? a = some o ∧ o.ExactDict ∧ o.data = .dict es ep ∧ es.toList = ys.map (fun y => ⟨y.1.hash w0, .ref y.2.1, y.2.2⟩) ∧ (ys.map (·.1)).Nodup
/-- a list that nobody writes -/
def FzL (K : PySem.W.Frag) (H : Hp) (a : Addr) (xs : List V) : Prop := a ≠ sysModules ∧
  ((∃ o, H a = some (.frz o (.lst xs))) ∨ ∃ (o : Obj) (its : Array Value) (n : Nat), K.lookup a = some o ∧ o.cls = .type "list" ∧ o.dict = none ∧ o.data = .seq its n ∧ its.size ≤ sizeLine ∧ Vals xs its.toList)
theorem FzL.sq {K : PySem.W.Frag} {H : Hp} {a : Addr} {xs : List V} (h : FzL K H a xs) : SqL K H a xs := h.2.elim (fun ⟨o, h⟩ => .inl (.inr ⟨o, h⟩)) .inr
mutual
inductive Rep (K : PySem.W.Frag) (H : Hp) (ρ : List Addr) : W → V → Prop
  | non : Rep K H ρ .non .non
  | bl (b : Bool) : Rep K H ρ (.bl b) (.bl b)
  | int (i : Int) : Rep K H ρ (.int i) (.int i)
  | str (x : Str) : Rep K H ρ (.str x) (.str x)
  | tup {a : Addr} {xs : List V} {ws : List W} : SqT K H a xs → RepAll K H ρ ws xs → Rep K H ρ (.tup ws) (.ref a)
  | ils {a : Addr} {xs : List V} {ws : List W} : FzL K H a xs → RepAll K H ρ ws xs → Rep K H ρ (.ils ws) (.ref a)
  | ref {n : Nat} {a : Addr} : ρ[n]? = some a → Rep K H ρ (.ref n) (.ref a)
  | adr (a : Addr) : Rep K H ρ (.adr a) (.ref a)
  | exn {a d : Addr} {n : Nat} : ρ[n]? = some d → Rep K H ρ (.exn a d n) (.ref a)
inductive RepAll (K : PySem.W.Frag) (H : Hp) (ρ : List Addr) : List W → List V → Prop
  | nil : RepAll K H ρ [] []
  | cons {w : W} {ws : List W} {v : V} {vs : List V} : Rep K H ρ w v → RepAll K H ρ ws vs → RepAll K H ρ (w :: ws) (v :: vs)
end

def ObR (w0 : World) (K : PySem.W.Frag) (H : Hp) (ρ : List Addr) (a : Addr) : Ob → Prop
  | .lst ws => ∃ xs, H a = some (.lst xs) ∧ RepAll K H ρ ws xs
  | .emp => H a = some (.dK [])
  | .xd fs => ∃ us : List (Str × V), H a = some (.xd us) ∧ fs.map (·.1) = us.map (·.1) ∧ RepAll K H ρ (fs.map (·.2)) (us.map (·.2))
  | .dct kvs => ∃ (ys : List (NestedKey × Addr × Value)) (vs : List V), H a = some (DctO w0 a ys) ∧ kvs.map (fun p => nkW p.1) = ys.map (fun y => some y.1) ∧ (∀ y ∈ ys, y.1.depth ≤ 8) ∧ RepAll K H ρ (kvs.map (·.1)) (ys.map fun y => .ref y.2.1) ∧ RepAll K H ρ (kvs.map (·.2)) vs ∧ Vals vs (ys.map fun y => y.2.2)
theorem ObR.at {K : PySem.W.Frag} {H : Hp} {ρ : List Addr} {a : Addr} {o : Ob} (h : ObR w0 K H ρ a o) : ∃ u, H a = some u ∧ (∀ xs, u ≠ .tup xs) ∧ ∀ ob v, u ≠ .frz ob v := by
  cases o with
  | lst ws => obtain ⟨xs, e, _⟩ := h; exact ⟨_, e, fun _ z => (by cases z), fun _ _ z => (by cases z)⟩
  | emp => exact ⟨_, h, fun _ z => (by cases z), fun _ _ z => (by cases z)⟩
  | xd fs => obtain ⟨us, e, _⟩ := h; exact ⟨_, e, fun _ z => (by cases z), fun _ _ z => (by cases z)⟩
  | dct kvs => obtain ⟨ys, vs, e, _⟩ := h; exact ⟨_, e, fun _ z => (by cases z), fun _ _ z => (by cases z)⟩
structure HR (w0 : World) (K : PySem.W.Frag) (H : Hp) (ρ : List Addr) (st : Sto) : Prop where
  len : ρ.length = st.length
  nd : ρ.Nodup
  /-- the start-up table of modules: known, never written -/
  sm : ∃ o u, H sysModules = some (.frz o u)
  ob : ∀ (n : Nat) (a : Addr) (o : Ob), ρ[n]? = some a → st[n]? = some o → ObR w0 K H ρ a o
/-- what may have happened: new objects, changes of numbered ones -/
structure Ext (H : Hp) (ρ : List Addr) (H' : Hp) (ρ' : List Addr) : Prop where
  pre : ∃ l, ρ' = ρ ++ l
  keep : ∀ a o, H a = some o → a ∉ ρ → H' a = some o
  new : ∀ a, a ∈ ρ' → a ∈ ρ ∨ H a = none

section
variable {K : PySem.W.Frag} {H H1 H2 : Hp} {ρ ρ1 ρ2 : List Addr} {st st1 : Sto}
theorem Ext.refl (H : Hp) (ρ : List Addr) : Ext H ρ H ρ := ⟨⟨[], by simp⟩, fun _ _ h _ => h, fun _ h => .inl h⟩
theorem Ext.trans (a : Ext H ρ H1 ρ1) (b : Ext H1 ρ1 H2 ρ2) : Ext H ρ H2 ρ2 := by
  obtain ⟨⟨l, rfl⟩, ka, na⟩ := a
  obtain ⟨⟨m, rfl⟩, kb, nb⟩ := b
  refine ⟨⟨l ++ m, by simp⟩, fun x o h hx => kb x o (ka x o h hx) fun z => ?_, fun x hx => ?_⟩
  · rcases na x z with z | z
    · exact hx z
    · rw [h] at z; cases z
  · rcases nb x hx with z | z
    · exact na x z
    · cases e : H x with
      | none => exact .inr rfl
      | some o =>
        by_cases hm : x ∈ ρ
        · exact .inl hm
        · rw [ka x o e hm] at z; cases z
theorem Ext.at (e : Ext H ρ H1 ρ1) {n : Nat} {a : Addr} (h : ρ[n]? = some a) : ρ1[n]? = some a := by
  obtain ⟨⟨l, rfl⟩, _, _⟩ := e
  rw [List.getElem?_append_left (List.getElem?_eq_some_iff.mp h).1]
  exact h
theorem HR.is (R : HR w0 K H ρ st) {a : Addr} (ha : a ∈ ρ) : ∃ u, H a = some u ∧ (∀ xs, u ≠ .tup xs) ∧ ∀ ob v, u ≠ .frz ob v := by
  obtain ⟨n, hn⟩ := List.mem_iff_getElem?.mp ha
  have hl : n < st.length := by rw [← R.len]; exact (List.getElem?_eq_some_iff.mp hn).1
  exact (R.ob n a st[n] hn (by simp [hl])).at
theorem HR.notup (R : HR w0 K H ρ st) {a : Addr} {xs : List V} (h : Rd H a (.tup xs)) : a ∉ ρ := by
  intro ha
  obtain ⟨u, e, n1, n2⟩ := R.is ha
  rcases h with h | ⟨o, h⟩
  · rw [e] at h; cases h; exact n1 _ rfl
  · rw [e] at h; cases h; exact n2 _ _ rfl
theorem HR.nofrz (R : HR w0 K H ρ st) {a : Addr} {o : Obj} {u : HO} (h : H a = some (.frz o u)) : a ∉ ρ := by
  intro ha
  obtain ⟨u, e, n1, n2⟩ := R.is ha
  rw [e] at h; cases h; exact n2 _ _ rfl
theorem HR.nosm (R : HR w0 K H ρ st) : sysModules ∉ ρ := let ⟨_, _, h⟩ := R.sm; R.nofrz h
theorem HR.smNe (R : HR w0 K H ρ st) {p : Addr} (h : H p = none) : sysModules ≠ p := fun z => by
  obtain ⟨o, u, e⟩ := R.sm
  rw [z, h] at e; cases e
theorem FzL.mono (R : HR w0 K H ρ st) (e : Ext H ρ H1 ρ1) {a : Addr} {xs : List V} (h : FzL K H a xs) : FzL K H1 a xs := by
  refine ⟨h.1, ?_⟩
  rcases h.2 with ⟨o, h⟩ | h
  · exact .inl ⟨o, e.keep _ _ h (R.nofrz h)⟩
  · exact .inr h
theorem SqT.mono (R : HR w0 K H ρ st) (e : Ext H ρ H1 ρ1) {a : Addr} {xs : List V} (h : SqT K H a xs) : SqT K H1 a xs := by
  rcases h with h | h
  · have hn := R.notup h
    rcases h with h | ⟨o, h⟩
    · exact .inl (.inl (e.keep _ _ h hn))
    · exact .inl (.inr ⟨o, e.keep _ _ h hn⟩)
  · exact .inr h
mutual
theorem Rep.mono (R : HR w0 K H ρ st) (e : Ext H ρ H1 ρ1) : ∀ {w : W} {v : V}, Rep K H ρ w v → Rep K H1 ρ1 w v
  | _, _, .non => .non
  | _, _, .bl b => .bl b
  | _, _, .int i => .int i
  | _, _, .str x => .str x
  | _, _, .tup h hs => .tup (SqT.mono R e h) (RepAll.mono R e hs)
  | _, _, .ils h hs => .ils (FzL.mono R e h) (RepAll.mono R e hs)
  | _, _, .ref h => .ref (e.at h)
  | _, _, .adr a => .adr a
  | _, _, .exn h => .exn (e.at h)
theorem RepAll.mono (R : HR w0 K H ρ st) (e : Ext H ρ H1 ρ1) : ∀ {ws : List W} {vs : List V}, RepAll K H ρ ws vs → RepAll K H1 ρ1 ws vs
  | _, _, .nil => .nil
  | _, _, .cons h hs => .cons (Rep.mono R e h) (RepAll.mono R e hs)
end
theorem RepAll.length : ∀ {ws : List W} {vs : List V}, RepAll K H ρ ws vs → ws.length = vs.length
  | _, _, .nil => rfl
  | _, _, .cons _ h => by simp [RepAll.length h]
theorem RepAll.get : ∀ {ws : List W} {vs : List V} {i : Nat} {w : W}, RepAll K H ρ ws vs → ws[i]? = some w → ∃ v, vs[i]? = some v ∧ Rep K H ρ w v
  | _, _, _, _, .nil, e => by simp at e
  | _, _, 0, _, .cons r _, e => by simp at e; subst e; exact ⟨_, rfl, r⟩
  | _, _, i + 1, w, .cons _ t, e => by
    obtain ⟨u, h1, h2⟩ := RepAll.get (i := i) (w := w) t (by simpa using e)
    exact ⟨u, by simpa using h1, h2⟩
theorem RepAll.getV : ∀ {ws : List W} {vs : List V} {i : Nat} {v : V}, RepAll K H ρ ws vs → vs[i]? = some v → ∃ w, ws[i]? = some w ∧ Rep K H ρ w v
  | _, _, _, _, .nil, e => by simp at e
  | _, _, 0, _, .cons r _, e => by simp at e; subst e; exact ⟨_, rfl, r⟩
  | _, _, i + 1, v, .cons _ t, e => by
    obtain ⟨u, h1, h2⟩ := RepAll.getV (i := i) (v := v) t (by simpa using e)
    exact ⟨u, by simpa using h1, h2⟩
theorem RepAll.append : ∀ {ws us : List W} {vs xs : List V}, RepAll K H ρ ws vs → RepAll K H ρ us xs → RepAll K H ρ (ws ++ us) (vs ++ xs)
  | _, _, _, _, .nil, s => s
  | _, _, _, _, .cons r t, s => .cons r (RepAll.append t s)
theorem RepAll.take : ∀ {ws : List W} {vs : List V} (n : Nat), RepAll K H ρ ws vs → RepAll K H ρ (ws.take n) (vs.take n)
  | _, _, 0, _ => .nil
  | _, _, _ + 1, .nil => .nil
  | _, _, n + 1, .cons r t => .cons r (RepAll.take n t)
theorem RepAll.drop : ∀ {ws : List W} {vs : List V} (n : Nat), RepAll K H ρ ws vs → RepAll K H ρ (ws.drop n) (vs.drop n)
  | _, _, 0, r => r
  | _, _, _ + 1, .nil => .nil
  | _, _, n + 1, .cons _ t => RepAll.drop n t
theorem RepAll.set {w : W} {v : V} (r : Rep K H ρ w v) : ∀ {ws : List W} {vs : List V} (n : Nat), RepAll K H ρ ws vs → RepAll K H ρ (ws.set n w) (vs.set n v)
  | _, _, _, .nil => .nil
  | _, _, 0, .cons _ t => .cons r t
  | _, _, n + 1, .cons q t => .cons q (RepAll.set r n t)

/-- a new numbered object -/
theorem Ext.alloc {p : Addr} {o : HO} (h : H p = none) : Ext H ρ (upd H p o) (ρ ++ [p]) :=
  ⟨⟨[p], rfl⟩, fun a u e _ => by rw [upd_ne (ne_of_none e h)]; exact e, fun a ha => by
    rcases List.mem_append.mp ha with z | z
    · exact .inl z
    · rw [List.mem_singleton.mp z]; exact .inr h⟩
/-- a new tuple -/
theorem Ext.tup {p : Addr} {o : HO} (h : H p = none) : Ext H ρ (upd H p o) ρ :=
  ⟨⟨[], by simp⟩, fun a u e _ => by rw [upd_ne (ne_of_none e h)]; exact e, fun a ha => .inl ha⟩
/-- a numbered one changes -/
theorem Ext.mut {p : Addr} {o : HO} (h : p ∈ ρ) : Ext H ρ (upd H p o) ρ :=
  ⟨⟨[], by simp⟩, fun a u e ha => by rw [upd_ne (fun z : a = p => ha (by rw [z]; exact h))]; exact e, fun a ha => .inl ha⟩
theorem HR.has (R : HR w0 K H ρ st) {a : Addr} (ha : a ∈ ρ) : ∃ u, H a = some u := let ⟨u, e, _⟩ := R.is ha; ⟨u, e⟩
theorem HR.fresh (R : HR w0 K H ρ st) {p : Addr} (h : H p = none) : p ∉ ρ := fun z => by
  obtain ⟨u, e⟩ := R.has z
  rw [h] at e; cases e
theorem ObR.mono (R : HR w0 K H ρ st) (e : Ext H ρ H1 ρ1) {a : Addr} (ha : H1 a = H a) {o : Ob} (h : ObR w0 K H ρ a o) : ObR w0 K H1 ρ1 a o := by
  cases o with
  | lst ws => obtain ⟨xs, h1, h2⟩ := h; exact ⟨xs, by rw [ha]; exact h1, h2.mono R e⟩
  | emp => show H1 a = _; rw [ha]; exact h
  | xd fs => obtain ⟨us, h1, h2, h3⟩ := h; exact ⟨us, by rw [ha]; exact h1, h2, h3.mono R e⟩
  | dct kvs => obtain ⟨ys, vs, h1, h2, h3, h4, h5, h6⟩ := h; exact ⟨ys, vs, by rw [ha]; exact h1, h2, h3, h4.mono R e, h5.mono R e, h6⟩
/-- nothing numbered changes (a tuple is made) -/
theorem HR.tup (R : HR w0 K H ρ st) {p : Addr} {o : HO} (h : H p = none) : HR w0 K (upd H p o) ρ st :=
  ⟨R.len, R.nd, by rw [upd_ne (R.smNe h)]; exact R.sm, fun n a u hn hs => (R.ob n a u hn hs).mono R (Ext.tup h) (upd_ne fun z => R.fresh h (z ▸ List.mem_of_getElem? hn))⟩
/-- a new numbered object -/
theorem HR.new (R : HR w0 K H ρ st) {p : Addr} {v : HO} {o : Ob} (h : H p = none) (r : ObR w0 K (upd H p v) (ρ ++ [p]) p o) : HR w0 K (upd H p v) (ρ ++ [p]) (st ++ [o]) := by
  have hp := R.fresh h
  refine ⟨by simp [R.len], ?_, by rw [upd_ne (R.smNe h)]; exact R.sm, fun n a u hn hs => ?_⟩
  · rw [List.nodup_append]
    exact ⟨R.nd, by simp, fun a ha b hb => by rw [List.mem_singleton.mp hb]; rintro rfl; exact hp ha⟩
  · by_cases hl : n < ρ.length
    · rw [List.getElem?_append_left hl] at hn
      rw [List.getElem?_append_left (by rw [← R.len]; exact hl)] at hs
      exact (R.ob n a u hn hs).mono R (Ext.alloc h) (upd_ne fun z => hp (z ▸ List.mem_of_getElem? hn))
    · rw [List.getElem?_append_right (by omega)] at hn
      rw [List.getElem?_append_right (by rw [← R.len]; omega)] at hs
      rw [R.len] at hn
      cases k : n - st.length with
      | zero =>
        rw [k] at hn hs
        cases hn; cases hs
        exact r
      | succ j => rw [k] at hn; simp at hn
theorem HR.lst (R : HR w0 K H ρ st) {p : Addr} {ws : List W} {xs : List V} (h : H p = none) (r : RepAll K H ρ ws xs) : HR w0 K (upd H p (.lst xs)) (ρ ++ [p]) (st ++ [.lst ws]) :=
  R.new h ⟨xs, upd_same, r.mono R (Ext.alloc h)⟩
theorem HR.emp (R : HR w0 K H ρ st) {p : Addr} (h : H p = none) : HR w0 K (upd H p (.dK [])) (ρ ++ [p]) (st ++ [.emp]) := R.new h upd_same
theorem HR.xd (R : HR w0 K H ρ st) {p : Addr} {fs : List (Str × W)} {us : List (Str × V)} (h : H p = none) (e : fs.map (·.1) = us.map (·.1)) (r : RepAll K H ρ (fs.map (·.2)) (us.map (·.2))) : HR w0 K (upd H p (.xd us)) (ρ ++ [p]) (st ++ [.xd fs]) :=
  R.new h ⟨us, upd_same, e, r.mono R (Ext.alloc h)⟩
/-- a numbered object is stored anew -/
theorem HR.putO (R : HR w0 K H ρ st) {p : Addr} {n : Nat} {v : HO} {o : Ob} (h : ρ[n]? = some p) (r : ObR w0 K (upd H p v) ρ p o) : HR w0 K (upd H p v) ρ (st.set n o) := by
  have hp := List.mem_of_getElem? h
  refine ⟨by simp [R.len], R.nd, by rw [upd_ne (fun z : sysModules = p => R.nosm (by rw [z]; exact hp))]; exact R.sm, fun m a u hn hs => ?_⟩
  by_cases e : m = n
  · subst e
    rw [h] at hn
    cases hn
    rw [List.getElem?_set_self (by rw [← R.len]; exact (List.getElem?_eq_some_iff.mp h).1)] at hs
    cases hs
    exact r
  · rw [List.getElem?_set_ne (fun z => e z.symm)] at hs
    refine (R.ob m a u hn hs).mono R (Ext.mut hp) (upd_ne fun z => e ?_)
    subst z
    obtain ⟨i1, e1⟩ := List.getElem?_eq_some_iff.mp hn
    obtain ⟨i2, e2⟩ := List.getElem?_eq_some_iff.mp h
    exact (List.getElem_inj R.nd).mp (e1.trans e2.symm)
theorem HR.put (R : HR w0 K H ρ st) {p : Addr} {n : Nat} {ws : List W} {xs : List V} (h : ρ[n]? = some p) (r : RepAll K H ρ ws xs) : HR w0 K (upd H p (.lst xs)) ρ (st.set n (.lst ws)) :=
  R.putO h ⟨xs, upd_same, r.mono R (Ext.mut (List.mem_of_getElem? h))⟩
end
end DI

namespace DI
open PySem L2

/-- an exception: its class by name, its dict by number -/
structure Xc where
  cls : Str
  dict : Option Nat
inductive R (α : Type) where | ok (a : α) | exc (x : Xc)
abbrev Out (α : Type) := Option (R α × Sto)
def bnd {α β : Type} (o : Out α) (k : α → Sto → Out β) : Out β := match o with
  | some (.ok a, st) => k a st
  | some (.exc x, st) => some (.exc x, st)
  | none => none
theorem bnd_ok {α β : Type} {a : α} {st : Sto} {k : α → Sto → Out β} : bnd (some (.ok a, st)) k = k a st := rfl
def ret {α : Type} (a : α) (st : Sto) : Out α := some (.ok a, st)
abbrev FE := Evn → Sto → Out W
abbrev FT := Evn → Sto → Out Bool
abbrev FA := Evn → Sto → Out (List W)
abbrev XR := Xc → Value → Option Addr → Hp → List Addr → Prop
abbrev WX := Value → Option Addr → L2.St → Hp → Prop

def EnvR (K : PySem.W.Frag) (H : Hp) (ρ : List Addr) (env : Evn) (σ : L2.St) : Prop :=
  env.length = σ.length ∧ ∀ (i : Nat) (w : W), env[i]? = some (some w) → ∃ v, σ[i]? = some (some v) ∧ Rep K H ρ w v
theorem EnvR.mono {K : PySem.W.Frag} {H H1 : Hp} {ρ ρ1 : List Addr} {st : Sto} {env : Evn} {σ : L2.St} (R : HR w0 K H ρ st) (e : Ext H ρ H1 ρ1) (h : EnvR K H ρ env σ) : EnvR K H1 ρ1 env σ :=
  ⟨h.1, fun i w q => let ⟨v, a, b⟩ := h.2 i w q; ⟨v, a, b.mono R e⟩⟩
theorem EnvR.set {K : PySem.W.Frag} {H : Hp} {ρ : List Addr} {env : Evn} {σ : L2.St} {w : W} {v : V} (h : EnvR K H ρ env σ) (r : Rep K H ρ w v) (i : Nat) : EnvR K H ρ (env.set i (some w)) (σ.set i (some v)) := by
  refine ⟨by simp [h.1], fun j u q => ?_⟩
  by_cases e : i = j
  · subst e
    by_cases hl : i < env.length
    · rw [List.getElem?_set_self hl] at q
      cases q
      exact ⟨v, List.getElem?_set_self (by rw [← h.1]; exact hl), r⟩
    · rw [List.getElem?_eq_none (by simpa using Nat.le_of_not_lt hl)] at q
      cases q
  · rw [List.getElem?_set_ne e] at q
    rw [List.getElem?_set_ne e]
    exact h.2 j u q

/-- what is related to what, and stays so -/
abbrev Rl (α β : Type) := Hp → List Addr → α → β → Prop
def Mono (w0 : World) (K : PySem.W.Frag) {α β : Type} (r : Rl α β) : Prop := ∀ (H H1 : Hp) (ρ ρ1 : List Addr) (st : Sto) (a : α) (b : β), HR w0 K H ρ st → Ext H ρ H1 ρ1 → r H ρ a b → r H1 ρ1 a b
def rB : Rl Bool Bool := fun _ _ a b => a = b
theorem mono_rep {K : PySem.W.Frag} : Mono w0 K (Rep K) := fun _ _ _ _ _ _ _ R e h => h.mono R e
theorem mono_all {K : PySem.W.Frag} : Mono w0 K (RepAll K) := fun _ _ _ _ _ _ _ R e h => h.mono R e
theorem mono_b {K : PySem.W.Frag} : Mono w0 K rB := fun _ _ _ _ _ _ _ _ _ h => h

section
variable {K : PySem.W.Frag} {EX : XR} {U : WX} {α β γ δ ε ζ : Type}
def Post (w0 : World) (K : PySem.W.Frag) (EX : XR) (U : WX) (rl : Rl α β) (σ : L2.St) (H : Hp) (ρ : List Addr) (r : R α) (st' : Sto) (Q : β → Hp → Prop) : Prop := match r with
  | .ok a => ∀ b H' ρ', Ext H ρ H' ρ' → HR w0 K H' ρ' st' → rl H' ρ' a b → Q b H'
  | .exc x => ∀ cls d H' ρ', Ext H ρ H' ρ' → HR w0 K H' ρ' st' → EX x cls d H' ρ' → U cls d σ H'
def tG (w0 : World) (K : PySem.W.Frag) (EX : XR) (U : WX) (rl : Rl α β) (f : Evn → Sto → Out α) (σ : L2.St) (H : Hp) (Q : β → Hp → Prop) : Prop :=
  ∃ ρ env st r st', HR w0 K H ρ st ∧ EnvR K H ρ env σ ∧ f env st = some (r, st') ∧ Post w0 K EX U rl σ H ρ r st' Q
/-- with a value at hand -/
def tK (w0 : World) (K : PySem.W.Frag) (EX : XR) (U : WX) (r1 : Rl γ δ) (rl : Rl α β) (f : Evn → γ → Sto → Out α) (x : δ) (σ : L2.St) (H : Hp) (Q : β → Hp → Prop) : Prop :=
  ∃ ρ env st c r st', HR w0 K H ρ st ∧ EnvR K H ρ env σ ∧ r1 H ρ c x ∧ f env c st = some (r, st') ∧ Post w0 K EX U rl σ H ρ r st' Q
theorem Post.ext {rl : Rl α β} {σ : L2.St} {H H1 : Hp} {ρ ρ1 : List Addr} {r : R α} {st' : Sto} {Q : β → Hp → Prop} (e : Ext H ρ H1 ρ1) (p : Post w0 K EX U rl σ H ρ r st' Q) : Post w0 K EX U rl σ H1 ρ1 r st' Q := by
  cases r with
  | ok a => exact fun b H' ρ' e' R q => p b H' ρ' (e.trans e') R q
  | exc x => exact fun c d H' ρ' e' R q => p c d H' ρ' (e.trans e') R q
theorem tG_bind {r1 : Rl γ δ} {rl : Rl α β} {f : Evn → Sto → Out γ} {g : Evn → γ → Sto → Out α} {σ : L2.St} {H : Hp} {Q : β → Hp → Prop}
    (h : tG w0 K EX U rl (fun env st => bnd (f env st) (g env)) σ H Q) : tG w0 K EX U r1 f σ H (fun x H1 => tK w0 K EX U r1 rl g x σ H1 Q) := by
  obtain ⟨ρ, env, st, r, st', R, E, e, p⟩ := h
  cases q : f env st with
  | none => simp only [q] at e; cases e
  | some o =>
    obtain ⟨ro, s1⟩ := o
    simp only [q] at e
    cases ro with
    | ok a => exact ⟨ρ, env, st, .ok a, s1, R, E, q, fun x H1 ρ1 e1 R1 rx => ⟨ρ1, env, s1, a, r, st', R1, E.mono R e1, rx, e, p.ext e1⟩⟩
    | exc x =>
      cases e
      exact ⟨ρ, env, st, .exc x, st', R, E, q, p⟩
theorem tK_bind {r0 : Rl ε ζ} {r1 : Rl γ δ} {rl : Rl α β} {f : Evn → ε → Sto → Out γ} {g : Evn → ε → γ → Sto → Out α} {x : ζ} {σ : L2.St} {H : Hp} {Q : β → Hp → Prop} (m : Mono w0 K r0)
    (h : tK w0 K EX U r0 rl (fun env c st => bnd (f env c st) (g env c)) x σ H Q) : tK w0 K EX U r0 r1 f x σ H (fun y H1 => tK w0 K EX U (fun H ρ (p : ε × γ) (q : ζ × δ) => r0 H ρ p.1 q.1 ∧ r1 H ρ p.2 q.2) rl (fun env p st => g env p.1 p.2 st) (x, y) σ H1 Q) := by
  obtain ⟨ρ, env, st, c, r, st', R, E, r0x, e, p⟩ := h
  cases q : f env c st with
  | none => simp only [q] at e; cases e
  | some o =>
    obtain ⟨ro, s1⟩ := o
    simp only [q] at e
    cases ro with
    | ok a => exact ⟨ρ, env, st, c, .ok a, s1, R, E, r0x, q, fun y H1 ρ1 e1 R1 ry => ⟨ρ1, env, s1, (c, a), r, st', R1, E.mono R e1, ⟨m _ _ _ _ _ _ _ R e1 r0x, ry⟩, e, p.ext e1⟩⟩
    | exc x =>
      cases e
      exact ⟨ρ, env, st, c, .exc x, st', R, E, r0x, q, p⟩
/-- what does not look at the value at hand -/
theorem tK_tG {r1 : Rl γ δ} {rl : Rl α β} {f : Evn → Sto → Out α} {x : δ} {σ : L2.St} {H : Hp} {Q : β → Hp → Prop} (h : tK w0 K EX U r1 rl (fun env _ st => f env st) x σ H Q) : tG w0 K EX U rl f σ H Q := by
  obtain ⟨ρ, env, st, c, r, st', R, E, _, e, p⟩ := h
  exact ⟨ρ, env, st, r, st', R, E, e, p⟩
theorem tG.imp {rl : Rl α β} {f : Evn → Sto → Out α} {σ : L2.St} {H : Hp} {Q Q' : β → Hp → Prop} (h : tG w0 K EX U rl f σ H Q) (w : ∀ b H', Q b H' → Q' b H') : tG w0 K EX U rl f σ H Q' := by
  obtain ⟨ρ, env, st, r, st', R, E, e, p⟩ := h
  refine ⟨ρ, env, st, r, st', R, E, e, ?_⟩
  cases r with
  | ok a => exact fun b H' ρ' e' R' q => w _ _ (p b H' ρ' e' R' q)
  | exc x => exact p
end

/-! ### the judgements -/
abbrev tI (w0 : World) (K : PySem.W.Frag) (EX : XR) (U : WX) (f : FE) : TE := tG w0 K EX U (Rep K) f
abbrev tA (w0 : World) (K : PySem.W.Frag) (EX : XR) (U : WX) (f : FA) : TA := tG w0 K EX U (RepAll K) f
abbrev tT (w0 : World) (K : PySem.W.Frag) (EX : XR) (U : WX) (f : FT) : TT := tG w0 K EX U rB f
abbrev PD (X : Cx) (EX : XR) (U : WX) (e : Expr) (f : FE) : Prop := PE X e (tI X.w X.K EX U f)
abbrev PDA (X : Cx) (EX : XR) (U : WX) (es : List Expr) (f : FA) : Prop := PA X es (tA X.w X.K EX U f)
abbrev PDT (X : Cx) (EX : XR) (U : WX) (e : Expr) (f : FT) : Prop := PT X e (tT X.w X.K EX U f)
abbrev PDW (X : Cx) (EX : XR) (U : WX) (e : Expr) (f : FT) : Prop := PW X e (tT X.w X.K EX U f)
theorem _root_.L2.PE.imp {X : Cx} {e : Expr} {t t' : TE} (h : PE X e t) (w : ∀ σ H Q, t' σ H Q → t σ H Q) : PE X e t' := ⟨fun pins s σ H Q I q => h.run pins s σ H Q I (w σ H Q q)⟩
theorem _root_.L2.PT.imp {X : Cx} {e : Expr} {t t' : TT} (h : PT X e t) (w : ∀ σ H Q, t' σ H Q → t σ H Q) : PT X e t' := ⟨fun pins s σ H Q I q => h.run pins s σ H Q I (w σ H Q q)⟩
theorem _root_.L2.PW.imp {X : Cx} {e : Expr} {t t' : TT} (h : PW X e t) (w : ∀ σ H Q, t' σ H Q → t σ H Q) : PW X e t' := ⟨fun wh pins s σ H Q I q => h.run wh pins s σ H Q I (w σ H Q q)⟩
theorem _root_.L2.PA.imp {X : Cx} {es : List Expr} {t t' : TA} (h : PA X es t) (w : ∀ σ H Q, t' σ H Q → t σ H Q) : PA X es t' := ⟨fun pos pins s σ H Q I q => h.run pos pins s σ H Q I (w σ H Q q)⟩
theorem _root_.L2.PS.imp {X : Cx} {e : Stmt} {t t' : TS} (h : PS X e t) (w : ∀ D σ H, t' D σ H → t D σ H) : PS X e t' := ⟨fun pins s σ H D I q => h.run pins s σ H D I (w D σ H q)⟩
theorem _root_.L2.PSs.imp {X : Cx} {e : List Stmt} {t t' : TS} (h : PSs X e t) (w : ∀ D σ H, t' D σ H → t D σ H) : PSs X e t' := ⟨fun pins s σ H D I q => h.run pins s σ H D I (w D σ H q)⟩

section
variable {X : Cx} {EX : XR} {U : WX} {a b c : Expr} {pos : Pos}
def fVar (i : Nat) : FE := fun env st => match env[i]? with
  | some (some w) => ret w st
  | _ => none
theorem pd_var (i : Nat) {x : Str} (hN : X.N[i]? = some x := by rfl) (hv : Vis X.env.scope x := by first | exact Or.inl rfl | exact Or.inr (Or.inl rfl) | exact Or.inr (Or.inr rfl)) (hd : (x == ("__debug__" : Str)) = false := by decide)
    (hcd : (x == ("__classdict__" : Str)) = false := by decide) : PD X EX U (.Name x pos) (fVar i) := by
  refine (pe_var hN hv hd hcd).imp fun σ H Q ⟨ρ, env, st, r, st', R, E, e, p⟩ => ?_
  unfold fVar at e
  split at e
  · rename_i w hw
    cases e
    obtain ⟨v, h1, h2⟩ := E.2 i w hw
    exact ⟨v, h1, p v H ρ (Ext.refl _ _) R h2⟩
  · cases e
def fC (w : W) : FE := fun _ st => ret w st
theorem pd_c {e : Expr} {w : W} {v : V} (h : PE X e (tC v)) (r : ∀ H ρ, Rep X.K H ρ w v) : PD X EX U e (fC w) := by
  refine h.imp fun σ H Q ⟨ρ, env, st, r', st', R, E, e, p⟩ => ?_
  cases e
  exact p v H ρ (Ext.refl _ _) R (r H ρ)
theorem pd_int {i j} : PD X EX U (.Constant (.int i) j pos) (fC (.int i)) := pd_c pe_int fun _ _ => .int i
theorem pd_str {i j} : PD X EX U (.Constant (.str i) j pos) (fC (.str i)) := pd_c pe_str fun _ _ => .str i
theorem pd_bl {i j} : PD X EX U (.Constant (.bool i) j pos) (fC (.bl i)) := pd_c pe_bl fun _ _ => .bl i
theorem pd_non {j} : PD X EX U (.Constant .none j pos) (fC .non) := pd_c pe_non fun _ _ => .non
theorem pd_glob {x : Str} {w : W} {v : V} {u : Value} (hg : Gl X x) (hm : X.mg x = some u) (r : RelV v u) (h : ∀ H ρ, Rep X.K H ρ w v) (hd : (x == ("__debug__" : Str)) = false := by decide) : PD X EX U (.Name x pos) (fC w) := pd_c (pe_glob hg hm r hd) h

/-- an operation by values -/
abbrev O2 := W → W → Sto → Out W
def OPR (w0 : World) (K : PySem.W.Frag) (r : R2) (op : O2) : Prop := ∀ {x y : V} {H : Hp} {Q : VK} {ρ : List Addr} {st st' : Sto} {a b w : W}, HR w0 K H ρ st → Rep K H ρ a x → Rep K H ρ b y → op a b st = some (.ok w, st') →
  (∀ v H' ρ', Ext H ρ H' ρ' → HR w0 K H' ρ' st' → Rep K H' ρ' w v → Q v H') → r x y H Q
def NoX {α : Type} (o : Out α) : Prop := ∀ x st, o ≠ some (.exc x, st)
def fOp (op : O2) (fa fb : FE) : FE := fun env st => bnd (fa env st) fun a st => bnd (fb env st) fun b st => op a b st
theorem op_go {r : R2} {op : O2} {fa fb : FE} (hs : OPR X.w X.K r op) (hx : ∀ a b st, NoX (op a b st)) {σ : L2.St} {H : Hp} {Q : VK} (h : tI X.w X.K EX U (fOp op fa fb) σ H Q) : tOp r (tI X.w X.K EX U fa) (tI X.w X.K EX U fb) σ H Q := by
  refine (tG_bind (r1 := Rep X.K) (g := fun env a st => bnd (fb env st) fun b st => op a b st) h).imp fun x H1 h1 => ?_
  refine (tK_tG (tK_bind (r1 := Rep X.K) (f := fun env _ st => fb env st) (g := fun _ a b st => op a b st) mono_rep h1)).imp fun y H2 h2 => ?_
  obtain ⟨ρ, env, st, ⟨a, b⟩, r', st', R, E, ⟨ra, rb⟩, e, p⟩ := h2
  cases r' with
  | ok w => exact hs R ra rb e p
  | exc x => exact absurd e (hx _ _ _ _ _)
theorem pd_op {o : Operator} {r : R2} {op : O2} {fa fb : FE} (ho : OpR X (binaryOp o) r) (hs : OPR X.w X.K r op) (hx : ∀ a b st, NoX (op a b st)) (ha : PD X EX U a fa) (hb : PD X EX U b fb) : PD X EX U (.BinOp a o b pos) (fOp op fa fb) :=
  (pe_op ho ha hb).imp fun _ _ _ h => op_go hs hx h
theorem pd_cmp {o : CmpOp} {r : R2} {op : O2} {fa fb : FE} (ho : OpR X (compareOp o) r) (hs : OPR X.w X.K r op) (hx : ∀ a b st, NoX (op a b st)) (ha : PD X EX U a fa) (hb : PD X EX U b fb) (hm : behindInMarks o b = false) : PD X EX U (.Compare a [o] [b] pos) (fOp op fa fb) :=
  (pe_cmpR ho ha hb hm).imp fun _ _ _ h => op_go hs hx h
/-- or of two readings -/
def rOr (r r' : R2) : R2 := fun x y H Q => r x y H Q ∨ r' x y H Q
theorem op_or2 {f : Value → Value → Sem Value} {r r' : R2} (h : OpR X f r) (h' : OpR X f r') : OpR X f (rOr r r') := fun pins s σ H x y v u Q I rx ry q => q.elim (h pins s σ H x y v u Q I rx ry) (h' pins s σ H x y v u Q I rx ry)

/-! ### tests -/
def asB (w : W) (st : Sto) : Out Bool := match w with
  | .bl b => ret b st
  | _ => none
def fTest (f : FE) : FT := fun env st => bnd (f env st) asB
theorem test_go {f : FE} {σ : L2.St} {H : Hp} {Q : Bool → Hp → Prop} (h : tT X.w X.K EX U (fTest f) σ H Q) : tB (tI X.w X.K EX U f) σ H Q := by
  refine (tG_bind (r1 := Rep X.K) (g := fun _ w st => asB w st) h).imp fun x H1 h1 => ?_
  obtain ⟨ρ, env, st, w, r', st', R, E, rw', e, p⟩ := h1
  have e : asB w st = some (r', st') := e
  unfold asB at e
  split at e
  · cases e
    cases rw'
    exact ⟨_, rfl, p _ H1 ρ (Ext.refl _ _) R rfl⟩
  · cases e
theorem pdt_val {f : FE} (h : PD X EX U a f) (he : ∀ whole, isTrue a X.env whole = (do let v ← whole; standAt a.pos; holding [v] (truthy v)) := by intro _; rfl) : PDT X EX U a (fTest f) :=
  (pt_val h he).imp fun _ _ _ q => test_go q
theorem pdt_cmp {o : CmpOp} {r : R2} {op : O2} {fa fb : FE} (ho : OpR X (compareOp o) r) (hs : OPR X.w X.K r op) (hx : ∀ a b st, NoX (op a b st)) (ha : PD X EX U a fa) (hb : PD X EX U b fb) (hm : behindInMarks o b = false) : PDT X EX U (.Compare a [o] [b] pos) (fTest (fOp op fa fb)) := by
  refine (pt_cmpR ho ha hb hm).imp fun σ H Q h => ?_
  have h1 : tB (tI X.w X.K EX U (fOp op fa fb)) σ H Q := test_go h
  exact op_go hs hx h1
def fAndT (f g : FT) : FT := fun env st => bnd (f env st) fun b st => if b then g env st else ret false st
def fOrT (f g : FT) : FT := fun env st => bnd (f env st) fun b st => if b then ret true st else g env st
def fNotT (f : FT) : FT := fun env st => bnd (f env st) fun b st => ret (!b) st
theorem pdw_and1 {f : FT} (h : PDT X EX U a f) : PDW X EX U (.BoolOp .And [a] pos) f := pw_and1 h
theorem pdw_or1 {f : FT} (h : PDT X EX U a f) : PDW X EX U (.BoolOp .Or [a] pos) f := pw_or1 h
theorem pdw_and {rest : List Expr} {f g : FT} (ha : PDT X EX U a f) (hb : PDW X EX U (.BoolOp .And (b :: rest) pos) g) : PDW X EX U (.BoolOp .And (a :: b :: rest) pos) (fAndT f g) := by
  refine (pw_and ha hb).imp fun σ H Q h => ?_
  refine (tG_bind (r1 := rB) (g := fun env b st => if b then g env st else ret false st) h).imp fun x H1 h1 => ?_
  obtain ⟨ρ, env, st, w, r', st', R, E, rw', e, p⟩ := h1
  obtain rfl : w = x := rw'
  cases w with
  | true => exact ⟨ρ, env, st, r', st', R, E, e, p⟩
  | false =>
    cases e
    exact p _ H1 ρ (Ext.refl _ _) R rfl
theorem pdw_or {rest : List Expr} {f g : FT} (ha : PDT X EX U a f) (hb : PDW X EX U (.BoolOp .Or (b :: rest) pos) g) : PDW X EX U (.BoolOp .Or (a :: b :: rest) pos) (fOrT f g) := by
  refine (pw_or ha hb).imp fun σ H Q h => ?_
  refine (tG_bind (r1 := rB) (g := fun env b st => if b then ret true st else g env st) h).imp fun x H1 h1 => ?_
  obtain ⟨ρ, env, st, w, r', st', R, E, rw', e, p⟩ := h1
  obtain rfl : w = x := rw'
  cases w with
  | false => exact ⟨ρ, env, st, r', st', R, E, e, p⟩
  | true =>
    cases e
    exact p _ H1 ρ (Ext.refl _ _) R rfl
theorem pdt_not {f : FT} (h : PDT X EX U a f) : PDT X EX U (.UnaryOp .Not a pos) (fNotT f) := by
  refine (pt_not h).imp fun σ H Q h => ?_
  refine (tG_bind (r1 := rB) (g := fun env b st => ret (!b) st) h).imp fun x H1 h1 => ?_
  obtain ⟨ρ, env, st, w, r', st', R, E, rw', e, p⟩ := h1
  cases rw'
  cases e
  exact p _ H1 ρ (Ext.refl _ _) R rfl
/-- .. as values -/
def fAnd (f g : FE) : FE := fun env st => bnd (f env st) fun w st => bnd (asB w st) fun b st => if b then g env st else ret (.bl false) st
def fOr (f g : FE) : FE := fun env st => bnd (f env st) fun w st => bnd (asB w st) fun b st => if b then ret (.bl true) st else g env st
def fNot (f : FE) : FE := fun env st => bnd (f env st) fun w st => bnd (asB w st) fun b st => ret (.bl (!b)) st
theorem asB_some {w : W} {st : Sto} {β : Type} {k : Bool → Sto → Out β} {o : R β × Sto} (e : bnd (asB w st) k = some o) : ∃ b, w = .bl b ∧ k b st = some o := by
  unfold asB at e
  split at e
  · exact ⟨_, rfl, e⟩
  · cases e
theorem pd_one {op} {f : FE} (h : PD X EX U a f) : PD X EX U (.BoolOp op [a] pos) f := pe_one h
theorem pd_and {rest : List Expr} {f g : FE} (ha : PD X EX U a f) (hb : PD X EX U (.BoolOp .And (b :: rest) pos) g) : PD X EX U (.BoolOp .And (a :: b :: rest) pos) (fAnd f g) := by
  refine (pe_and ha hb).imp fun σ H Q h => ?_
  refine (tG_bind (r1 := Rep X.K) (g := fun env w st => bnd (asB w st) fun b st => if b then g env st else ret (.bl false) st) h).imp fun x H1 h1 => ?_
  obtain ⟨ρ, env, st, w, r', st', R, E, rw', e, p⟩ := h1
  obtain ⟨b, rfl, e⟩ := asB_some e
  cases rw'
  refine ⟨b, rfl, ?_⟩
  cases b with
  | true => exact ⟨ρ, env, st, r', st', R, E, e, p⟩
  | false =>
    cases e
    exact p _ H1 ρ (Ext.refl _ _) R (Rep.bl _)
theorem pd_or {rest : List Expr} {f g : FE} (ha : PD X EX U a f) (hb : PD X EX U (.BoolOp .Or (b :: rest) pos) g) : PD X EX U (.BoolOp .Or (a :: b :: rest) pos) (fOr f g) := by
  refine (pe_or ha hb).imp fun σ H Q h => ?_
  refine (tG_bind (r1 := Rep X.K) (g := fun env w st => bnd (asB w st) fun b st => if b then ret (.bl true) st else g env st) h).imp fun x H1 h1 => ?_
  obtain ⟨ρ, env, st, w, r', st', R, E, rw', e, p⟩ := h1
  obtain ⟨b, rfl, e⟩ := asB_some e
  cases rw'
  refine ⟨b, rfl, ?_⟩
  cases b with
  | false => exact ⟨ρ, env, st, r', st', R, E, e, p⟩
  | true =>
    cases e
    exact p _ H1 ρ (Ext.refl _ _) R (Rep.bl _)
theorem pd_not {f : FE} (h : PD X EX U a f) : PD X EX U (.UnaryOp .Not a pos) (fNot f) := by
  refine (pe_not h).imp fun σ H Q h => ?_
  refine (tG_bind (r1 := Rep X.K) (g := fun env w st => bnd (asB w st) fun b st => ret (W.bl (!b)) st) h).imp fun x H1 h1 => ?_
  obtain ⟨ρ, env, st, w, r', st', R, E, rw', e, p⟩ := h1
  obtain ⟨b, rfl, e⟩ := asB_some e
  cases rw'
  cases e
  exact ⟨b, rfl, p _ H1 ρ (Ext.refl _ _) R (Rep.bl _)⟩
def fIf (c : FT) (f g : FE) : FE := fun env st => bnd (c env st) fun b st => if b then f env st else g env st
theorem pd_if {fc : FT} {f g : FE} (hc : PDT X EX U c fc) (ha : PD X EX U a f) (hb : PD X EX U b g) : PD X EX U (.IfExp c a b pos) (fIf fc f g) := by
  refine (pe_ifExp hc ha hb).imp fun σ H Q h => ?_
  refine (tG_bind (r1 := rB) (g := fun env b st => if b then f env st else g env st) h).imp fun x H1 h1 => ?_
  obtain ⟨ρ, env, st, w, r', st', R, E, rw', e, p⟩ := h1
  obtain rfl : w = x := rw'
  cases w with
  | true => exact ⟨ρ, env, st, r', st', R, E, e, p⟩
  | false => exact ⟨ρ, env, st, r', st', R, E, e, p⟩

/-! ### arguments, displays -/
def fNil : FA := fun _ st => ret [] st
def fCons (f : FE) (g : FA) : FA := fun env st => bnd (f env st) fun w st => bnd (g env st) fun ws st => ret (w :: ws) st
theorem pda_nil : PDA X EX U [] fNil := pa_nil.imp fun σ H Q ⟨ρ, env, st, r, st', R, E, e, p⟩ => by
  cases e
  exact p _ H ρ (Ext.refl _ _) R .nil
theorem pda_cons {e : Expr} {es : List Expr} {f : FE} {g : FA} (he : PD X EX U e f) (hr : PDA X EX U es g) (hs : starEach (e :: es) X.env = (false, eval e X.env) :: starEach es X.env := by rfl) : PDA X EX U (e :: es) (fCons f g) := by
  refine (pa_cons he hr hs).imp fun σ H Q h => ?_
  refine (tG_bind (r1 := Rep X.K) (g := fun env w st => bnd (g env st) fun ws st => ret (w :: ws) st) h).imp fun x H1 h1 => ?_
  refine (tK_tG (tK_bind (r1 := RepAll X.K) (f := fun env _ st => g env st) (g := fun _ a b st => ret (a :: b) st) mono_rep h1)).imp fun y H2 h2 => ?_
  obtain ⟨ρ, env, st, ⟨a, b⟩, r', st', R, E, ⟨ra, rb⟩, e, p⟩ := h2
  cases e
  exact p _ H2 ρ (Ext.refl _ _) R (.cons ra rb)
def szW (n : Nat) : Bool := decide (n ≤ 1000000)
def fTup (f : FA) : FE := fun env st => bnd (f env st) fun ws st => if szW ws.length then ret (.tup ws) st else none
def newL (ws : List W) (st : Sto) : Out W := if szW ws.length then some (.ok (.ref st.length), st ++ [.lst ws]) else none
def fLst (f : FA) : FE := fun env st => bnd (f env st) fun ws st => newL ws st
theorem sz_ok {n : Nat} (h : szW n = true) : n ≤ sizeLine := Nat.le_trans (of_decide_eq_true h) (by decide)
theorem newL_some {ws : List W} {st : Sto} {o : R W × Sto} (e : newL ws st = some o) : szW ws.length = true ∧ o = (.ok (.ref st.length), st ++ [.lst ws]) := by
  unfold newL at e
  split at e
  · rename_i h; cases e; exact ⟨h, rfl⟩
  · cases e
theorem pd_tup {es : List Expr} {k} {f : FA} (h : PDA X EX U es f) : PD X EX U (.Tuple es k pos) (fTup f) := by
  refine (pe_tup h).imp fun σ H Q h => ?_
  refine (tG_bind (r1 := RepAll X.K) (g := fun env ws st => if szW ws.length then ret (W.tup ws) st else none) h).imp fun x H1 h1 => ?_
  obtain ⟨ρ, env, st, ws, r', st', R, E, rw', e, p⟩ := h1
  have e : (if szW ws.length then ret (W.tup ws) st else none) = some (r', st') := e
  split at e
  · rename_i hz
    cases e
    refine ⟨by rw [← rw'.length]; exact sz_ok hz, fun q hq => ?_⟩
    exact p _ _ ρ (Ext.tup hq) (R.tup hq) (.tup (SqT.of upd_same) (rw'.mono R (Ext.tup hq)))
  · cases e
theorem new_go {K : PySem.W.Frag} {ws : List W} {xs : List V} {st : Sto} {H : Hp} {ρ : List Addr} {Q : VK} {r' : R W} {st' : Sto} {σ : L2.St} (R : HR w0 K H ρ st) (rw' : RepAll K H ρ ws xs) (e : newL ws st = some (r', st')) (p : Post w0 K EX U (Rep K) σ H ρ r' st' Q) :
    xs.length ≤ sizeLine ∧ ∀ q, H q = none → Q (.ref q) (upd H q (.lst xs)) := by
  obtain ⟨hz, e⟩ := newL_some e
  cases e
  refine ⟨by rw [← rw'.length]; exact sz_ok hz, fun q hq => ?_⟩
  refine p _ _ (ρ ++ [q]) (Ext.alloc hq) (R.lst hq rw') (.ref ?_)
  rw [← R.len]
  simp
theorem pd_lst {es : List Expr} {f : FA} (h : PDA X EX U es f) : PD X EX U (.List es pos) (fLst f) := by
  refine (pe_lst h).imp fun σ H Q h => ?_
  refine (tG_bind (r1 := RepAll X.K) (g := fun env ws st => newL ws st) h).imp fun x H1 h1 => ?_
  obtain ⟨ρ, env, st, ws, r', st', R, E, rw', e, p⟩ := h1
  exact new_go R rw' e p
end
end DI

/-! == of an empty dict and anything flat or nested without dicts -/
namespace DI
open PySem PySem.SeqAt PySem.MeetsSeq PySem.W
open Sem (wp)
open AutoSeq1 (wpAny_loadPart')
section
variable {A : Around} {s : Shared}
theorem de_dict {prog : Program} {w : World} {E : Value → Shared → Prop} {a : Addr} {b : Value} {T : String} {Q : Value → Shared → Prop} (ha : s.TypeIs (.ref a) "dict") (hb : s.TypeIs b T) (hs : isSubtype (.type T) (.type "dict") = pure false) (h : Q .notImplemented s) :
    wpAny (model prog w) A (call (.builtin "dict.__eq__") [.ref a, b]) Q E s := by
  refine wpAny_call_entry PySem.F.slot_dict_eq ha PySem.F.entry_dict_eq ?_ (PySem.F.args_dict_eq_2 _ _)
  show wpAny _ _ (Builtin.Dict.dictSlotArgs "__eq__" ⟨[.ref a, b], []⟩ >>= _) _ _ s
  refine wpAny_bind ?_
  unfold Builtin.Dict.dictSlotArgs
  refine wpAny_bind (wpAny_notOrdered_dict ha ?_)
  show wpAny _ _ (pure (Value.ref a, b)) _ _ s
  refine wpAny_pure ?_
  refine wpAny_bind (wpAny_isInstance (T := T) hb hs ?_)
  simp only [Bool.not_false, if_true]
  exact wpAny_bind (wpAny_rule (wpAny_pure ⟨_, rfl, h⟩))
theorem de_int (i : Int) (u : Tok) (l : Addr) (o : Obj) (hc : o.cls = .type "dict") {es : Array DictEntry} {m : Nat} (hd : o.data = .dict es m) : Meets (Builtin.«int.__eq__» ⟨[.int i u, .ref l], []⟩) (fun _ R s => s.heap.get? l = some o ∧ R (.ok (.ret .notImplemented)) s) :=
  .of_wp fun prog w A R s h => by
    obtain ⟨hp, g, d, tk, os⟩ := s; obtain ⟨hl, h⟩ := h
    obtain ⟨c, dd, dt, sl⟩ := o
    replace hc : c = .type "dict" := hc
    replace hd : dt = .dict es m := hd
    subst hc hd
    have f1 := F.sub_dict_int
    wp_walk using wpAny_loadPart' hl
    exact ⟨_, rfl, h⟩
theorem de_bool (b : Bool) (l : Addr) (o : Obj) (hc : o.cls = .type "dict") {es : Array DictEntry} {m : Nat} (hd : o.data = .dict es m) : Meets (Builtin.«int.__eq__» ⟨[.bool b, .ref l], []⟩) (fun _ R s => s.heap.get? l = some o ∧ R (.ok (.ret .notImplemented)) s) :=
  .of_wp fun prog w A R s h => by
    obtain ⟨hp, g, d, tk, os⟩ := s; obtain ⟨hl, h⟩ := h
    obtain ⟨c, dd, dt, sl⟩ := o
    replace hc : c = .type "dict" := hc
    replace hd : dt = .dict es m := hd
    subst hc hd
    have f1 := F.sub_dict_int
    wp_walk using wpAny_loadPart' hl
    exact ⟨_, rfl, h⟩
theorem de_str (x : Str) (u : Tok) (l : Addr) (o : Obj) (hc : o.cls = .type "dict") {es : Array DictEntry} {m : Nat} (hd : o.data = .dict es m) : Meets (Builtin.«str.__eq__» ⟨[.str x u, .ref l], []⟩) (fun _ R s => s.heap.get? l = some o ∧ R (.ok (.ret .notImplemented)) s) :=
  .of_wp fun prog w A R s h => by
    obtain ⟨hp, g, d, tk, os⟩ := s; obtain ⟨hl, h⟩ := h
    obtain ⟨c, dd, dt, sl⟩ := o
    replace hc : c = .type "dict" := hc
    replace hd : dt = .dict es m := hd
    subst hc hd
    have f1 := F.sub_dict_str
    wp_walk using wpAny_loadPart' hl
    exact ⟨_, rfl, h⟩
theorem de_list (l b : Addr) (items : Array Value) (n : Nat) (dd : Option Addr) (sl : Array (Option Value)) (o : Obj) (hc : o.cls = .type "dict") :
    Meets (Builtin.«list.__eq__» ⟨[.ref l, .ref b], []⟩) (fun _ R s => (s.heap.get? l = some ⟨.type "list", dd, .seq items n, sl⟩ ∧ s.heap.get? b = some o) ∧ R (.ok (.ret .notImplemented)) s) :=
  .of_wp fun prog w A R s h => by
    obtain ⟨hp, g, d, tk, os⟩ := s; obtain ⟨⟨hl, hb⟩, h⟩ := h
    obtain ⟨c, dd, dt, sl⟩ := o
    replace hc : c = .type "dict" := hc
    subst hc
    have f1 := F.sub_dict_list
    wp_walk using wpAny_loadPart' hl, wpAny_loadPart' hb
    exact ⟨_, rfl, h⟩
theorem de_tuple (l b : Addr) (items : Array Value) (n : Nat) (dd : Option Addr) (sl : Array (Option Value)) (o : Obj) (hc : o.cls = .type "dict") :
    Meets (Builtin.«tuple.__eq__» ⟨[.ref l, .ref b], []⟩) (fun _ R s => (s.heap.get? l = some ⟨.type "tuple", dd, .seq items n, sl⟩ ∧ s.heap.get? b = some o) ∧ R (.ok (.ret .notImplemented)) s) :=
  .of_wp fun prog w A R s h => by
    obtain ⟨hp, g, d, tk, os⟩ := s; obtain ⟨⟨hl, hb⟩, h⟩ := h
    obtain ⟨c, dd, dt, sl⟩ := o
    replace hc : c = .type "dict" := hc
    subst hc
    have f1 := F.sub_dict_tuple
    wp_walk using wpAny_loadPart' hl, wpAny_loadPart' hb
    exact ⟨_, rfl, h⟩
/-- a dict, and something else -/
theorem rc_dict {a : Addr} {o : Obj} {v : Value} {d : PyData} {bs : List Addr} (ho : s.heap.get? a = some o) (hc : o.cls = .type "dict") {es : Array DictEntry} {m : Nat} (hdt : o.data = .dict es m) (rv : Reads s.heap v d bs) (hd : d.canLay0 = true) (hu : A.units < cLine) : RcAt A s (.ref a) v false := fun prog w E Q h => by
  have ta : s.TypeIs (.ref a) "dict" := ⟨o, ho, hc⟩
  cases rv with
  | none => exact rc_eq_decline_or (k := false) ta rfl (by decide) F.sub_NoneType_dict F.slot_dict_eq F.slot_NoneType_eq_refl (fun _ q => de_dict ta rfl F.sub_NoneType_dict q) (fun _ q => call_gives F.slot_NoneType_eq_refl rfl F.entry_NoneType_eq (F.args_NoneType_eq_2 _ _) (NoneType___eq___none_ref_0 a) q) (fun _ q => wpAny_of_eq (rfl : isSame (.ref a) .none = pure false) q) (.inr hu) h
  | bool b => exact rc_eq_decline_or (k := false) ta rfl (by decide) F.sub_bool_dict F.slot_dict_eq F.slot_bool_eq_refl (fun _ q => de_dict ta rfl F.sub_bool_dict q) (fun _ q => call_meets F.slot_bool_eq_refl rfl F.entry_int_eq (F.args_int_eq_2 _ _) (de_bool b a o hc hdt) ⟨ho, q⟩) (fun _ q => wpAny_of_eq (rfl : isSame (.ref a) (.bool b) = pure false) q) (.inr hu) h
  | int i t => exact rc_eq_decline_or (k := false) ta rfl (by decide) F.sub_int_dict F.slot_dict_eq F.slot_int_eq_refl (fun _ q => de_dict ta rfl F.sub_int_dict q) (fun _ q => call_meets F.slot_int_eq_refl rfl F.entry_int_eq (F.args_int_eq_2 _ _) (de_int i t a o hc hdt) ⟨ho, q⟩) (fun _ q => wpAny_of_eq (rfl : isSame (.ref a) (.int i t) = pure false) q) (.inr hu) h
  | str x t => exact rc_eq_decline_or (k := false) ta rfl (by decide) F.sub_str_dict F.slot_dict_eq F.slot_str_eq_refl (fun _ q => de_dict ta rfl F.sub_str_dict q) (fun _ q => call_meets F.slot_str_eq_refl rfl F.entry_str_eq (F.args_str_eq_2 _ _) (de_str x t a o hc hdt) ⟨ho, q⟩) (fun _ q => wpAny_of_eq (rfl : isSame (.ref a) (.str x t) = pure false) q) (.inr hu) h
  | @list b ob vs n xs as hb hcb hdb rs =>
    have tb : s.TypeIs (.ref b) "list" := ⟨ob, hb, hcb⟩
    have hne : a ≠ b := fun z => by subst z; rw [ho] at hb; cases hb; rw [hc] at hcb; injection hcb with q; exact absurd q (by decide)
    obtain ⟨c2, dd, dt, sl⟩ := ob
    simp only at hcb hdb
    subst hcb hdb
    exact rc_eq_decline_or (k := false) ta tb (by decide) F.sub_list_dict F.slot_dict_eq F.slot_list_eq_refl (fun _ q => de_dict ta tb F.sub_list_dict q) (fun _ q => call_meets F.slot_list_eq_refl tb F.entry_list_eq (F.args_list_eq_2 _ _) (de_list b a vs n dd sl o hc) ⟨⟨hb, ho⟩, q⟩) (fun _ q => wpAny_isSame_ref_other' hne ho hb (by simp) q) (.inr hu) h
  | @tuple b ob vs n xs as hb hcb hdb rs =>
    have tb : s.TypeIs (.ref b) "tuple" := ⟨ob, hb, hcb⟩
    have hne : a ≠ b := fun z => by subst z; rw [ho] at hb; cases hb; rw [hc] at hcb; injection hcb with q; exact absurd q (by decide)
    obtain ⟨c2, dd, dt, sl⟩ := ob
    simp only at hcb hdb
    subst hcb hdb
    exact rc_eq_decline_or (k := false) ta tb (by decide) F.sub_tuple_dict F.slot_dict_eq F.slot_tuple_eq_refl (fun _ q => de_dict ta tb F.sub_tuple_dict q) (fun _ q => call_meets F.slot_tuple_eq_refl tb F.entry_tuple_eq (F.args_tuple_eq_2 _ _) (de_tuple b a vs n dd sl o hc) ⟨⟨hb, ho⟩, q⟩) (fun _ q => wpAny_isSame_ref_other hne ho hb (by rw [hc]; decide) q) (.inr hu) h
  | dict _ _ _ _ _ => cases hd
theorem rc_other {a : Addr} {o : Obj} {v : Value} {d : PyData} {bs : List Addr} (ho : s.heap.get? a = some o) (hc : o.cls = .type "dict") {es : Array DictEntry} {m : Nat} (hdt : o.data = .dict es m) (rv : Reads s.heap v d bs) (hd : d.canLay0 = true) (hu : A.units < cLine) : RcAt A s v (.ref a) false := fun prog w E Q h => by
  have ta : s.TypeIs (.ref a) "dict" := ⟨o, ho, hc⟩
  cases rv with
  | none => exact rc_eq_decline_or (k := false) rfl ta (by decide) F.sub_dict_NoneType F.slot_NoneType_eq F.slot_dict_eq_refl (fun _ q => call_gives F.slot_NoneType_eq rfl F.entry_NoneType_eq (F.args_NoneType_eq_2 _ _) (NoneType___eq___none_ref_0 a) q) (fun _ q => de_dict ta rfl F.sub_NoneType_dict q) (fun _ q => wpAny_of_eq (rfl : isSame .none (.ref a) = pure false) q) (.inr hu) h
  | bool b => exact rc_eq_decline_or (k := false) rfl ta (by decide) F.sub_dict_bool F.slot_bool_eq F.slot_dict_eq_refl (fun _ q => call_meets F.slot_bool_eq rfl F.entry_int_eq (F.args_int_eq_2 _ _) (de_bool b a o hc hdt) ⟨ho, q⟩) (fun _ q => de_dict ta rfl F.sub_bool_dict q) (fun _ q => wpAny_of_eq (rfl : isSame (.bool b) (.ref a) = pure false) q) (.inr hu) h
  | int i t => exact rc_eq_decline_or (k := false) rfl ta (by decide) F.sub_dict_int F.slot_int_eq F.slot_dict_eq_refl (fun _ q => call_meets F.slot_int_eq rfl F.entry_int_eq (F.args_int_eq_2 _ _) (de_int i t a o hc hdt) ⟨ho, q⟩) (fun _ q => de_dict ta rfl F.sub_int_dict q) (fun _ q => wpAny_of_eq (rfl : isSame (.int i t) (.ref a) = pure false) q) (.inr hu) h
  | str x t => exact rc_eq_decline_or (k := false) rfl ta (by decide) F.sub_dict_str F.slot_str_eq F.slot_dict_eq_refl (fun _ q => call_meets F.slot_str_eq rfl F.entry_str_eq (F.args_str_eq_2 _ _) (de_str x t a o hc hdt) ⟨ho, q⟩) (fun _ q => de_dict ta rfl F.sub_str_dict q) (fun _ q => wpAny_of_eq (rfl : isSame (.str x t) (.ref a) = pure false) q) (.inr hu) h
  | @list b ob vs n xs as hb hcb hdb rs =>
    have tb : s.TypeIs (.ref b) "list" := ⟨ob, hb, hcb⟩
    have hne : b ≠ a := fun z => by subst z; rw [ho] at hb; cases hb; rw [hc] at hcb; injection hcb with q; exact absurd q (by decide)
    obtain ⟨c2, dd, dt, sl⟩ := ob
    simp only at hcb hdb
    subst hcb hdb
    exact rc_eq_decline_or (k := false) tb ta (by decide) F.sub_dict_list F.slot_list_eq F.slot_dict_eq_refl (fun _ q => call_meets F.slot_list_eq tb F.entry_list_eq (F.args_list_eq_2 _ _) (de_list b a vs n dd sl o hc) ⟨⟨hb, ho⟩, q⟩) (fun _ q => de_dict ta tb F.sub_list_dict q) (fun _ q => wpAny_isSame_ref_other' hne hb ho (by rw [hc]; decide) q) (.inr hu) h
  | @tuple b ob vs n xs as hb hcb hdb rs =>
    have tb : s.TypeIs (.ref b) "tuple" := ⟨ob, hb, hcb⟩
    have hne : b ≠ a := fun z => by subst z; rw [ho] at hb; cases hb; rw [hc] at hcb; injection hcb with q; exact absurd q (by decide)
    obtain ⟨c2, dd, dt, sl⟩ := ob
    simp only at hcb hdb
    subst hcb hdb
    exact rc_eq_decline_or (k := false) tb ta (by decide) F.sub_dict_tuple F.slot_tuple_eq F.slot_dict_eq_refl (fun _ q => call_meets F.slot_tuple_eq tb F.entry_tuple_eq (F.args_tuple_eq_2 _ _) (de_tuple b a vs n dd sl o hc) ⟨⟨hb, ho⟩, q⟩) (fun _ q => de_dict ta tb F.sub_tuple_dict q) (fun _ q => wpAny_isSame_ref_other' hne hb ho (by rw [hc]; decide) q) (.inr hu) h
  | dict _ _ _ _ _ => cases hd
theorem eqL_dict {a : Addr} {v : Value} {k : Bool} (hne : (Value.ref a == v) = false) (h : RcAt A s (.ref a) v k) : EqAt A s (.ref a) v k := fun prog w E Q hq => by
  unfold eqBool
  refine wpAny_holding ?_
  refine wpAny_ite_split (fun hab => by rw [hne] at hab; cases hab) (fun _ => ?_)
  exact wpAny_bind (h prog w E _ (wpAny_truthy_bool hq))
theorem eqR_dict {a : Addr} {v : Value} {d : PyData} {bs : List Addr} {k : Bool} (rv : Reads s.heap v d bs) (hne : (v == Value.ref a) = false) (h : RcAt A s v (.ref a) k) : EqAt A s v (.ref a) k := fun prog w E Q hq => by
  cases rv <;> (
    unfold eqBool
    refine wpAny_holding ?_
    refine wpAny_ite_split (fun hab => by rw [hne] at hab; cases hab) (fun _ => ?_)
    exact wpAny_bind (h prog w E _ (wpAny_truthy_bool hq)))
/-- two empty dicts -/
theorem rc_empty {a b : Addr} {oa ob : Obj} (ha : s.heap.get? a = some oa) (hca : oa.cls = .type "dict") {na : Nat} (hda : oa.data = .dict #[] na) (hb : s.heap.get? b = some ob) (hcb : ob.cls = .type "dict") {nb : Nat} (hdb : ob.data = .dict #[] nb)
    (sa : a ≠ sysModules) (sb : b ≠ sysModules) (xa : oa.ExactDict) (xb : ob.ExactDict) (hu : A.units < cLine) : RcAt A s (.ref a) (.ref b) true := fun prog w E Q h =>
  rcP_dicts (knd := intKind prog w) (ka := []) (kb := []) (r := true) (by simpa using sa) (by simpa using sb) ⟨oa, #[], na, ha, xa, hda, fun i hi => absurd hi (by simp), .nil, by simp⟩ ⟨ob, #[], nb, hb, xb, hdb, fun i hi => absurd hi (by simp), .nil, by simp⟩ hu (fun _ => .nil) E Q h
end
end DI

namespace DI
open PySem L2

/-! ### data -/
def allD (f : W → Option PyData) : List W → Option (List PyData)
  | [] => some []
  | w :: ws => match f w, allD f ws with
    | some d, some ds => some (d :: ds)
    | _, _ => none
/-- a dict that holds something, by its keys and its values -/
def zipD (ks vs : Option (List PyData)) : Option PyData := match ks, vs with
  | some (k :: ks), some (v :: vs) => some (.dict ((k, v) :: ks.zip vs))
  | _, _ => none
theorem zipD_some {ks vs : Option (List PyData)} {d : PyData} (h : zipD ks vs = some d) : ∃ k ks' v vs', ks = some (k :: ks') ∧ vs = some (v :: vs') ∧ d = .dict ((k, v) :: ks'.zip vs') := by
  unfold zipD at h
  split at h
  · cases h; exact ⟨_, _, _, _, rfl, rfl, rfl⟩
  · cases h
def toD (st : Sto) : Nat → W → Option PyData
  | 0, _ => none
  | _ + 1, .non => some .none
  | _ + 1, .bl b => some (.bool b)
  | _ + 1, .int i => some (.int i)
  | _ + 1, .str x => some (.str x)
  | n + 1, .tup ws => (allD (toD st n) ws).map .tuple
  | n + 1, .ils ws => (allD (toD st n) ws).map .list
  | n + 1, .ref k => match st[k]? with
    | some (.lst ws) => (allD (toD st n) ws).map .list
    | some .emp => some (.dict [])
    | some (.dct kvs) => zipD (allD (toD st n) (kvs.map (·.1))) (allD (toD st n) (kvs.map (·.2)))
    | _ => none
  | _ + 1, .adr _ => none
  | _ + 1, .exn _ _ _ => none
section
variable {X : Cx} {pins : List (Addr × Obj)} {σ : L2.St} {H : Hp} {s : Shared} {ρ : List Addr} {st : Sto}
theorem rd_list {a : Addr} {xs : List V} (h : Rd H a (.lst xs)) : SqL X.K H a xs := .inl h
theorem readsAll_of {n : Nat} (ih : ∀ (w : W) (v : V) (u : Value) (d : PyData), Rep X.K H ρ w v → RelV v u → toD st n w = some d → ∃ as, Reads s.heap u d as ∧ sysModules ∉ as) :
    ∀ (ws : List W) (vs : List V) (us : List Value) (ds : List PyData), RepAll X.K H ρ ws vs → Vals vs us → allD (toD st n) ws = some ds → ∃ as, ReadsAll s.heap us ds as ∧ sysModules ∉ as
  | [], _, _, _, h, r, e => by
    cases h; cases r; cases e
    exact ⟨_, .nil, by simp⟩
  | w :: ws, _, _, ds, h, r, e => by
    cases h with
    | cons h1 h2 =>
      cases r with
      | cons r1 r2 =>
        unfold allD at e
        split at e
        · rename_i d ds' e1 e2
          cases e
          obtain ⟨as, q1, n1⟩ := ih _ _ _ _ h1 r1 e1
          obtain ⟨bs, q2, n2⟩ := readsAll_of ih ws _ _ _ h2 r2 e2
          refine ⟨_, .cons q1 q2, fun m => ?_⟩
          rcases List.mem_append.mp m with m | m
          · exact n1 m
          · exact n2 m
        · cases e
theorem vals_refs : ∀ ys : List (NestedKey × Addr × Value), Vals (ys.map fun y => V.ref y.2.1) (ys.map fun y => Value.ref y.2.1)
  | [] => .nil
  | _ :: ys => .cons rfl (vals_refs ys)
theorem allD_len {f : W → Option PyData} : ∀ {ws : List W} {ds : List PyData}, allD f ws = some ds → ws.length = ds.length
  | [], _, e => by cases e; rfl
  | w :: ws, ds, e => by
    unfold allD at e
    split at e
    · rename_i d ds' e1 e2
      cases e
      simp [allD_len e2]
    · cases e
theorem reads_of (I : Inv X pins σ H s) (R : HR X.w X.K H ρ st) : ∀ (n : Nat) (w : W) (v : V) (u : Value) (d : PyData), Rep X.K H ρ w v → RelV v u → toD st n w = some d → ∃ as, Reads s.heap u d as ∧ sysModules ∉ as
  | 0, _, _, _, _, _, _, e => by cases e
  | n + 1, w, v, u, d, h, r, e => by
    have ih : ∀ (w : W) (v : V) (u : Value) (d : PyData), Rep X.K H ρ w v → RelV v u → toD st n w = some d → ∃ as, Reads s.heap u d as ∧ sysModules ∉ as := reads_of I R n
    cases h with
    | non => cases e; cases r; exact ⟨_, .none, by simp⟩
    | bl b => cases e; cases r; exact ⟨_, .bool b, by simp⟩
    | int i => cases e; obtain ⟨t, rfl⟩ := r; exact ⟨_, .int i t, by simp⟩
    | str x => cases e; obtain ⟨t, rfl⟩ := r; exact ⟨_, .str x t, by simp⟩
    | @tup a xs ws hs ha =>
      cases r
      have e : (allD (toD st n) ws).map PyData.tuple = some d := e
      cases q : allD (toD st n) ws with
      | none => rw [q] at e; cases e
      | some ds =>
        rw [q] at e; cases e
        obtain ⟨its, rv, ⟨o, ho, hc, m, hd⟩, _⟩ := I.tuple hs
        obtain ⟨as, hr, hn⟩ := readsAll_of ih ws _ _ _ ha rv q
        exact ⟨_, .tuple ho hc hd hr, hn⟩
    | @ils a xs ws hs ha =>
      cases r
      have e : (allD (toD st n) ws).map PyData.list = some d := e
      cases q : allD (toD st n) ws with
      | none => rw [q] at e; cases e
      | some ds =>
        rw [q] at e; cases e
        obtain ⟨its, rv, ⟨o, m, ho, hc, _, hd⟩, _⟩ := I.list hs.sq
        obtain ⟨as, hr, hn⟩ := readsAll_of ih ws _ _ _ ha rv q
        exact ⟨_, .list ho hc hd hr, fun m => (List.mem_cons.mp m).elim (fun z => hs.1 z.symm) hn⟩
    | @ref k a hk =>
      cases r
      unfold toD at e
      have lst : ∀ (ws : List W) (xs : List V), Rd H a (.lst xs) → RepAll X.K H ρ ws xs → (allD (toD st n) ws).map PyData.list = some d → ∃ as, Reads s.heap (.ref a) d as ∧ sysModules ∉ as := fun ws xs h1 h2 e => by
        cases q : allD (toD st n) ws with
        | none => rw [q] at e; cases e
        | some ds =>
          rw [q] at e; cases e
          obtain ⟨its, rv, ⟨o, m, ho, hc, _, hd⟩, _⟩ := I.list (rd_list h1)
          obtain ⟨as, hr, hn⟩ := readsAll_of ih ws _ _ _ h2 rv q
          exact ⟨_, .list ho hc hd hr, fun m => (List.mem_cons.mp m).elim (fun z : sysModules = a => R.nosm (by rw [z]; exact List.mem_of_getElem? hk)) hn⟩
      split at e
      · rename_i ws hw
        obtain ⟨xs, h1, h2⟩ := R.ob k a _ hk hw
        exact lst ws xs (.inl h1) h2 e
      · rename_i hw
        cases e
        have h1 : H a = some (.dK []) := R.ob k a _ hk hw
        obtain ⟨_, hsm, vs, kv, o, es, ep, ho, ⟨hc, hrest⟩, hd, hes, hp, _⟩ := I.hok a _ h1
        cases kv
        have he : es.toList = [] := by
          cases q : es.toList with
          | nil => rfl
          | cons x xs => rw [q] at hp; exact absurd hp (by intro z; cases z)
        refine ⟨_, .dict (kvs := []) (as := []) (bs := []) ho hc hd (by rw [he]; exact .nil) (by rw [he]; exact .nil), fun m => ?_⟩
        have m : sysModules = a := by simpa using m
        rw [← m] at hsm
        simp at hsm
      · rename_i kvs hw
        obtain ⟨k1, ks, v1, vs, q1, q2, rfl⟩ := zipD_some e
        obtain ⟨ys, us, h1, h2, h3, h4, h5, h6⟩ := R.ob k a _ hk hw
        obtain ⟨⟨hsm, o, es, ep, ho, hx, hd, he, hnd⟩, _⟩ := I.hok a _ h1
        obtain ⟨as, r1, n1⟩ := readsAll_of ih _ _ (ys.map fun y => Value.ref y.2.1) _ h4 (vals_refs ys) q1
        obtain ⟨bs, r2, n2⟩ := readsAll_of ih _ _ _ _ h5 h6 q2
        have l1 := allD_len q1
        have l2 := allD_len q2
        simp only [List.length_map, List.length_cons] at l1 l2
        have len : ks.length = vs.length := by omega
        refine ⟨_, .dict (kvs := (k1, v1) :: ks.zip vs) (as := as) (bs := bs) ho hx.1 hd ?_ ?_, fun m => ?_⟩
        · rw [he, List.map_map, List.map_cons, List.map_fst_zip (Nat.le_of_eq len)]; exact r1
        · rw [he, List.map_map, List.map_cons, List.map_snd_zip (Nat.le_of_eq len.symm)]; exact r2
        · rcases List.mem_append.mp m with m | m
          · rcases List.mem_cons.mp m with m | m
            · rw [← m] at hsm; simp at hsm
            · exact n1 m
          · exact n2 m
      · cases e
    | adr a => cases e
    | exn h => cases e
end

/-! ### equality, in -/
def shD (d : PyData) : Bool := SeqAt.shaped d
def eqW (a b : W) (st : Sto) : Option Bool := match toD st 24 a, toD st 24 b with
  | some d, some e => if shD d && shD e then some (PyData.eqv d e) else none
  | _, _ => none
def bOut (o : Option Bool) (st : Sto) : Out W := match o with
  | some b => ret (.bl b) st
  | none => none
def opEq : O2 := fun a b st => bOut (eqW a b st) st
def opNe : O2 := fun a b st => bOut ((eqW a b st).map (!·)) st
/-- the reading of a comparison of data -/
def rData (w0 : World) (K : PySem.W.Frag) (F : PyData → PyData → Option Bool) : R2 := fun x y H Q => ∃ (ρ : List Addr) (st : Sto) (a b : W) (d e : PyData) (r : Bool), HR w0 K H ρ st ∧ Rep K H ρ a x ∧ Rep K H ρ b y ∧ toD st 24 a = some d ∧ toD st 24 b = some e ∧ F d e = some r ∧ Q (.bl r) H
/-- an empty dict, or data without dicts -/
def isE : PyData → Bool
  | .dict [] => true
  | _ => false
def okT (d : PyData) : Bool := shD d || isE d
def eqT (d e : PyData) : Bool := if isE d || isE e then isE d && isE e else PyData.eqv d e
def dEq (d e : PyData) : Option Bool := if okT d && okT e then some (eqT d e) else none
def dNe (d e : PyData) : Option Bool := if shD d && shD e then some (!PyData.eqv d e) else none
def dIn (d e : PyData) : Option Bool := match e with
  | .list ds => if okT d && ds.all okT then some (ds.any fun z => eqT z d) else none
  | .tuple ds => if okT d && ds.all okT then some (ds.any fun z => eqT z d) else none
  | _ => none
def dNotIn (d e : PyData) : Option Bool := (dIn d e).map (!·)
theorem isE_eq {d : PyData} (h : isE d = true) : d = .dict [] := by
  unfold isE at h
  split at h
  · rfl
  · cases h
/-- a value that is such data -/
def ED (s : Shared) (u : Value) : Prop := ∃ (a : Addr) (o : Obj) (n : Nat), u = .ref a ∧ s.heap.get? a = some o ∧ o.ExactDict ∧ o.data = .dict #[] n ∧ a ≠ sysModules
def Dv (s : Shared) (u : Value) (d : PyData) : Prop := (d = .dict [] ∧ ED s u) ∨ (shD d = true ∧ ∃ as, Reads s.heap u d as)
section
variable {s : Shared} {A : Around}
theorem ED.no {u : Value} {d : PyData} {as : List Addr} (h : ED s u) (r : Reads s.heap u d as) (hd : d.canLay0 = true) : False := by
  obtain ⟨a, o, n, rfl, h1, h2, h3, h4⟩ := h
  cases r with
  | list e1 e2 _ _ => rw [h1] at e1; cases e1; rw [h2.1] at e2; injection e2 with q; exact absurd q (by decide)
  | tuple e1 e2 _ _ => rw [h1] at e1; cases e1; rw [h2.1] at e2; injection e2 with q; exact absurd q (by decide)
  | dict _ _ _ _ _ => cases hd
theorem Dv.fn {u : Value} {d e : PyData} (h : Dv s u d) (k : Dv s u e) : d = e := by
  rcases h with ⟨rfl, h⟩ | ⟨h1, as, h2⟩
  · rcases k with ⟨rfl, _⟩ | ⟨k1, bs, k2⟩
    · rfl
    · exact (h.no k2 (SeqAt.canLay_of_shaped k1)).elim
  · rcases k with ⟨rfl, k⟩ | ⟨k1, bs, k2⟩
    · exact (k.no h2 (SeqAt.canLay_of_shaped h1)).elim
    · exact SeqAt.Reads.unique _ _ _ _ _ (SeqAt.canLay_of_shaped h1) h2 k2
theorem shD_noE {d : PyData} (h : shD d = true) : isE d = false := by
  cases d with
  | dict kvs => have := SeqAt.canLay_of_shaped h; cases this
  | _ => rfl
theorem Dv.rc {v u : Value} {d e : PyData} (h : Dv s v d) (k : Dv s u e) (hu : A.units + 64 < cLine) : SeqAt.RcAt A s v u (eqT d e) := by
  have hu1 : A.units < cLine := by omega
  rcases h with ⟨rfl, a, o, n, rfl, h1, h2, h3, h4⟩ | ⟨h1, as, h2⟩
  · rcases k with ⟨rfl, b, o', n', rfl, k1, k2, k3, k4⟩ | ⟨k1, bs, k2⟩
    · exact rc_empty h1 h2.1 h3 k1 k2.1 k3 h4 k4 h2 k2 hu1
    · have : eqT (.dict []) e = false := by unfold eqT; rw [shD_noE k1]; rfl
      rw [this]
      exact rc_dict h1 h2.1 h3 k2 (SeqAt.canLay_of_shaped k1) hu1
  · rcases k with ⟨rfl, b, o', n', rfl, k1, k2, k3, k4⟩ | ⟨k1, bs, k2⟩
    · have : eqT d (.dict []) = false := by unfold eqT; rw [shD_noE h1]; rfl
      rw [this]
      exact rc_other k1 k2.1 k3 h2 (SeqAt.canLay_of_shaped h1) hu1
    · have : eqT d e = PyData.eqv d e := by unfold eqT; rw [shD_noE h1, shD_noE k1]; rfl
      rw [this]
      exact SeqAt.rcAt_reads h2 k2 (SeqAt.canLay_of_shaped h1) (SeqAt.canLay_of_shaped k1) (SeqAt.room_of_shaped h1 hu)
theorem Dv.eq {v u : Value} {d e : PyData} (h : Dv s v d) (k : Dv s u e) (hu : A.units + 64 < cLine) : SeqAt.EqAt A s v u (eqT d e) := by
  have rc := Dv.rc h k hu
  rcases h with ⟨rfl, a, o, n, rfl, h1, h2, h3, h4⟩ | ⟨h1, as, h2⟩
  · by_cases hab : Value.ref a = u
    · have : e = .dict [] := by
        subst hab
        exact (Dv.fn (.inl ⟨rfl, a, o, n, rfl, h1, h2, h3, h4⟩) k).symm
      subst this hab
      exact SeqAt.EqAt.same _
    · exact eqL_dict (beq_false_of_ne hab) rc
  · rcases k with ⟨rfl, b, o', n', rfl, k1, k2, k3, k4⟩ | ⟨k1, bs, k2⟩
    · have hab : v ≠ .ref b := fun z => by
        subst z
        exact ED.no ⟨b, o', n', rfl, k1, k2, k3, k4⟩ h2 (SeqAt.canLay_of_shaped h1)
      exact eqR_dict h2 (beq_false_of_ne hab) rc
    · have : eqT d e = PyData.eqv d e := by unfold eqT; rw [shD_noE h1, shD_noE k1]; rfl
      rw [this]
      exact SeqAt.eqAt_reads d e A s v u as bs h2 k2 (SeqAt.canLay_of_shaped h1) (SeqAt.canLay_of_shaped k1) (SeqAt.room_of_shaped h1 hu)
end
section
variable {X : Cx} {pins : List (Addr × Obj)} {σ : L2.St} {H : Hp} {s : Shared} {ρ : List Addr} {st : Sto}
theorem dv_of (I : Inv X pins σ H s) (R : HR X.w X.K H ρ st) {n : Nat} {w : W} {v : V} {u : Value} {d : PyData} (r : Rep X.K H ρ w v) (rv : RelV v u) (e : toD st n w = some d) (ok : okT d = true) : Dv s u d := by
  unfold okT at ok
  rw [Bool.or_eq_true] at ok
  rcases ok with ok | ok
  · obtain ⟨as, q, _⟩ := reads_of I R n w v u d r rv e
    exact .inr ⟨ok, as, q⟩
  · have := isE_eq ok
    subst this
    refine .inl ⟨rfl, ?_⟩
    cases n with
    | zero => cases e
    | succ n =>
      cases r with
      | @ref k a hk =>
        have e : (match st[k]? with | some (.lst ws) => (allD (toD st n) ws).map PyData.list | some .emp => some (.dict []) | some (.dct kvs) => zipD (allD (toD st n) (kvs.map (·.1))) (allD (toD st n) (kvs.map (·.2))) | _ => none) = some (.dict []) := e
        split at e
        · rename_i ws hw
          cases q : allD (toD st n) ws with
          | none => rw [q] at e; cases e
          | some x => rw [q] at e; cases e
        · rename_i hw
          have h1 : H a = some (.dK []) := R.ob k a _ hk hw
          obtain ⟨_, hsm, vs, kv, o, es, ep, ho, hx, hd, hes, hp, _⟩ := I.hok a _ h1
          cases kv
          have he : es = #[] := by
            have : es.toList = [] := by
              cases q : es.toList with
              | nil => rfl
              | cons x xs => rw [q] at hp; exact absurd hp (by intro z; cases z)
            cases es with
            | mk l => simp at this; rw [this]
          subst he
          cases (show u = .ref a from rv)
          exact ⟨a, o, ep, rfl, ho, hx, hd, fun z => by rw [z] at hsm; simp at hsm⟩
        · obtain ⟨_, _, _, _, _, _, z⟩ := zipD_some e; cases z
        · cases e
      | tup h1 h2 =>
        have e : (allD (toD st n) _).map PyData.tuple = some (.dict []) := e
        cases q : allD (toD st n) _ with
        | none => rw [q] at e; cases e
        | some x => rw [q] at e; cases e
      | ils h1 h2 =>
        have e : (allD (toD st n) _).map PyData.list = some (.dict []) := e
        cases q : allD (toD st n) _ with
        | none => rw [q] at e; cases e
        | some x => rw [q] at e; cases e
      | _ => cases e
theorem dvs_of (I : Inv X pins σ H s) (R : HR X.w X.K H ρ st) {n : Nat} : ∀ {ws : List W} {vs : List V} {us : List Value} {ds : List PyData}, RepAll X.K H ρ ws vs → Vals vs us → allD (toD st n) ws = some ds → ds.all okT = true → Paired (Dv s) us ds
  | [], _, _, _, .nil, .nil, e, _ => by cases e; exact .nil
  | w :: ws, _, _, ds, .cons r1 r2, .cons v1 v2, e, ok => by
    unfold allD at e
    split at e
    · rename_i d ds' e1 e2
      cases e
      rw [List.all_cons, Bool.and_eq_true] at ok
      exact .cons (dv_of I R r1 v1 e1 ok.1) (dvs_of I R r2 v2 e2 ok.2)
    · cases e
theorem dv_any {us : List Value} {ds : List PyData} {d : PyData} (hp : Paired (Dv s) us ds) : ∃ e : Value → Bool, (∀ y ∈ us, ∃ z, Dv s y z ∧ e y = eqT z d) ∧ us.any e = ds.any fun z => eqT z d := by
  classical
  refine ⟨fun y => decide (∃ z, Dv s y z ∧ eqT z d = true), ?_⟩
  have key : ∀ y z, Dv s y z → decide (∃ z, Dv s y z ∧ eqT z d = true) = eqT z d := fun y z h => by
    cases q : eqT z d with
    | true => exact decide_eq_true ⟨z, h, q⟩
    | false => exact decide_eq_false fun ⟨z', h', q'⟩ => by rw [Dv.fn h' h, q] at q'; cases q'
  induction hp with
  | nil => exact ⟨fun y hy => (by cases hy), rfl⟩
  | @cons u z us ds h t ih =>
    refine ⟨fun y hy => ?_, ?_⟩
    · rcases List.mem_cons.mp hy with rfl | hy
      · exact ⟨z, h, key _ _ h⟩
      · exact ih.1 y hy
    · rw [List.any_cons, List.any_cons, ih.2, key _ _ h]
/-- a list or a tuple by its items -/
theorem seq_dv (I : Inv X pins σ H s) (R : HR X.w X.K H ρ st) {n : Nat} {w : W} {v : V} {u : Value} {e : PyData} {ds : List PyData} (r : Rep X.K H ρ w v) (rv : RelV v u) (q : toD st (n + 1) w = some e) (he : e = .list ds ∨ e = .tuple ds) (ok : ds.all okT = true) :
    ∃ (l : Addr) (its : Array Value), u = .ref l ∧ Paired (Dv s) its.toList ds ∧ ((e = .list ds ∧ s.heap.IsList l its) ∨ (e = .tuple ds ∧ s.heap.IsTuple l its)) := by
  cases r with
  | @tup a xs ws h1 h2 =>
    cases (show u = .ref a from rv)
    have q : (allD (toD st n) ws).map PyData.tuple = some e := q
    cases z : allD (toD st n) ws with
    | none => rw [z] at q; cases q
    | some ds' =>
      rw [z] at q; cases q
      have : ds' = ds := by rcases he with he | he <;> cases he; rfl
      subst this
      obtain ⟨its, vv, p, _⟩ := I.tuple h1
      exact ⟨a, its.toArray, rfl, by simpa using dvs_of I R h2 vv z ok, .inr ⟨rfl, p⟩⟩
  | @ils a xs ws h1 h2 =>
    cases (show u = .ref a from rv)
    have q : (allD (toD st n) ws).map PyData.list = some e := q
    cases z : allD (toD st n) ws with
    | none => rw [z] at q; cases q
    | some ds' =>
      rw [z] at q; cases q
      have : ds' = ds := by rcases he with he | he <;> cases he; rfl
      subst this
      obtain ⟨its, vv, p, _⟩ := I.list h1.sq
      exact ⟨a, its.toArray, rfl, by simpa using dvs_of I R h2 vv z ok, .inl ⟨rfl, p.isList⟩⟩
  | @ref k a hk =>
    cases (show u = .ref a from rv)
    have q : (match st[k]? with | some (.lst ws) => (allD (toD st n) ws).map PyData.list | some .emp => some (.dict []) | some (.dct kvs) => zipD (allD (toD st n) (kvs.map (·.1))) (allD (toD st n) (kvs.map (·.2))) | _ => none) = some e := q
    split at q
    · rename_i ws hw
      cases z : allD (toD st n) ws with
      | none => rw [z] at q; cases q
      | some ds' =>
        rw [z] at q; cases q
        have : ds' = ds := by rcases he with he | he <;> cases he; rfl
        subst this
        obtain ⟨xs, h1, h2⟩ := R.ob k a _ hk hw
        obtain ⟨its, vv, p, _⟩ := I.list (rd_list (.of h1))
        exact ⟨a, its.toArray, rfl, by simpa using dvs_of I R h2 vv z ok, .inl ⟨rfl, p.isList⟩⟩
    · cases q; rcases he with he | he <;> cases he
    · obtain ⟨_, _, _, _, _, _, z⟩ := zipD_some q; subst z; rcases he with he | he <;> cases he
    · cases q
  | _ => first | (cases q; done) | (cases q; rcases he with he | he <;> cases he)
end
section
variable {X : Cx}
theorem op_dEq (hu : X.A.units + 64 < cLine) : OpR X (compareOp .Eq) (rData X.w X.K dEq) := by
  intro pins s σ H x y v u Q I rx ry h
  obtain ⟨ρ, st, a, b, d, e, r, R, ra, rb, ea, eb, ef, q⟩ := h
  unfold dEq at ef
  split at ef
  · rename_i hs
    rw [Bool.and_eq_true] at hs
    cases ef
    exact Dv.rc (dv_of I R ra rx ea hs.1) (dv_of I R rb ry eb hs.2) hu _ _ _ _ ⟨.bl _, H, I, rfl, q⟩
  · cases ef
theorem op_dNe (hu : X.A.units + 64 < cLine) : OpR X (compareOp .NotEq) (rData X.w X.K dNe) := by
  intro pins s σ H x y v u Q I rx ry h
  obtain ⟨ρ, st, a, b, d, e, r, R, ra, rb, ea, eb, ef, q⟩ := h
  obtain ⟨as, r1, _⟩ := reads_of I R _ _ _ _ _ ra rx ea
  obtain ⟨bs, r2, _⟩ := reads_of I R _ _ _ _ _ rb ry eb
  unfold dNe at ef
  split at ef
  · rename_i hs
    rw [Bool.and_eq_true] at hs
    cases ef
    exact SeqAt.compareNe_shaped r1 r2 hs.1 hs.2 hu ⟨.bl _, H, I, rfl, q⟩
  · cases ef
theorem dIn_inv {d e : PyData} {r : Bool} (h : dIn d e = some r) : ∃ ds, (e = .list ds ∨ e = .tuple ds) ∧ okT d = true ∧ ds.all okT = true ∧ r = ds.any fun z => eqT z d := by
  unfold dIn at h
  split at h
  · split at h
    · rename_i hs
      rw [Bool.and_eq_true] at hs
      cases h; exact ⟨_, .inl rfl, hs.1, hs.2, rfl⟩
    · cases h
  · split at h
    · rename_i hs
      rw [Bool.and_eq_true] at hs
      cases h; exact ⟨_, .inr rfl, hs.1, hs.2, rfl⟩
    · cases h
  · cases h
theorem op_dIn (hu : X.A.units + 65 < cLine) : OpR X (compareOp .In) (rData X.w X.K dIn) := by
  intro pins s σ H x y v u Q I rx ry h
  obtain ⟨ρ, st, a, b, d, e, r, R, ra, rb, ea, eb, ef, q⟩ := h
  obtain ⟨ds, he, ok1, ok2, rfl⟩ := dIn_inv ef
  have hd := dv_of I R ra rx ea ok1
  obtain ⟨l, its, rfl, hp, hc⟩ := seq_dv I R rb ry eb he ok2
  obtain ⟨f, f1, f2⟩ := dv_any (d := d) hp
  have hu1 : X.A.in1.units + 64 < cLine := by show X.A.units + 1 + 64 < cLine; omega
  have items : ∀ y, y ∈ its → SeqAt.EqAt X.A.in1 s y v (f y) := fun y hy => by
    obtain ⟨z, h1, h2⟩ := f1 y (Array.mem_toList_iff.mpr hy)
    rw [h2]
    exact Dv.eq h1 hd hu1
  have ha : its.any f = ds.any fun z => eqT z d := by rw [← f2, Array.any_toList]
  rcases hc with ⟨_, hc⟩ | ⟨_, hc⟩
  · exact SeqAt.in_listAt f hc items (by rw [ha]; exact ⟨.bl _, H, I, rfl, q⟩)
  · exact SeqAt.in_tupleAt f hc items (by rw [ha]; exact ⟨.bl _, H, I, rfl, q⟩)
theorem op_dNotIn (hu : X.A.units + 65 < cLine) : OpR X (compareOp .NotIn) (rData X.w X.K dNotIn) := by
  intro pins s σ H x y v u Q I rx ry h
  obtain ⟨ρ, st, a, b, d, e, r, R, ra, rb, ea, eb, ef, q⟩ := h
  obtain ⟨r0, ef0, rfl⟩ : ∃ r0, dIn d e = some r0 ∧ r = !r0 := by
    unfold dNotIn at ef
    cases z : dIn d e with
    | none => rw [z] at ef; cases ef
    | some r0 => rw [z] at ef; cases ef; exact ⟨r0, rfl, rfl⟩
  obtain ⟨ds, he, ok1, ok2, rfl⟩ := dIn_inv ef0
  have hd := dv_of I R ra rx ea ok1
  obtain ⟨l, its, rfl, hp, hc⟩ := seq_dv I R rb ry eb he ok2
  obtain ⟨f, f1, f2⟩ := dv_any (d := d) hp
  have hu1 : X.A.in1.units + 64 < cLine := by show X.A.units + 1 + 64 < cLine; omega
  have items : ∀ y, y ∈ its → SeqAt.EqAt X.A.in1 s y v (f y) := fun y hy => by
    obtain ⟨z, h1, h2⟩ := f1 y (Array.mem_toList_iff.mpr hy)
    rw [h2]
    exact Dv.eq h1 hd hu1
  have ha : its.any f = ds.any fun z => eqT z d := by rw [← f2, Array.any_toList]
  rcases hc with ⟨_, hc⟩ | ⟨_, hc⟩
  · exact SeqAt.notIn_listAt f hc items (by rw [ha]; exact ⟨.bl _, H, I, rfl, q⟩)
  · exact SeqAt.notIn_tupleAt f hc items (by rw [ha]; exact ⟨.bl _, H, I, rfl, q⟩)
end
/-- an operation that compares data -/
def opData (F : PyData → PyData → Option Bool) : O2 := fun a b st => match toD st 24 a, toD st 24 b with
  | some d, some e => bOut (F d e) st
  | _, _ => none
theorem bOut_some {o : Option Bool} {st st' : Sto} {r : R W} (e : bOut o st = some (r, st')) : ∃ b, o = some b ∧ r = .ok (.bl b) ∧ st' = st := by
  cases o with
  | none => cases e
  | some b => cases e; exact ⟨b, rfl, rfl, rfl⟩
theorem opr_data {K : PySem.W.Frag} {F : PyData → PyData → Option Bool} : OPR w0 K (rData w0 K F) (opData F) := by
  intro x y H Q ρ st st' a b w R ra rb e p
  unfold opData at e
  split at e
  · rename_i d e' h1 h2
    obtain ⟨r, hf, hr, rfl⟩ := bOut_some e
    cases hr
    exact ⟨ρ, st', a, b, d, e', r, R, ra, rb, h1, h2, hf, p _ H ρ (Ext.refl _ _) R (.bl r)⟩
  · cases e
theorem nox_data {F : PyData → PyData → Option Bool} (a b : W) (st : Sto) : NoX (opData F a b st) := by
  intro x st' e
  unfold opData at e
  split at e
  · obtain ⟨_, _, h, _⟩ := bOut_some e
    cases h
  · cases e
end DI

namespace DI
open PySem L2

/-! ### arithmetic -/
def opI (c : Int → Int → Bool) (g : Int → Int → W) : O2 := fun a b st => match a, b with
  | .int i, .int j => if c i j then ret (g i j) st else none
  | _, _ => none
theorem opI_some {c : Int → Int → Bool} {g : Int → Int → W} {a b : W} {st st' : Sto} {r : R W} (e : opI c g a b st = some (r, st')) : ∃ i j, a = .int i ∧ b = .int j ∧ c i j = true ∧ r = .ok (g i j) ∧ st' = st := by
  unfold opI at e
  split at e
  · split at e
    · rename_i h; cases e; exact ⟨_, _, rfl, rfl, h, rfl, rfl⟩
    · cases e
  · cases e
theorem nox_I {c : Int → Int → Bool} {g : Int → Int → W} (a b : W) (st : Sto) : NoX (opI c g a b st) := fun x st' e => by
  obtain ⟨_, _, _, _, _, h, _⟩ := opI_some e
  cases h
def yes2 (_ _ : Int) : Bool := true
/-- plain ones: an int, a bool of two ints -/
def gI (f : Int → Int → Int) (i j : Int) : W := .int (f i j)
def gB (f : Int → Int → Bool) (i j : Int) : W := .bl (f i j)
theorem opr_I0i {K : PySem.W.Frag} {f : Int → Int → Int} : OPR w0 K (rI0 fun i j => .int (f i j)) (opI yes2 (gI f)) := by
  intro x y H Q ρ st st' a b w R ra rb e p
  obtain ⟨i, j, rfl, rfl, _, h, rfl⟩ := opI_some e
  cases h; cases ra; cases rb
  exact ⟨i, j, rfl, rfl, p _ H ρ (Ext.refl _ _) R (.int _)⟩
theorem opr_I0b {K : PySem.W.Frag} {f : Int → Int → Bool} : OPR w0 K (rI0 fun i j => .bl (f i j)) (opI yes2 (gB f)) := by
  intro x y H Q ρ st st' a b w R ra rb e p
  obtain ⟨i, j, rfl, rfl, _, h, rfl⟩ := opI_some e
  cases h; cases ra; cases rb
  exact ⟨i, j, rfl, rfl, p _ H ρ (Ext.refl _ _) R (.bl _)⟩
theorem opr_Ii {K : PySem.W.Frag} {C : Int → Int → Prop} {c : Int → Int → Bool} {f : Int → Int → Int} (hc : ∀ i j, c i j = true → C i j) : OPR w0 K (rI C fun i j => .int (f i j)) (opI c (gI f)) := by
  intro x y H Q ρ st st' a b w R ra rb e p
  obtain ⟨i, j, rfl, rfl, k, h, rfl⟩ := opI_some e
  cases h; cases ra; cases rb
  exact ⟨i, j, rfl, rfl, hc _ _ k, p _ H ρ (Ext.refl _ _) R (.int _)⟩
def cMul (i j : Int) : Bool := (decide (-(2 ^ 64) < i) && decide (i < 2 ^ 64)) || (decide (-(2 ^ 64) < j) && decide (j < 2 ^ 64))
def cMod (_ j : Int) : Bool := decide (0 < j)
def cDiv (_ j : Int) : Bool := decide (0 < j) && decide (j < 1073741824)
def cPow (i j : Int) : Bool := decide (0 ≤ j) && decide (j ≤ 1000000) && decide (i.natAbs < 2 ^ 64)
theorem cMul_ok (i j : Int) (h : cMul i j = true) : CMul i j := by
  unfold cMul at h
  rw [Bool.or_eq_true, Bool.and_eq_true, Bool.and_eq_true] at h
  rcases h with ⟨a, b⟩ | ⟨a, b⟩
  · exact .inl ⟨of_decide_eq_true a, of_decide_eq_true b⟩
  · exact .inr ⟨of_decide_eq_true a, of_decide_eq_true b⟩
theorem cMod_ok (i j : Int) (h : cMod i j = true) : 0 < j := of_decide_eq_true h
theorem cDiv_ok (i j : Int) (h : cDiv i j = true) : CDiv i j := by
  unfold cDiv at h
  rw [Bool.and_eq_true] at h
  exact ⟨of_decide_eq_true h.1, of_decide_eq_true h.2⟩
theorem cPow_ok (i j : Int) (h : cPow i j = true) : CPow i j := by
  unfold cPow at h
  rw [Bool.and_eq_true, Bool.and_eq_true] at h
  exact ⟨of_decide_eq_true h.1.1, of_decide_eq_true h.1.2, of_decide_eq_true h.2⟩
abbrev opSub : O2 := opI yes2 (gI fun i j => i - j)
abbrev opMul : O2 := opI cMul (gI fun i j => i * j)
abbrev opMod : O2 := opI cMod (gI fun i j => i % j)
abbrev opDiv : O2 := opI cDiv (gI fun i j => i / j)
abbrev opPow : O2 := opI cPow (gI fun i j => i ^ j.toNat)
abbrev opLt : O2 := opI yes2 (gB fun i j => decide (i < j))
abbrev opLe : O2 := opI yes2 (gB fun i j => decide (i ≤ j))
abbrev opGt : O2 := opI yes2 (gB fun i j => decide (j < i))
abbrev opGe : O2 := opI yes2 (gB fun i j => decide (j ≤ i))
/-- == and != of anything: texts as such, else as data -/
def opEqD : O2 := fun a b st => match a, b with
  | .str x, .str y => ret (.bl (x == y)) st
  | _, _ => opData dEq a b st
def opNeD : O2 := fun a b st => match a, b with
  | .str x, .str y => ret (.bl (!(x == y))) st
  | _, _ => opData dNe a b st
theorem dec_str (x y : Str) : decide (V.str x = V.str y) = (x == y) := by
  by_cases e : x = y
  · subst e; simp
  · have h : ¬ V.str x = V.str y := fun z => e (by injection z)
    rw [decide_eq_false h]
    exact (beq_eq_false_iff_ne.mpr e).symm
theorem opr_eq2 {K : PySem.W.Frag} : OPR w0 K (rOr rEq (rData w0 K dEq)) opEqD := by
  intro x y H Q ρ st st' a b w R ra rb e p
  unfold opEqD at e
  split at e
  · cases e; cases ra; cases rb
    refine .inl ⟨rfl, ?_⟩
    rw [dec_str]
    exact p _ H ρ (Ext.refl _ _) R (.bl _)
  · exact .inr (opr_data R ra rb e p)
theorem opr_ne2 {K : PySem.W.Frag} : OPR w0 K (rOr rNe (rData w0 K dNe)) opNeD := by
  intro x y H Q ρ st st' a b w R ra rb e p
  unfold opNeD at e
  split at e
  · cases e; cases ra; cases rb
    refine .inl ⟨rfl, ?_⟩
    rw [dec_str]
    exact p _ H ρ (Ext.refl _ _) R (.bl _)
  · exact .inr (opr_data R ra rb e p)
theorem nox_eq2 (a b : W) (st : Sto) : NoX (opEqD a b st) := fun x st' e => by
  unfold opEqD at e
  split at e
  · cases e
  · exact nox_data _ _ _ _ _ e
theorem nox_ne2 (a b : W) (st : Sto) : NoX (opNeD a b st) := fun x st' e => by
  unfold opNeD at e
  split at e
  · cases e
  · exact nox_data _ _ _ _ _ e
theorem op_eq2 {X : Cx} (hu : X.A.units + 64 < cLine) : OpR X (compareOp .Eq) (rOr rEq (rData X.w X.K dEq)) := op_or2 op_eq (op_dEq hu)
theorem op_ne2 {X : Cx} (hu : X.A.units + 64 < cLine) : OpR X (compareOp .NotEq) (rOr rNe (rData X.w X.K dNe)) := op_or2 op_ne (op_dNe hu)

/-! ### + of anything -/
def opAdd : O2 := fun a b st => match a, b with
  | .int i, .int j => ret (.int (i + j)) st
  | .str x, .str y => if szW (x.length + y.length) then ret (.str (x ++ y)) st else none
  | .tup xs, .tup ys => if szW (xs.length + ys.length) then ret (.tup (xs ++ ys)) st else none
  | .ref m, .ref n => match st[m]?, st[n]? with
    | some (.lst xs), some (.lst ys) => newL (xs ++ ys) st
    | _, _ => none
  | _, _ => none
def rStr2 : R2 := fun x y H Q => ∃ i j, x = .str i ∧ y = .str j ∧ i.length + j.length ≤ sizeLine ∧ Q (.str (i ++ j)) H
abbrev rAdd4 (K : PySem.W.Frag) : R2 := rOr (rI0 fun i j => .int (i + j)) (rOr rStr2 (rOr rCat (rCatA K)))
theorem op_add4 {X : Cx} : OpR X (binaryOp .Add) (rAdd4 X.K) := op_or2 op_add (op_or2 op_add_str (op_or2 op_cat op_catA))
theorem opr_add {K : PySem.W.Frag} : OPR w0 K (rAdd4 K) opAdd := by
  intro x y H Q ρ st st' a b w R ra rb e p
  unfold opAdd at e
  split at e
  · cases e; cases ra; cases rb
    exact .inl ⟨_, _, rfl, rfl, p _ H ρ (Ext.refl _ _) R (.int _)⟩
  · split at e
    · rename_i hz
      cases e; cases ra; cases rb
      exact .inr (.inl ⟨_, _, rfl, rfl, sz_ok hz, p _ H ρ (Ext.refl _ _) R (.str _)⟩)
    · cases e
  · split at e
    · rename_i xs ys hz
      cases e
      cases ra with
      | @tup a1 us _ h1 r1 =>
      cases rb with
      | @tup a2 vs _ h2 r2 =>
      have hz := sz_ok hz
      rw [r1.length, r2.length] at hz
      refine .inr (.inr (.inr ⟨a1, a2, us, vs, rfl, rfl, h1, h2, hz, fun z => ?_, fun _ z => ?_, fun _ _ q hq => ?_⟩))
      · subst z
        cases r1
        exact p _ H ρ (Ext.refl _ _) R (.tup h2 r2)
      · subst z
        cases r2
        refine p _ H ρ (Ext.refl _ _) R (.tup h1 ?_)
        rw [List.append_nil]; exact r1
      · exact p _ _ ρ (Ext.tup hq) (R.tup hq) (.tup (SqT.of upd_same) ((r1.append r2).mono R (Ext.tup hq)))
    · cases e
  · split at e
    · rename_i m n _ _ xs ys h1 h2
      cases ra with
      | @ref _ a1 k1 =>
      cases rb with
      | @ref _ a2 k2 =>
      obtain ⟨us, e1, r1⟩ := R.ob m a1 _ k1 h1
      obtain ⟨vs, e2, r2⟩ := R.ob n a2 _ k2 h2
      obtain ⟨hz, q⟩ := new_go (EX := fun _ _ _ _ _ => False) (U := fun _ _ _ _ => False) (σ := []) (Q := Q) R (r1.append r2) e p
      rw [List.length_append] at hz
      exact .inr (.inr (.inl ⟨a1, a2, us, vs, rfl, rfl, e1, e2, hz, q⟩))
    · cases e
  · cases e
theorem newL_nox (ws : List W) (st : Sto) : NoX (newL ws st) := fun x st' e => by
  have h := (newL_some e).2
  cases h
theorem nox_add (a b : W) (st : Sto) : NoX (opAdd a b st) := fun x st' e => by
  unfold opAdd at e
  split at e
  · cases e
  · split at e <;> cases e
  · split at e <;> cases e
  · split at e
    · exact newL_nox _ _ _ _ e
    · cases e
  · cases e

/-! ### xs * n -/
def opRepL : O2 := fun a b st => match a, b with
  | .ref m, .int k => match st[m]? with
    | some (.lst ws) => if decide (-(2 ^ 63) ≤ k) && decide (k < 2 ^ 63) then newL (List.replicate k.toNat ws).flatten st else none
    | _ => none
  | _, _ => none
theorem repl_rep {K : PySem.W.Frag} {H : Hp} {ρ : List Addr} {ws : List W} {xs : List V} (r : RepAll K H ρ ws xs) : ∀ n : Nat, RepAll K H ρ (List.replicate n ws).flatten (List.replicate n xs).flatten
  | 0 => .nil
  | n + 1 => r.append (repl_rep r n)
theorem flat_len {α : Type} (xs : List α) : ∀ n : Nat, (List.replicate n xs).flatten.length = xs.length * n
  | 0 => by simp
  | n + 1 => by
    show (xs ++ (List.replicate n xs).flatten).length = _
    rw [List.length_append, flat_len xs n, Nat.mul_succ, Nat.add_comm]
theorem opr_repL {K : PySem.W.Frag} : OPR w0 K rRep opRepL := by
  intro x y H Q ρ st st' a b w R ra rb e p
  unfold opRepL at e
  split at e
  · rename_i m k
    split at e
    · rename_i ws h1
      split at e
      · rename_i hz
        rw [Bool.and_eq_true] at hz
        cases rb
        cases ra with
        | @ref _ a1 k1 =>
        obtain ⟨us, e1, r1⟩ := R.ob m a1 _ k1 h1
        obtain ⟨hz2, q⟩ := new_go (EX := fun _ _ _ _ _ => False) (U := fun _ _ _ _ => False) (σ := []) (Q := Q) R (repl_rep r1 k.toNat) e p
        rw [flat_len] at hz2
        exact ⟨a1, k, us, rfl, rfl, e1, of_decide_eq_true hz.1, of_decide_eq_true hz.2, hz2, q⟩
      · cases e
    · cases e
  · cases e
theorem nox_repL (a b : W) (st : Sto) : NoX (opRepL a b st) := fun x st' e => by
  unfold opRepL at e
  split at e
  · split at e
    · split at e
      · exact newL_nox _ _ _ _ e
      · cases e
    · cases e
  · cases e

/-! ### in -/
def opIn : O2 := fun a b st => match a, b with
  | .str x, .str y => match x.cps.toList with
    | [c] => ret (.bl (decide (c ∈ y.cps.toList))) st
    | _ => none
  | _, _ => opData dIn a b st
def opNotIn : O2 := fun a b st => match a, b with
  | .str x, .str y => match x.cps.toList with
    | [c] => ret (.bl (!decide (c ∈ y.cps.toList))) st
    | _ => none
  | _, _ => opData dNotIn a b st
def rSign (f : Bool → Bool) : R2 := fun x y H Q => ∃ (c : Nat) (z : Str), x = .str ⟨#[c]⟩ ∧ y = .str z ∧ Q (.bl (f (decide (c ∈ z.cps.toList)))) H
theorem op_in2 {X : Cx} (hu : X.A.units + 65 < cLine) : OpR X (compareOp .In) (rOr (rSign id) (rData X.w X.K dIn)) := op_or2 op_in_sign (op_dIn hu)
theorem op_notIn2 {X : Cx} (hu : X.A.units + 65 < cLine) : OpR X (compareOp .NotIn) (rOr (rSign not) (rData X.w X.K dNotIn)) := op_or2 op_notIn_sign (op_dNotIn hu)
theorem str_one {x : Str} {c : Nat} (h : x.cps.toList = [c]) : x = ⟨#[c]⟩ := by
  obtain ⟨⟨l⟩⟩ := x
  have h : l = [c] := h
  subst h
  rfl
theorem opr_in {K : PySem.W.Frag} : OPR w0 K (rOr (rSign id) (rData w0 K dIn)) opIn := by
  intro x y H Q ρ st st' a b w R ra rb e p
  unfold opIn at e
  split at e
  · split at e
    · rename_i x y _ c hc
      cases e; cases ra; cases rb
      exact .inl ⟨c, _, by rw [str_one hc], rfl, p _ H ρ (Ext.refl _ _) R (.bl _)⟩
    · cases e
  · exact .inr (opr_data R ra rb e p)
theorem opr_notIn {K : PySem.W.Frag} : OPR w0 K (rOr (rSign not) (rData w0 K dNotIn)) opNotIn := by
  intro x y H Q ρ st st' a b w R ra rb e p
  unfold opNotIn at e
  split at e
  · split at e
    · rename_i x y _ c hc
      cases e; cases ra; cases rb
      exact .inl ⟨c, _, by rw [str_one hc], rfl, p _ H ρ (Ext.refl _ _) R (.bl _)⟩
    · cases e
  · exact .inr (opr_data R ra rb e p)
theorem nox_in (a b : W) (st : Sto) : NoX (opIn a b st) := fun x st' e => by
  unfold opIn at e
  split at e
  · split at e <;> cases e
  · exact nox_data _ _ _ _ _ e
theorem nox_notIn (a b : W) (st : Sto) : NoX (opNotIn a b st) := fun x st' e => by
  unfold opNotIn at e
  split at e
  · split at e <;> cases e
  · exact nox_data _ _ _ _ _ e
/-! ### is None -/
def opIsN : O2 := fun a b st => match b with
  | .non => ret (.bl (match a with | .non => true | _ => false)) st
  | _ => none
def opNotN : O2 := fun a b st => match b with
  | .non => ret (.bl (match a with | .non => false | _ => true)) st
  | _ => none
def rIsN (f : Bool → Bool) : R2 := fun x y H Q => y = .non ∧ Q (.bl (f (decide (x = .non)))) H
theorem opr_isN {K : PySem.W.Frag} : OPR w0 K (rIsN id) opIsN := by
  intro x y H Q ρ st st' a b w R ra rb e p
  unfold opIsN at e
  split at e
  · cases e; cases rb
    refine ⟨rfl, p _ H ρ (Ext.refl _ _) R ?_⟩
    cases ra <;> exact .bl _
  · cases e
theorem opr_notN {K : PySem.W.Frag} : OPR w0 K (rIsN not) opNotN := by
  intro x y H Q ρ st st' a b w R ra rb e p
  unfold opNotN at e
  split at e
  · cases e; cases rb
    refine ⟨rfl, p _ H ρ (Ext.refl _ _) R ?_⟩
    cases ra <;> exact .bl _
  · cases e
theorem nox_isN (a b : W) (st : Sto) : NoX (opIsN a b st) := fun x st' e => by
  unfold opIsN at e
  split at e <;> cases e
theorem nox_notN (a b : W) (st : Sto) : NoX (opNotN a b st) := fun x st' e => by
  unfold opNotN at e
  split at e <;> cases e
theorem op_isN' {X : Cx} : OpR X (compareOp .Is) (rIsN id) := op_isN
theorem op_notN' {X : Cx} : OpR X (compareOp .IsNot) (rIsN not) := op_notN

/-! ### a[i], a[lo:hi] -/
theorem atI_rep {K : PySem.W.Frag} {H : Hp} {ρ : List Addr} {ws : List W} {xs : List V} {i : Int} {w : W} (r : RepAll K H ρ ws xs) (h : atI ws i = some w) : ∃ v, atI xs i = some v ∧ Rep K H ρ w v := by
  unfold atI at h ⊢
  rw [r.length] at h
  cases e : ixN xs.length i with
  | none => rw [e] at h; cases h
  | some j => rw [e] at h; exact r.get h
def opIx : O2 := fun a b st => match a, b with
  | .tup ws, .int i => (atI ws i).map fun w => (.ok w, st)
  | .ils ws, .int i => (atI ws i).map fun w => (.ok w, st)
  | .str x, .int i => if szW x.length then (atI x.cps.toList i).map fun c => (.ok (.str ⟨#[c]⟩), st) else none
  | .ref k, .int i => match st[k]? with
    | some (.lst ws) => (atI ws i).map fun w => (.ok w, st)
    | _ => none
  | _, _ => none
theorem opr_ix {K : PySem.W.Frag} : OPR w0 K (rIx K) opIx := by
  intro x y H Q ρ st st' a b w R ra rb e p
  unfold opIx at e
  split at e
  · rename_i ws i
    cases rb
    cases h : atI ws i with
    | none => rw [h] at e; cases e
    | some w' =>
      rw [h] at e; cases e
      cases ra with
      | tup hs hr =>
        obtain ⟨v, h1, h2⟩ := atI_rep hr h
        exact .inr (.inl ⟨_, _, i, v, rfl, rfl, hs, h1, p v H ρ (Ext.refl _ _) R h2⟩)
  · rename_i ws i
    cases rb
    cases h : atI ws i with
    | none => rw [h] at e; cases e
    | some w' =>
      rw [h] at e; cases e
      cases ra with
      | ils hs hr =>
        obtain ⟨v, h1, h2⟩ := atI_rep hr h
        exact .inl ⟨_, _, i, v, rfl, rfl, hs.sq, h1, p v H ρ (Ext.refl _ _) R h2⟩
  · rename_i z i
    cases rb; cases ra
    split at e
    · rename_i hz
      cases h : atI z.cps.toList i with
      | none => rw [h] at e; cases e
      | some c =>
        rw [h] at e; cases e
        exact .inr (.inr ⟨z, i, c, rfl, rfl, sz_ok hz, h, p _ H ρ (Ext.refl _ _) R (.str _)⟩)
    · cases e
  · rename_i k i
    cases rb
    cases ra with
    | @ref _ a1 k1 =>
    have go : ∀ ws us, Rd H a1 (.lst us) → RepAll K H ρ ws us → ((atI ws i).map fun w => (DI.R.ok w, st)) = some (DI.R.ok w, st') → rIx K (.ref a1) (.int i) H Q := fun ws us h1 h2 e => by
      cases h : atI ws i with
      | none => rw [h] at e; cases e
      | some w' =>
        rw [h] at e; cases e
        obtain ⟨v, h3, h4⟩ := atI_rep h2 h
        exact .inl ⟨_, _, i, v, rfl, rfl, .inl h1, h3, p v H ρ (Ext.refl _ _) R h4⟩
    split at e
    · rename_i ws hw
      obtain ⟨us, e1, r1⟩ := R.ob k a1 _ k1 hw
      exact go ws us (.inl e1) r1 e
    · cases e
  · cases e
theorem map_nox {α : Type} {o : Option α} {f : α → W} {st : Sto} : NoX (o.map fun a => (R.ok (f a), st)) := fun x st' e => by
  cases o <;> cases e
theorem nox_ix (a b : W) (st : Sto) : NoX (opIx a b st) := fun x st' e => by
  unfold opIx at e
  split at e
  · exact map_nox (f := fun w => w) _ _ e
  · exact map_nox (f := fun w => w) _ _ e
  · split at e
    · exact map_nox _ _ e
    · cases e
  · split at e
    · exact map_nox (f := fun w => w) _ _ e
    · cases e
  · cases e
section
variable {X : Cx} {EX : XR} {U : WX} {a b : Expr} {pos : Pos}
theorem pd_ix {fa fb : FE} (ha : PD X EX U a fa) (hb : PD X EX U b fb) (hs : PlainIx b := by exact fun _ _ => rfl) : PD X EX U (.Subscript a b pos) (fOp opIx fa fb) :=
  (pe_ix ix_seq ha hb hs).imp fun _ _ _ h => op_go opr_ix nox_ix h
def cutW (ws : List W) (lo hi : Option Int) : List W := (ws.drop (HT.sIx ws.length 0 lo)).take (HT.sIx ws.length ws.length hi - HT.sIx ws.length 0 lo)
theorem cutW_rep {K : PySem.W.Frag} {H : Hp} {ρ : List Addr} {ws : List W} {xs : List V} (r : RepAll K H ρ ws xs) (lo hi : Option Int) : RepAll K H ρ (cutW ws lo hi) (cutV xs lo hi) := by
  unfold cutW cutV
  rw [r.length]
  exact (r.drop _).take _
/-- a part of a slice -/
abbrev FO := Evn → Sto → Out (Option Int)
def fPart (f : FE) : FO := fun env st => bnd (f env st) fun w st => match w with
  | .int i => ret (some i) st
  | _ => none
def fNoPart : FO := fun _ st => ret none st
def rP : Rl (Option Int) (Option Int) := fun _ _ a b => a = b
theorem mono_p {K : PySem.W.Frag} : Mono w0 K rP := fun _ _ _ _ _ _ _ _ _ h => h
abbrev PDO (X : Cx) (EX : XR) (U : WX) (o : Option Expr) (f : FO) : Prop := PO X o (tG X.w X.K EX U rP f)
theorem _root_.L2.PO.imp {X : Cx} {o : Option Expr} {t t' : TO} (h : PO X o t) (w : ∀ σ H Q, t' σ H Q → t σ H Q) : PO X o t' := ⟨fun pins s σ H Q I q => h.run pins s σ H Q I (w σ H Q q)⟩
theorem pdo_none : PDO X EX U none fNoPart := po_none.imp fun σ H Q ⟨ρ, env, st, r, st', R, E, e, p⟩ => by
  cases e
  exact p _ H ρ (Ext.refl _ _) R rfl
theorem pdo_some {e : Expr} {f : FE} (h : PD X EX U e f) : PDO X EX U (some e) (fPart f) := by
  refine (po_some h).imp fun σ H Q h => ?_
  refine (tG_bind (r1 := Rep X.K) (g := fun _ w st => match w with | .int i => ret (some i) st | _ => none) h).imp fun x H1 h1 => ?_
  obtain ⟨ρ, env, st, w, r', st', R, E, rw', e, p⟩ := h1
  cases rw' with
  | int i => cases e; exact ⟨i, rfl, p _ H1 ρ (Ext.refl _ _) R rfl⟩
  | _ => cases e
def opSl : W → Option Int → Option Int → Sto → Out W := fun a lo hi st => match a with
  | .tup ws => ret (.tup (cutW ws lo hi)) st
  | .ils ws => some (.ok (.ref st.length), st ++ [.lst (cutW ws lo hi)])
  | .ref k => match st[k]? with
    | some (.lst ws) => some (.ok (.ref st.length), st ++ [.lst (cutW ws lo hi)])
    | _ => none
  | _ => none
def fSl (fa : FE) (fl fh : FO) : FE := fun env st => bnd (fa env st) fun a st => bnd (fl env st) fun lo st => bnd (fh env st) fun hi st => opSl a lo hi st
theorem sIx_le (n : Nat) : HT.sIx n 0 none = 0 ∧ HT.sIx n n none = n := ⟨rfl, rfl⟩
theorem sl_go {K : PySem.W.Frag} {w : W} {x : V} {lo hi : Option Int} {st st' : Sto} {H : Hp} {ρ : List Addr} {Q : VK} {r : DI.R W} {σ : L2.St} (hR : HR w0 K H ρ st) (rw' : Rep K H ρ w x) (e : opSl w lo hi st = some (r, st')) (p : Post w0 K EX U (Rep K) σ H ρ r st' Q) :
    rSlA K x lo hi H Q ∨ rSlL K x lo hi H Q := by
  unfold opSl at e
  split at e
  · cases e
    cases rw' with
    | @tup a1 us _ h1 r1 =>
    refine .inl ⟨a1, us, rfl, h1, fun hw => ?_, fun _ q hq => ?_⟩
    · refine p _ H ρ (Ext.refl _ _) hR (.tup h1 ?_)
      have c := cutW_rep r1 lo hi
      have e : cutV us lo hi = us := by
        unfold cutV
        rw [hw.1, hw.2]; simp
      rw [e] at c; exact c
    · exact p _ _ ρ (Ext.tup hq) (hR.tup hq) (.tup (SqT.of upd_same) ((cutW_rep r1 lo hi).mono hR (Ext.tup hq)))
  · cases e
    cases rw' with
    | @ils a1 us _ h1 r1 =>
    refine .inr ⟨a1, us, rfl, h1.sq, fun q hq => ?_⟩
    refine p _ _ (ρ ++ [q]) (Ext.alloc hq) (hR.lst hq (cutW_rep r1 lo hi)) (.ref ?_)
    rw [← hR.len]; simp
  · rename_i k
    cases rw' with
    | @ref _ a1 k1 =>
    have go : ∀ ws us, Rd H a1 (.lst us) → RepAll K H ρ ws us → (some (DI.R.ok (W.ref st.length), st ++ [Ob.lst (cutW ws lo hi)]) : Out W) = some (r, st') → rSlL K (.ref a1) lo hi H Q := fun ws us h1 h2 e => by
      cases e
      refine ⟨a1, us, rfl, .inl h1, fun q hq => ?_⟩
      refine p _ _ (ρ ++ [q]) (Ext.alloc hq) (hR.lst hq (cutW_rep h2 lo hi)) (.ref ?_)
      rw [← hR.len]; simp
    split at e
    · rename_i ws hw
      obtain ⟨us, e1, r1⟩ := hR.ob k a1 _ k1 hw
      exact .inr (go ws us (.inl e1) r1 e)
    · cases e
  · cases e
theorem pd_sl {lo hi : Option Expr} {p2 : Pos} {fa : FE} {fl fh : FO} (ha : PD X EX U a fa) (hl : PDO X EX U lo fl) (hh : PDO X EX U hi fh) : PD X EX U (.Subscript a (.Slice lo hi none p2) pos) (fSl fa fl fh) := by
  refine (pe_slice (SlR.or sl_tupA sl_list) ha hl hh).imp fun σ H Q h => ?_
  refine (tG_bind (r1 := Rep X.K) (g := fun env a st => bnd (fl env st) fun lo st => bnd (fh env st) fun hi st => opSl a lo hi st) h).imp fun x H1 h1 => ?_
  refine (tK_tG (tK_bind (r1 := rP) (f := fun env _ st => fl env st) (g := fun env a lo st => bnd (fh env st) fun hi st => opSl a lo hi st) mono_rep h1)).imp fun y H2 h2 => ?_
  refine (tK_tG (tK_bind (r1 := rP) (f := fun env _ st => fh env st) (g := fun env (c : W × Option Int) hi st => opSl c.1 c.2 hi st) (fun _ _ _ _ _ _ _ R e h => ⟨h.1.mono R e, h.2⟩) h2)).imp fun z H3 h3 => ?_
  obtain ⟨ρ, env, st, ⟨⟨w, lo'⟩, hi'⟩, r', st', hR, E, ⟨⟨rw', r1⟩, r2⟩, e, p⟩ := h3
  have r1 : lo' = y := r1
  have r2 : hi' = z := r2
  subst r1 r2
  exact sl_go hR rw' e p
end
end DI

namespace DI
open PySem L2

abbrev OC := List W → Sto → Out W
def CLR (w0 : World) (K : PySem.W.Frag) (r : List V → Hp → VK → Prop) (op : OC) : Prop := ∀ {vs : List V} {H : Hp} {Q : VK} {ρ : List Addr} {st st' : Sto} {ws : List W} {w : W}, HR w0 K H ρ st → RepAll K H ρ ws vs → op ws st = some (.ok w, st') →
  (∀ v H' ρ', Ext H ρ H' ρ' → HR w0 K H' ρ' st' → Rep K H' ρ' w v → Q v H') → r vs H Q
def fCB (op : OC) (fa : FA) : FE := fun env st => bnd (fa env st) fun ws st => op ws st
section
variable {X : Cx} {EX : XR} {U : WX} {x : Str} {p pos : Pos} {e : Expr} {es : List Expr} {id T : String} {r : List V → Hp → VK → Prop}
theorem cb_go {op : OC} {fa : FA} (hs : CLR X.w X.K r op) (hx : ∀ ws st, NoX (op ws st)) {σ : L2.St} {H : Hp} {Q : VK} (h : tI X.w X.K EX U (fCB op fa) σ H Q) : tCB r (tA X.w X.K EX U fa) σ H Q := by
  refine (tG_bind (r1 := RepAll X.K) (g := fun env ws st => op ws st) h).imp fun x H1 h1 => ?_
  obtain ⟨ρ, env, st, ws, r', st', hR, E, rw', e, p⟩ := h1
  cases r' with
  | ok w => exact hs hR rw' e p
  | exc x => exact absurd e (hx _ _ _ _)
theorem pd_callB {op : OC} {fa : FA} (hc : CallR X (.builtin id) r) (hs : CLR X.w X.K r op) (hx : ∀ ws st, NoX (op ws st)) (hg : Gl X x) (hm : X.mg x = none) (hv : bootBuiltins x = some (.builtin id)) (ha : PDA X EX U (e :: es) fa) (hn : x ≠ "__name__" := by decide) (hdb : (x == ("__debug__" : Str)) = false := by decide)
    (he : starEach (e :: es) X.env = (false, eval e X.env) :: starEach es X.env := by rfl) (hpl : (backTo pos (starEach es X.env)).any (·.1) = false := by rfl) : PD X EX U (.Call (.Name x p) (e :: es) [] pos) (fCB op fa) :=
  (pe_callB hc hg hm hv ha hn hdb he hpl).imp fun _ _ _ h => cb_go hs hx h
theorem pd_callTy {op : OC} {fa : FA} (hc : CallR X (.type T) r) (hs : CLR X.w X.K r op) (hx : ∀ ws st, NoX (op ws st)) (hg : Gl X x) (hm : X.mg x = none) (hv : bootBuiltins x = some (.type T)) (ha : PDA X EX U (e :: es) fa) (hn : x ≠ "__name__" := by decide) (hdb : (x == ("__debug__" : Str)) = false := by decide)
    (he : starEach (e :: es) X.env = (false, eval e X.env) :: starEach es X.env := by rfl) (hpl : (backTo pos (starEach es X.env)).any (·.1) = false := by rfl) : PD X EX U (.Call (.Name x p) (e :: es) [] pos) (fCB op fa) :=
  (pe_callTy hc hg hm hv ha hn hdb he hpl).imp fun _ _ _ h => cb_go hs hx h
end

/-! ### len -/
def lenW (w : W) (st : Sto) : Option Nat := match w with
  | .str x => if szW x.length then some x.length else none
  | .tup ws => some ws.length
  | .ils ws => some ws.length
  | .ref k => match st[k]? with
    | some (.lst ws) => some ws.length
    | _ => none
  | _ => none
def opLen : OC := fun ws st => match ws with
  | [w] => match lenW w st with
    | some n => ret (.int n) st
    | none => none
  | _ => none
def rLen (K : PySem.W.Frag) : List V → Hp → VK → Prop := fun xs H Q => ∃ x n, xs = [x] ∧ LenV K x H n ∧ Q (.int n) H
theorem lenV_of {K : PySem.W.Frag} {H : Hp} {ρ : List Addr} {st : Sto} {w : W} {v : V} {n : Nat} (hR : HR w0 K H ρ st) (r : Rep K H ρ w v) (h : lenW w st = some n) : LenV K v H n := by
  cases r with
  | str x =>
    have h : (if szW x.length then some x.length else none) = some n := h
    split at h
    · rename_i hz; cases h; exact ⟨sz_ok hz, rfl⟩
    · cases h
  | tup hs ha => cases h; exact .inr ⟨_, hs, ha.length⟩
  | ils hs ha => cases h; exact .inl ⟨_, hs.sq, ha.length⟩
  | @ref k a hk =>
    have h : (match st[k]? with | some (.lst ws) => some ws.length | _ => none) = some n := h
    split at h
    · rename_i ws hw
      obtain ⟨us, e1, r1⟩ := hR.ob k a _ hk hw
      cases h
      exact .inl ⟨us, .inl (.inl e1), r1.length⟩
    · cases h
  | _ => cases h
theorem clr_len {K : PySem.W.Frag} : CLR w0 K (rLen K) opLen := by
  intro vs H Q ρ st st' ws w hR rs e p
  unfold opLen at e
  split at e
  · split at e
    · rename_i w' n hn
      cases e
      cases rs with
      | cons r1 r2 =>
        cases r2
        exact ⟨_, n, rfl, lenV_of hR r1 hn, p _ H ρ (Ext.refl _ _) hR (.int _)⟩
    · cases e
  · cases e
theorem nox_len (ws : List W) (st : Sto) : NoX (opLen ws st) := fun x st' e => by
  unfold opLen at e
  split at e
  · split at e <;> cases e
  · cases e
/-! ### repr -/
mutual
/-- the signs of all texts are signs; no dict holds anything -/
def txtOk : PyData → Bool
  | .none | .bool _ | .int _ => true
  | .str x => PyData.strOk x
  | .list xs | .tuple xs => txtOkAll xs
  | .dict kvs => kvs.isEmpty
def txtOkAll : List PyData → Bool
  | [] => true
  | x :: xs => txtOk x && txtOkAll xs
end
mutual
/-- the text of repr is not longer -/
def bdD : PyData → Nat
  | .none | .bool _ => 5
  | .int _ => 2000
  | .str x => 10 * x.length + 2
  | .list xs | .tuple xs => bdAll xs + 4
  | .dict _ => 2
def bdAll : List PyData → Nat
  | [] => 0
  | x :: xs => (bdD x + 2) + bdAll xs
end
theorem join_le (ts : List Str) : (Str.join ", " ts).length ≤ piled ts := by
  cases ts with
  | nil => decide
  | cons t r => have := join_length_add (t :: r) (by simp); omega
mutual
theorem shown_le : ∀ d : PyData, d.showable = true → txtOk d = true → d.shown.length ≤ bdD d
  | .none, _, _ => by decide
  | .bool b, _, _ => by cases b <;> decide
  | .int i, h, _ => by
    have h : i.natAbs.log2 < 1920 := by simpa [PyData.showable] using h
    have e := int_text_length_le (k := 1920) (by decide) h
    show (Str.ofString (toString i)).length ≤ 2000
    rw [ofString_length]; omega
  | .str x, _, h => by
    have h : x.cps.all (· < 0x110000) = true := h
    rw [← Array.all_toList, List.all_eq_true] at h
    show (reprText x).length ≤ 10 * x.length + 2
    exact StrLaws.reprText_len x fun c hc => Nat.lt_trans (of_decide_eq_true (h c hc)) (by decide)
  | .list xs, h, h2 => by
    have q := shownAll_le xs (by simpa [PyData.showable] using h) (by simpa [txtOk] using h2)
    show (listText (PyData.shownAll xs)).length ≤ bdAll xs + 4
    rw [listText_eq_join, strLen_append, strLen_append]
    have j := join_le (PyData.shownAll xs)
    have e1 : ((("[" : String) : Str)).length = 1 := rfl
    have e2 : ((("]" : String) : Str)).length = 1 := rfl
    omega
  | .tuple xs, h, h2 => by
    have q := shownAll_le xs (by simpa [PyData.showable] using h) (by simpa [txtOk] using h2)
    show (tupleText (PyData.shownAll xs)).length ≤ bdAll xs + 4
    unfold tupleText
    rw [strLen_append, strLen_append]
    have j := join_le (PyData.shownAll xs)
    have e1 : ((("(" : String) : Str)).length = 1 := rfl
    have e3 : (((if (PyData.shownAll xs).length == 1 then ",)" else ")" : String) : Str)).length ≤ 2 := by split <;> decide
    omega
  | .dict kvs, _, h => by
    have h : kvs.isEmpty = true := h
    cases kvs with
    | nil => decide +kernel
    | cons _ _ => cases h
theorem shownAll_le : ∀ xs : List PyData, PyData.showableAll xs = true → txtOkAll xs = true → piled (PyData.shownAll xs) ≤ bdAll xs
  | [], _, _ => by decide
  | x :: xs, h, h2 => by
    have h : x.showable = true ∧ PyData.showableAll xs = true := by simpa [PyData.showableAll] using h
    have h2 : txtOk x = true ∧ txtOkAll xs = true := by simpa [txtOkAll] using h2
    have a := shown_le x h.1 h2.1
    have b := shownAll_le xs h.2 h2.2
    show piled (x.shown :: PyData.shownAll xs) ≤ (bdD x + 2) + bdAll xs
    rw [piled_cons]; omega
end
def okR (d : PyData) : Bool := d.showable && decide (d.depth ≤ 40) && (txtOk d && decide (bdD d ≤ 1000000))
theorem okR_len {d : PyData} (h : okR d = true) : d.shown.length ≤ sizeLine := by
  unfold okR at h
  simp only [Bool.and_eq_true] at h
  exact Nat.le_trans (shown_le d h.1.1 h.2.1) (Nat.le_trans (of_decide_eq_true h.2.2) (by decide))
def opRepr : OC := fun ws st => match ws with
  | [w] => match toD st 24 w with
    | some d => if okR d then ret (.str d.shown) st else none
    | none => none
  | _ => none
def rRepr (w0 : World) (K : PySem.W.Frag) : List V → Hp → VK → Prop := fun xs H Q => ∃ (x : V) (ρ : List Addr) (st : Sto) (w : W) (d : PyData), xs = [x] ∧ HR w0 K H ρ st ∧ Rep K H ρ w x ∧ toD st 24 w = some d ∧ okR d = true ∧ Q (.str d.shown) H
theorem call_repr {X : Cx} (hg : X.A.guards = some []) (hu : X.A.units + 64 < cLine) : CallR X (.builtin "repr") (rRepr X.w X.K) := by
  intro pins s σ H xs us Q I r h
  obtain ⟨x, ρ, st, w, d, rfl, hR, rw', ed, ok, q⟩ := h
  cases r with
  | cons r1 r2 =>
    rename_i u us
    cases r2
    obtain ⟨as, rd, hn⟩ := reads_of I hR _ _ _ _ _ rw' r1 ed
    have o4 := okR_len ok
    unfold okR at ok
    rw [Bool.and_eq_true, Bool.and_eq_true] at ok
    obtain ⟨⟨o1, o2⟩, _⟩ := ok
    have o2 := of_decide_eq_true o2
    have hsm : d.hasDict = true → sysModules ∉ as := fun _ => hn
    cases rd with
    | none => exact P.repr_of_none ⟨.str _, H, I.tok _, ⟨_, rfl⟩, q⟩
    | bool b => exact P.repr_of_bool ⟨.str _, H, I.tok _, ⟨_, rfl⟩, by cases b <;> exact q⟩
    | int i t => exact P.repr_of_int (of_decide_eq_true o1) ⟨.str _, H, I.tok _, ⟨_, rfl⟩, q⟩
    | str x t => exact P.repr_of_str ⟨.str _, H, I.tok _, ⟨_, rfl⟩, q⟩ o4
    | list h1 h2 h3 h4 => exact repr_of_reads' (.list h1 h2 h3 h4) o1 hsm hg (by omega) (fun _ _ e => e) (fun h' u tk hk => ⟨.str _, H, I.kept hk, ⟨_, rfl⟩, q⟩) o4
    | tuple h1 h2 h3 h4 => exact repr_of_reads' (.tuple h1 h2 h3 h4) o1 hsm hg (by omega) (fun _ _ e => e) (fun h' u tk hk => ⟨.str _, H, I.kept hk, ⟨_, rfl⟩, q⟩) o4
    | dict h1 h2 h3 h4 h5 => exact repr_of_reads' (.dict h1 h2 h3 h4 h5) o1 hsm hg (by omega) (fun _ _ e => e) (fun h' u tk hk => ⟨.str _, H, I.kept hk, ⟨_, rfl⟩, q⟩) o4
theorem clr_repr {K : PySem.W.Frag} : CLR w0 K (rRepr w0 K) opRepr := by
  intro vs H Q ρ st st' ws w hR rs e p
  unfold opRepr at e
  split at e
  · split at e
    · rename_i w' d hd
      split at e
      · rename_i ok
        cases e
        cases rs with
        | cons r1 r2 =>
          cases r2
          exact ⟨_, ρ, _, _, d, rfl, hR, r1, hd, ok, p _ H ρ (Ext.refl _ _) hR (.str _)⟩
      · cases e
    · cases e
  · cases e
theorem nox_repr (ws : List W) (st : Sto) : NoX (opRepr ws st) := fun x st' e => by
  unfold opRepr at e
  split at e
  · split at e
    · split at e <;> cases e
    · cases e
  · cases e
/-! ### isinstance with one built-in class -/
def tyW (w : W) (st : Sto) : Option String := match w with
  | .non => some "NoneType"
  | .bl _ => some "bool"
  | .int _ => some "int"
  | .str _ => some "str"
  | .tup _ => some "tuple"
  | .ils _ => some "list"
  | .ref k => match st[k]? with
    | some (.lst _) => some "list"
    | some .emp => some "dict"
    | some (.dct _) => some "dict"
    | _ => none
  | .adr _ => none
  | .exn _ _ _ => none
def isiB (c t : String) : Option Bool := kitB t c
def opIsi (c : String) : OC := fun ws st => match ws with
  | [w] => match tyW w st with
    | some t => match isiB c t with
      | some b => ret (.bl b) st
      | none => none
    | none => none
  | _ => none
/-- .. or a dict whose keys are tuples -/
def TyY (w0 : World) (K : PySem.W.Frag) (H : Hp) (x : V) (t : Value) : Prop := TyX K H x t ∨ ∃ a ys, x = .ref a ∧ t = .type "dict" ∧ H a = some (DctO w0 a ys)
theorem kit_of2 {X : Cx} {pins : List (Addr × Obj)} {σ : L2.St} {H : Hp} {s : Shared} {x : V} {u t : Value} (I : Inv X pins σ H s) (rx : RelV x u) (ty : TyY X.w X.K H x t) : ∃ P : Heap → Prop, PySem.W.KitX X.K u t P ∧ P s.heap ∧ u ≠ .builtin "__main__.__loader__#opaque" := by
  rcases ty with ty | ⟨a, ys, rfl, rfl, e⟩
  · exact kit_of I rx ty
  · cases (show u = Value.ref a from rx)
    obtain ⟨⟨_, o, es, ep, h1, h2, _⟩, _⟩ := I.hok a _ e
    exact ⟨_, PySem.W.kitx_dict, ⟨o, h1, h2.1⟩, fun z => nomatch z⟩
def rIsi2 (w0 : World) (K : PySem.W.Frag) : List V → Hp → VK → Prop := fun xs H Q => ∃ (x c : V) (t u : Value) (b : Bool), xs = [x, c] ∧ ClsV c u ∧ TyY w0 K H x t ∧ PySem.W.kitOne K t u = some b ∧ Q (.bl b) H
def rIsiT2 (w0 : World) (K : PySem.W.Frag) : List V → Hp → VK → Prop := fun xs H Q => ∃ (x : V) (tp : Addr) (cs : List V) (t : Value) (us : List Value) (b : Bool), xs = [x, .ref tp] ∧ H tp = some (.tup cs) ∧ Paired ClsV cs us ∧ TyY w0 K H x t ∧ PySem.W.kitAny K t us = some b ∧ Q (.bl b) H
theorem call_isi2 {X : Cx} : CallR X (.builtin "isinstance") (rIsi2 X.w X.K) := by
  intro pins s σ H xs us Q I r h
  obtain ⟨x, c, t, u, b, rfl, k, ty, e, q⟩ := h
  obtain ⟨u1, u2, rfl, r1, r2⟩ := vals2 r
  have e2 := k.eq r2
  subst e2
  obtain ⟨P, Z, p, hx⟩ := kit_of2 I r1 ty
  exact PySem.W.kia_one Z I.kIn p e hx fun tk => ⟨.bl b, H, I.tok tk, rfl, q⟩
theorem call_isiT2 {X : Cx} : CallR X (.builtin "isinstance") (rIsiT2 X.w X.K) := by
  intro pins s σ H xs us Q I r h
  obtain ⟨x, tp, cs, t, ws, b, rfl, hT, k, ty, e, q⟩ := h
  obtain ⟨u1, u2, rfl, r1, r2⟩ := vals2 r
  cases (show u2 = Value.ref tp from r2)
  obtain ⟨P, Z, p, hx⟩ := kit_of2 I r1 ty
  obtain ⟨_, its, rv, o, h1, h2, n, h3⟩ := (show ObjOk X.prog X.w H s.heap tp (.tup cs) from I.hok tp _ hT)
  have e3 := ClsV.all k rv
  subst e3
  obtain ⟨oc, od, dt, sl⟩ := o
  simp only at h2 h3
  subst h2 h3
  exact PySem.W.kia_tup Z I.kIn p h1 e hx fun tk => ⟨.bl b, H, I.tok tk, rfl, q⟩
theorem tyX_of {w0 : World} {K : PySem.W.Frag} {H : Hp} {ρ : List Addr} {st : Sto} {w : W} {v : V} {t : String} (hR : HR w0 K H ρ st) (r : Rep K H ρ w v) (h : tyW w st = some t) : TyY w0 K H v (.type t) := by
  by_cases hd : ∃ k a kvs, w = .ref k ∧ v = .ref a ∧ ρ[k]? = some a ∧ st[k]? = some (.dct kvs)
  · obtain ⟨k, a, kvs, rfl, rfl, hk, hs⟩ := hd
    obtain ⟨ys, vs, e, _⟩ := hR.ob k a _ hk hs
    have h : (match st[k]? with | some (.lst _) => some "list" | some .emp => some "dict" | some (.dct _) => some "dict" | _ => none) = some t := h
    rw [hs] at h
    cases h
    exact .inr ⟨a, ys, rfl, rfl, e⟩
  refine .inl ?_
  cases r with
  | non => cases h; exact .base .non
  | bl b => cases h; exact .base (.bl b)
  | int i => cases h; exact .base (.int i)
  | str x => cases h; exact .base (.str x)
  | tup hs ha =>
    cases h
    rcases hs with (hs | ⟨o, hs⟩) | ⟨o, its, n, hs, hc, _⟩
    · exact .base (.tup hs)
    · exact .fTuple hs
    · exact .kTuple hs hc
  | ils hs ha =>
    cases h
    rcases hs.2 with ⟨o, hs⟩ | ⟨o, its, n, hs, hc, _⟩
    · exact .base (.frz hs)
    · exact .kList hs hc
  | @ref k a hk =>
    have h : (match st[k]? with | some (.lst _) => some "list" | some .emp => some "dict" | some (.dct _) => some "dict" | _ => none) = some t := h
    split at h
    · rename_i ws hw
      obtain ⟨us, e1, r1⟩ := hR.ob k a _ hk hw
      cases h; exact .base (.lst e1)
    · rename_i hw
      have e1 : H a = some (.dK []) := hR.ob k a _ hk hw
      cases h; exact .base (.dK e1)
    · rename_i kvs hw
      exact absurd ⟨k, a, kvs, rfl, rfl, hk, hw⟩ hd
    · cases h
  | adr a => cases h
  | exn q => cases h
section
variable {X : Cx} {EX : XR} {U : WX} {p p2 pos : Pos} {e : Expr} {c : Str} {T : String}
def fIsi (T : String) (f : FE) : FE := fun env st => bnd (f env st) fun w st => opIsi T [w] st
theorem opIsi_some {w : W} {st st' : Sto} {r : DI.R W} (h : opIsi T [w] st = some (r, st')) : ∃ t b, tyW w st = some t ∧ kitB t T = some b ∧ r = .ok (.bl b) ∧ st' = st := by
  have h : (match tyW w st with | some t => (match isiB T t with | some b => ret (W.bl b) st | none => none) | none => none) = some (r, st') := h
  split at h
  · rename_i t ht
    split at h
    · rename_i b hb
      cases h
      exact ⟨t, b, ht, hb, rfl, rfl⟩
    · cases h
  · cases h
theorem pd_isi {f : FE} (he : PD X EX U e f) (hg : Gl X "isinstance") (hm : X.mg "isinstance" = none) (hgc : Gl X c) (hmc : X.mg c = none) (hvc : bootBuiltins c = some (.type T)) (hn : c ≠ "__name__" := by decide) (hd : (c == ("__debug__" : Str)) = false := by decide)
    (h1 : starEach (e :: [.Name c p2]) X.env = (false, eval e X.env) :: starEach [.Name c p2] X.env := by rfl) (h2 : starEach [.Name c p2] X.env = (false, eval (.Name c p2) X.env) :: starEach [] X.env := by rfl)
    (hpl : (backTo pos (starEach [.Name c p2] X.env)).any (·.1) = false := by rfl) : PD X EX U (.Call (.Name "isinstance" p) [e, .Name c p2] [] pos) (fIsi T f) := by
  refine (pe_callB call_isi2 hg hm PyProof.Rows.boot_isinstance (pa_cons he (pa_cons (pe_bltn (v := .ty T) hgc hmc hvc rfl hn hd) pa_nil h2) h1) (by decide) (by decide) h1 hpl).imp fun σ H Q h => ?_
  refine (tG_bind (r1 := Rep X.K) (g := fun env w st => opIsi T [w] st) h).imp fun x H1 h1 => ?_
  obtain ⟨ρ, env, st, w, r', st', hR, E, rw', e, p⟩ := h1
  obtain ⟨t, b, ht, hb, rfl, rfl⟩ := opIsi_some e
  exact ⟨x, .ty T, .type t, .type T, b, rfl, .ty T, tyX_of hR rw' ht, kit_ty hb, p _ H1 ρ (Ext.refl _ _) hR (.bl b)⟩
def kitAnyB (t : String) : List String → Option Bool
  | [] => some false
  | c :: cs => match kitB t c with
    | some true => some true
    | some false => kitAnyB t cs
    | none => none
def fIsiT (Ts : List String) (f : FE) : FE := fun env st => bnd (f env st) fun w st => match tyW w st with
  | some t => match kitAnyB t Ts with
    | some b => ret (.bl b) st
    | none => none
  | none => none
theorem kitAny_of {K : PySem.W.Frag} {t : String} : ∀ {Ts : List String} {b : Bool}, kitAnyB t Ts = some b → PySem.W.kitAny K (.type t) (Ts.map Value.type) = some b
  | [], b, h => by cases h; rfl
  | c :: cs, b, h => by
    unfold kitAnyB at h
    split at h
    · rename_i hk
      cases h
      show PySem.W.kitAny K (.type t) (.type c :: cs.map Value.type) = some true
      unfold PySem.W.kitAny
      rw [kit_ty hk]
    · rename_i hk
      show PySem.W.kitAny K (.type t) (.type c :: cs.map Value.type) = some b
      unfold PySem.W.kitAny
      rw [kit_ty hk]
      exact kitAny_of h
    · cases h
theorem paired_ty : ∀ Ts : List String, Paired ClsV (Ts.map V.ty) (Ts.map Value.type)
  | [] => .nil
  | c :: cs => .cons (.ty c) (paired_ty cs)
theorem pd_isiT {f : FE} {c1 c2 : Str} {T1 T2 : String} {q1 q2 q3 : Pos} {kk : Nat} (he : PD X EX U e f) (hg : Gl X "isinstance") (hm : X.mg "isinstance" = none) (g1 : Gl X c1) (m1 : X.mg c1 = none) (v1 : bootBuiltins c1 = some (.type T1)) (g2 : Gl X c2) (m2 : X.mg c2 = none) (v2 : bootBuiltins c2 = some (.type T2))
    (n1 : c1 ≠ "__name__" := by decide) (d1 : (c1 == ("__debug__" : Str)) = false := by decide) (n2 : c2 ≠ "__name__" := by decide) (d2 : (c2 == ("__debug__" : Str)) = false := by decide)
    (h1 : starEach (e :: [.Tuple [.Name c1 q1, .Name c2 q2] kk q3]) X.env = (false, eval e X.env) :: starEach [.Tuple [.Name c1 q1, .Name c2 q2] kk q3] X.env := by rfl)
    (h2 : starEach [.Tuple [.Name c1 q1, .Name c2 q2] kk q3] X.env = (false, eval (.Tuple [.Name c1 q1, .Name c2 q2] kk q3) X.env) :: starEach [] X.env := by rfl)
    (hpl : (backTo pos (starEach [.Tuple [.Name c1 q1, .Name c2 q2] kk q3] X.env)).any (·.1) = false := by rfl) : PD X EX U (.Call (.Name "isinstance" p) [e, .Tuple [.Name c1 q1, .Name c2 q2] kk q3] [] pos) (fIsiT [T1, T2] f) := by
  refine (pe_callB call_isiT2 hg hm PyProof.Rows.boot_isinstance (pa_cons he (pa_cons (pe_tup (pa_cons (pe_bltn (v := .ty T1) g1 m1 v1 rfl n1 d1) (pa_cons (pe_bltn (v := .ty T2) g2 m2 v2 rfl n2 d2) pa_nil))) pa_nil h2) h1) (by decide) (by decide) h1 hpl).imp fun σ H Q h => ?_
  refine (tG_bind (r1 := Rep X.K) (g := fun env w st => match tyW w st with | some t => (match kitAnyB t [T1, T2] with | some b => ret (W.bl b) st | none => none) | none => none) h).imp fun x H1 h1 => ?_
  obtain ⟨ρ, env, st, w, r', st', hR, E, rw', e, p⟩ := h1
  have e : (match tyW w st with | some t => (match kitAnyB t [T1, T2] with | some b => ret (W.bl b) st | none => none) | none => none) = some (r', st') := e
  split at e
  · rename_i t ht
    split at e
    · rename_i b hb
      cases e
      refine ⟨by show 2 ≤ sizeLine; decide, fun q hq => ?_⟩
      have e1 : Ext H1 ρ (upd H1 q (.tup [.ty T1, .ty T2])) ρ := Ext.tup hq
      refine ⟨x, q, [.ty T1, .ty T2], .type t, [.type T1, .type T2], b, rfl, upd_same, paired_ty [T1, T2], ?_, kitAny_of (Ts := [T1, T2]) hb, p _ _ ρ e1 (hR.tup hq) (.bl b)⟩
      exact tyX_of (hR.tup hq) (rw'.mono hR e1) ht
    · cases e
  · cases e
end
end DI

namespace DI
open PySem L2

/-! ### max, min of two, int of a truth value, list, all -/
def opMax2 : OC := fun ws st => match ws with
  | [.int i, .int j] => ret (.int (if j > i then j else i)) st
  | _ => none
def opMin2 : OC := fun ws st => match ws with
  | [.int i, .int j] => ret (.int (if j < i then j else i)) st
  | _ => none
theorem all2 {K : PySem.W.Frag} {H : Hp} {ρ : List Addr} {a b : W} {vs : List V} (r : RepAll K H ρ [a, b] vs) : ∃ x y, vs = [x, y] ∧ Rep K H ρ a x ∧ Rep K H ρ b y := by
  cases r with
  | cons r1 r2 =>
    cases r2 with
    | cons r2 r3 => cases r3; exact ⟨_, _, rfl, r1, r2⟩
theorem all1 {K : PySem.W.Frag} {H : Hp} {ρ : List Addr} {a : W} {vs : List V} (r : RepAll K H ρ [a] vs) : ∃ x, vs = [x] ∧ Rep K H ρ a x := by
  cases r with
  | cons r1 r2 => cases r2; exact ⟨_, rfl, r1⟩
def rMx : List V → Hp → VK → Prop := fun xs H Q => ∃ i j, xs = [.int i, .int j] ∧ Q (.int (if j > i then j else i)) H
def rMn : List V → Hp → VK → Prop := fun xs H Q => ∃ i j, xs = [.int i, .int j] ∧ Q (.int (if j < i then j else i)) H
theorem clr_max {K : PySem.W.Frag} : CLR w0 K rMx opMax2 := by
  intro vs H Q ρ st st' ws w hR rs e p
  unfold opMax2 at e
  split at e
  · cases e
    obtain ⟨x, y, rfl, h1, h2⟩ := all2 rs
    cases h1; cases h2
    exact ⟨_, _, rfl, p _ H ρ (Ext.refl _ _) hR (.int _)⟩
  · cases e
theorem clr_min {K : PySem.W.Frag} : CLR w0 K rMn opMin2 := by
  intro vs H Q ρ st st' ws w hR rs e p
  unfold opMin2 at e
  split at e
  · cases e
    obtain ⟨x, y, rfl, h1, h2⟩ := all2 rs
    cases h1; cases h2
    exact ⟨_, _, rfl, p _ H ρ (Ext.refl _ _) hR (.int _)⟩
  · cases e
theorem nox_max (ws : List W) (st : Sto) : NoX (opMax2 ws st) := fun x st' e => by
  unfold opMax2 at e
  split at e <;> cases e
theorem nox_min (ws : List W) (st : Sto) : NoX (opMin2 ws st) := fun x st' e => by
  unfold opMin2 at e
  split at e <;> cases e
def opInt : OC := fun ws st => match ws with
  | [.int i] => ret (.int i) st
  | [.bl b] => ret (.int (if b then 1 else 0)) st
  | _ => none
def rInt : List V → Hp → VK → Prop := fun xs H Q => (∃ i, xs = [.int i] ∧ Q (.int i) H) ∨ ∃ k, xs = [.bl k] ∧ Q (.int (if k then 1 else 0)) H
theorem clr_int {K : PySem.W.Frag} : CLR w0 K rInt opInt := by
  intro vs H Q ρ st st' ws w hR rs e p
  unfold opInt at e
  split at e
  · cases e
    obtain ⟨x, rfl, h1⟩ := all1 rs
    cases h1
    exact .inl ⟨_, rfl, p _ H ρ (Ext.refl _ _) hR (.int _)⟩
  · cases e
    obtain ⟨x, rfl, h1⟩ := all1 rs
    cases h1
    exact .inr ⟨_, rfl, p _ H ρ (Ext.refl _ _) hR (.int _)⟩
  · cases e
theorem nox_int (ws : List W) (st : Sto) : NoX (opInt ws st) := fun x st' e => by
  unfold opInt at e
  split at e <;> cases e
/-- the items of a list or a tuple -/
def itemsW (w : W) (st : Sto) : Option (List W) := match w with
  | .tup ws => some ws
  | .ils ws => some ws
  | .ref k => match st[k]? with
    | some (.lst ws) => some ws
    | _ => none
  | _ => none
theorem items_of {K : PySem.W.Frag} {H : Hp} {ρ : List Addr} {st : Sto} {w : W} {v : V} {ws : List W} (hR : HR w0 K H ρ st) (r : Rep K H ρ w v) (h : itemsW w st = some ws) : ∃ a xs, v = .ref a ∧ (SqL K H a xs ∨ SqT K H a xs) ∧ RepAll K H ρ ws xs := by
  cases r with
  | tup hs ha => cases h; exact ⟨_, _, rfl, .inr hs, ha⟩
  | ils hs ha => cases h; exact ⟨_, _, rfl, .inl hs.sq, ha⟩
  | @ref k a hk =>
    have h : (match st[k]? with | some (.lst ws) => some ws | _ => none) = some ws := h
    split at h
    · rename_i ws hw
      obtain ⟨us, e1, r1⟩ := hR.ob k a _ hk hw
      cases h; exact ⟨a, us, rfl, .inl (.inl (.inl e1)), r1⟩
    · cases h
  | _ => cases h
def opList : OC := fun ws st => match ws with
  | [w] => match itemsW w st with
    | some us => some (.ok (.ref st.length), st ++ [.lst us])
    | none => none
  | _ => none
def rListOf (K : PySem.W.Frag) : List V → Hp → VK → Prop := fun xs H Q => ∃ p ys, xs = [.ref p] ∧ (SqL K H p ys ∨ SqT K H p ys) ∧ ∀ l, H l = none → Q (.ref l) (upd H l (.lst ys))
theorem clr_list {K : PySem.W.Frag} : CLR w0 K (rListOf K) opList := by
  intro vs H Q ρ st st' ws w hR rs e p
  unfold opList at e
  split at e
  · split at e
    · rename_i w' us hu
      cases e
      obtain ⟨x, rfl, h1⟩ := all1 rs
      obtain ⟨a, xs, rfl, hs, hr⟩ := items_of hR h1 hu
      refine ⟨a, xs, rfl, hs, fun l hl => p _ _ (ρ ++ [l]) (Ext.alloc hl) (hR.lst hl hr) (.ref ?_)⟩
      rw [← hR.len]; simp
    · cases e
  · cases e
theorem nox_list (ws : List W) (st : Sto) : NoX (opList ws st) := fun x st' e => by
  unfold opList at e
  split at e
  · split at e <;> cases e
  · cases e
def opTuple : OC := fun ws st => match ws with
  | [.tup us] => ret (.tup us) st
  | [w] => match itemsW w st with
    | some us => ret (.tup us) st
    | none => none
  | _ => none
def rTupOf (K : PySem.W.Frag) : List V → Hp → VK → Prop := fun xs H Q => ∃ p ys, xs = [.ref p] ∧ ((SqL K H p ys ∧ ∀ l, H l = none → Q (.ref l) (upd H l (.tup ys))) ∨ (SqT K H p ys ∧ Q (.ref p) H))
theorem clr_tuple {K : PySem.W.Frag} : CLR w0 K (rTupOf K) opTuple := by
  intro vs H Q ρ st st' ws w hR rs e p
  unfold opTuple at e
  split at e
  · cases e
    obtain ⟨x, rfl, h1⟩ := all1 rs
    cases h1 with
    | @tup a xs _ hs hr => exact ⟨a, xs, rfl, .inr ⟨hs, p _ H ρ (Ext.refl _ _) hR (.tup hs hr)⟩⟩
  · split at e
    · rename_i us hu
      cases e
      obtain ⟨x, rfl, h1⟩ := all1 rs
      cases h1 with
      | @tup a xs ws hs hr =>
        cases hu
        exact ⟨a, xs, rfl, .inr ⟨hs, p _ H ρ (Ext.refl _ _) hR (.tup hs hr)⟩⟩
      | @ils a xs ws hs hr =>
        cases hu
        exact ⟨a, xs, rfl, .inl ⟨hs.sq, fun l hl => p _ _ ρ (Ext.tup hl) (hR.tup hl) (.tup (SqT.of upd_same) (hr.mono hR (Ext.tup hl)))⟩⟩
      | @ref k a hk =>
        have hu : (match st[k]? with | some (.lst ws) => some ws | _ => none) = some us := hu
        split at hu
        · rename_i ws hw
          obtain ⟨vs, e1, r1⟩ := hR.ob k a _ hk hw
          cases hu
          exact ⟨a, vs, rfl, .inl ⟨.inl (.inl e1), fun l hl => p _ _ ρ (Ext.tup hl) (hR.tup hl) (.tup (SqT.of upd_same) (r1.mono hR (Ext.tup hl)))⟩⟩
        · cases hu
      | _ => cases hu
    · cases e
  · cases e
theorem nox_tuple (ws : List W) (st : Sto) : NoX (opTuple ws st) := fun x st' e => by
  unfold opTuple at e
  split at e
  · cases e
  · split at e <;> cases e
  · cases e
def allB : List W → Option Bool
  | [] => some true
  | .bl b :: ws => (allB ws).map (b && ·)
  | _ => none
def opAll : OC := fun ws st => match ws with
  | [.ref k] => match st[k]? with
    | some (.lst us) => bOut (allB us) st
    | _ => none
  | _ => none
theorem allB_rep {K : PySem.W.Frag} {H : Hp} {ρ : List Addr} : ∀ {ws : List W} {vs : List V} {b : Bool}, RepAll K H ρ ws vs → allB ws = some b → ∃ bs : List Bool, vs = bs.map V.bl ∧ bs.all id = b
  | [], _, _, r, h => by cases r; cases h; exact ⟨[], rfl, rfl⟩
  | w :: ws, _, b, r, h => by
    cases r with
    | cons r1 r2 =>
      unfold allB at h
      split at h
      · rename_i e; cases e
      · rename_i c us e
        cases e
        cases r1
        cases q : allB ws with
        | none => rw [q] at h; cases h
        | some b' =>
          rw [q] at h; cases h
          obtain ⟨bs, e1, e2⟩ := allB_rep r2 q
          exact ⟨c :: bs, by rw [e1]; rfl, by simp [← e2]⟩
      · cases h
theorem clr_all {K : PySem.W.Frag} : CLR w0 K (rAll K) opAll := by
  intro vs H Q ρ st st' ws w hR rs e p
  unfold opAll at e
  split at e
  · split at e
    · rename_i k _ us hu
      obtain ⟨b, hb, h, rfl⟩ := bOut_some e
      cases h
      obtain ⟨x, rfl, h1⟩ := all1 rs
      cases h1 with
      | @ref _ a hk =>
        obtain ⟨ys, e1, r1⟩ := hR.ob k a _ hk hu
        obtain ⟨bs, rfl, rfl⟩ := allB_rep r1 hb
        exact ⟨a, bs, rfl, .inl (.inl e1), p _ H ρ (Ext.refl _ _) hR (.bl _)⟩
    · cases e
  · cases e
theorem nox_all (ws : List W) (st : Sto) : NoX (opAll ws st) := fun x st' e => by
  unfold opAll at e
  split at e
  · split at e
    · obtain ⟨_, _, h, _⟩ := bOut_some e
      cases h
    · cases e
  · cases e
section
variable {X : Cx} {EX : XR} {U : WX} {a b c : Expr} {pos : Pos}
/-! ### -a, a < b < c, {} -/
def negW (w : W) (st : Sto) : Out W := match w with
  | .int i => ret (.int (-i)) st
  | _ => none
def fNeg (f : FE) : FE := fun env st => bnd (f env st) negW
theorem pd_neg {f : FE} (h : PD X EX U a f) : PD X EX U (.UnaryOp .USub a pos) (fNeg f) := by
  refine (pe_un un_neg h).imp fun σ H Q h => ?_
  refine (tG_bind (r1 := Rep X.K) (g := fun env w st => negW w st) h).imp fun x H1 h1 => ?_
  obtain ⟨ρ, env, st, w, r', st', hR, E, rw', e, p⟩ := h1
  have e : negW w st = some (r', st') := e
  unfold negW at e
  split at e
  · cases e; cases rw'
    exact ⟨_, rfl, p _ H1 ρ (Ext.refl _ _) hR (.int _)⟩
  · cases e
def fChain (o o' : O2) (fa fb fc : FE) : FE := fun env st => bnd (fa env st) fun a st => bnd (fb env st) fun b st => bnd (o a b st) fun w st => bnd (asB w st) fun k st => if k then bnd (fc env st) fun c st => o' b c st else ret (.bl false) st
theorem chain_go {r r' : R2} {o o' : O2} {fa fb fc : FE} (h1 : OPR X.w X.K r o) (n1 : ∀ a b st, NoX (o a b st)) (h2 : OPR X.w X.K r' o') (n2 : ∀ a b st, NoX (o' a b st)) {σ : L2.St} {H : Hp} {Q : VK} (h : tI X.w X.K EX U (fChain o o' fa fb fc) σ H Q) :
    tChain r r' (tI X.w X.K EX U fa) (tI X.w X.K EX U fb) (tI X.w X.K EX U fc) σ H Q := by
  refine (tG_bind (r1 := Rep X.K) (g := fun env a st => bnd (fb env st) fun b st => bnd (o a b st) fun w st => bnd (asB w st) fun k st => if k then bnd (fc env st) fun c st => o' b c st else ret (.bl false) st) h).imp fun x H1 k1 => ?_
  refine (tK_tG (tK_bind (r1 := Rep X.K) (f := fun env _ st => fb env st) (g := fun env a b st => bnd (o a b st) fun w st => bnd (asB w st) fun k st => if k then bnd (fc env st) fun c st => o' b c st else ret (.bl false) st) mono_rep k1)).imp fun y H2 k2 => ?_
  obtain ⟨ρ, env, st, ⟨a, b⟩, r0, st', hR, E, ⟨ra, rb⟩, e, p⟩ := k2
  have e : bnd (o a b st) (fun w st => bnd (asB w st) fun k st => if k then bnd (fc env st) fun c st => o' b c st else ret (.bl false) st) = some (r0, st') := e
  cases q : o a b st with
  | none => rw [q] at e; cases e
  | some z =>
    obtain ⟨z, s1⟩ := z
    rw [q] at e
    cases z with
    | exc x => exact absurd q (n1 _ _ _ _ _)
    | ok w =>
      refine h1 hR ra rb q fun v H3 ρ3 e3 hR3 r3 => ?_
      obtain ⟨k, rfl, e⟩ := asB_some e
      cases r3
      refine ⟨k, rfl, ?_⟩
      have E3 := E.mono hR e3
      have p3 := p.ext e3
      cases k with
      | false =>
        cases e
        exact p3 _ H3 ρ3 (Ext.refl _ _) hR3 (Rep.bl _)
      | true =>
        have rb3 : Rep X.K H3 ρ3 b y := rb.mono hR e3
        have K3 : tK X.w X.K EX U (Rep X.K) (Rep X.K) (fun env b st => bnd (fc env st) fun c st => o' b c st) y σ H3 Q := ⟨ρ3, env, s1, b, r0, st', hR3, E3, rb3, e, p3⟩
        refine (tK_tG (tK_bind (r1 := Rep X.K) (f := fun env _ st => fc env st) (g := fun env b c st => o' b c st) mono_rep K3)).imp fun z H4 k4 => ?_
        obtain ⟨ρ4, env4, st4, ⟨b4, c4⟩, r4, st4', hR4, E4, ⟨rb4, rc4⟩, e4, p4⟩ := k4
        cases r4 with
        | exc x => exact absurd e4 (n2 _ _ _ _ _)
        | ok w4 => exact h2 hR4 rb4 rc4 e4 p4
theorem pd_chain {op op' : CmpOp} {r r' : R2} {o o' : O2} {fa fb fc : FE} (ho : OpR X (compareOp op) r) (h1 : OPR X.w X.K r o) (n1 : ∀ a b st, NoX (o a b st)) (ho' : OpR X (compareOp op') r') (h2 : OPR X.w X.K r' o') (n2 : ∀ a b st, NoX (o' a b st))
    (ha : PD X EX U a fa) (hb : PD X EX U b fb) (hc : PD X EX U c fc) (hm : lastMarks [op, op'] [b, c] = false := by with_unfolding_all rfl) : PD X EX U (.Compare a [op, op'] [b, c] pos) (fChain o o' fa fb fc) :=
  (pe_chain ho ho' ha hb hc hm).imp fun _ _ _ h => chain_go h1 n1 h2 n2 h
theorem pdt_chain {op op' : CmpOp} {r r' : R2} {o o' : O2} {fa fb fc : FE} (ho : OpR X (compareOp op) r) (h1 : OPR X.w X.K r o) (n1 : ∀ a b st, NoX (o a b st)) (ho' : OpR X (compareOp op') r') (h2 : OPR X.w X.K r' o') (n2 : ∀ a b st, NoX (o' a b st))
    (ha : PD X EX U a fa) (hb : PD X EX U b fb) (hc : PD X EX U c fc) (hm : lastMarks [op, op'] [b, c] = false := by with_unfolding_all rfl) : PDT X EX U (.Compare a [op, op'] [b, c] pos) (fTest (fChain o o' fa fb fc)) := by
  refine (pt_chain ho ho' ha hb hc hm).imp fun σ H Q h => ?_
  have k : tB (tI X.w X.K EX U (fChain o o' fa fb fc)) σ H Q := test_go h
  exact chain_go h1 n1 h2 n2 k
def fEmp : FE := fun _ st => some (.ok (.ref st.length), st ++ [.emp])
theorem pd_emp : PD X EX U (.Dict [] [] pos) fEmp := by
  refine pe_dnewK.imp fun σ H Q ⟨ρ, env, st, r, st', hR, E, e, p⟩ => ?_
  cases e
  intro d hd
  refine p _ _ (ρ ++ [d]) (Ext.alloc hd) (hR.emp hd) (.ref ?_)
  rw [← hR.len]; simp
end
end DI

namespace DI
open PySem L2

/-! ### statements -/
inductive Fl where | nx | rt (w : W) | bk | ct | exc (x : Xc)
abbrev OutS := Option (Fl × Evn × Sto)
abbrev FS := Evn → Sto → OutS
section
variable {K : PySem.W.Frag} {EX : XR} {U : WX}
def PostS (w0 : World) (K : PySem.W.Frag) (EX : XR) (U : WX) (D : Ends) (H : Hp) (ρ : List Addr) (fl : Fl) (env' : Evn) (st' : Sto) : Prop := match fl with
  | .nx => ∀ σ' H' ρ', Ext H ρ H' ρ' → HR w0 K H' ρ' st' → EnvR K H' ρ' env' σ' → D.nx σ' H'
  | .bk => ∀ σ' H' ρ', Ext H ρ H' ρ' → HR w0 K H' ρ' st' → EnvR K H' ρ' env' σ' → D.bk σ' H'
  | .ct => ∀ σ' H' ρ', Ext H ρ H' ρ' → HR w0 K H' ρ' st' → EnvR K H' ρ' env' σ' → D.ct σ' H'
  | .rt w => ∀ v H' ρ', Ext H ρ H' ρ' → HR w0 K H' ρ' st' → Rep K H' ρ' w v → D.rt v H'
  | .exc x => ∀ cls d σ' H' ρ', Ext H ρ H' ρ' → HR w0 K H' ρ' st' → EnvR K H' ρ' env' σ' → EX x cls d H' ρ' → U cls d σ' H'
def tS (w0 : World) (K : PySem.W.Frag) (EX : XR) (U : WX) (f : FS) : TS := fun D σ H => ∃ ρ env st fl env' st', HR w0 K H ρ st ∧ EnvR K H ρ env σ ∧ f env st = some (fl, env', st') ∧ PostS w0 K EX U D H ρ fl env' st'
theorem PostS.ext {D : Ends} {H H1 : Hp} {ρ ρ1 : List Addr} {fl : Fl} {env' : Evn} {st' : Sto} (e : Ext H ρ H1 ρ1) (p : PostS w0 K EX U D H ρ fl env' st') : PostS w0 K EX U D H1 ρ1 fl env' st' := by
  cases fl with
  | nx => exact fun a b c e' => p a b c (e.trans e')
  | bk => exact fun a b c e' => p a b c (e.trans e')
  | ct => exact fun a b c e' => p a b c (e.trans e')
  | rt w => exact fun a b c e' => p a b c (e.trans e')
  | exc x => exact fun a b c d f e' => p a b c d f (e.trans e')
/-- a statement that begins with an expression's value -/
def bS {α : Type} (o : Out α) (env : Evn) (k : α → Sto → OutS) : OutS := match o with
  | some (.ok a, st) => k a st
  | some (.exc x, st) => some (.exc x, env, st)
  | none => none
/-- the rest of a statement, a value at hand -/
def tKS {γ δ : Type} (w0 : World) (K : PySem.W.Frag) (EX : XR) (U : WX) (r1 : Rl γ δ) (f : Evn → γ → Sto → OutS) (x : δ) (D : Ends) (σ : L2.St) (H : Hp) : Prop :=
  ∃ ρ env st c fl env' st', HR w0 K H ρ st ∧ EnvR K H ρ env σ ∧ r1 H ρ c x ∧ f env c st = some (fl, env', st') ∧ PostS w0 K EX U D H ρ fl env' st'
theorem tS_bind {γ δ : Type} {r1 : Rl γ δ} {f : Evn → Sto → Out γ} {g : Evn → γ → Sto → OutS} {D : Ends} {σ : L2.St} {H : Hp} (h : tS w0 K EX U (fun env st => bS (f env st) env (g env)) D σ H) : tG w0 K EX U r1 f σ H (fun x H1 => tKS w0 K EX U r1 g x D σ H1) := by
  obtain ⟨ρ, env, st, fl, env', st', hR, E, e, p⟩ := h
  cases q : f env st with
  | none => simp only [q] at e; cases e
  | some o =>
    obtain ⟨ro, s1⟩ := o
    simp only [q] at e
    cases ro with
    | ok a => exact ⟨ρ, env, st, .ok a, s1, hR, E, q, fun x H1 ρ1 e1 R1 rx => ⟨ρ1, env, s1, a, fl, env', st', R1, E.mono hR e1, rx, e, p.ext e1⟩⟩
    | exc x =>
      cases e
      exact ⟨ρ, env, st, .exc x, st', hR, E, q, fun c d H' ρ' e' R' q' => p c d σ H' ρ' e' R' (E.mono hR e') q'⟩
theorem tKS_bind {γ δ ε ζ : Type} {r0 : Rl ε ζ} {r1 : Rl γ δ} {f : Evn → ε → Sto → Out γ} {g : Evn → ε → γ → Sto → OutS} {x : ζ} {D : Ends} {σ : L2.St} {H : Hp} (m : Mono w0 K r0)
    (h : tKS w0 K EX U r0 (fun env c st => bS (f env c st) env (g env c)) x D σ H) : tK w0 K EX U r0 r1 f x σ H (fun y H1 => tKS w0 K EX U (fun H ρ (p : ε × γ) (q : ζ × δ) => r0 H ρ p.1 q.1 ∧ r1 H ρ p.2 q.2) (fun env p st => g env p.1 p.2 st) (x, y) D σ H1) := by
  obtain ⟨ρ, env, st, c, fl, env', st', hR, E, r0x, e, p⟩ := h
  cases q : f env c st with
  | none => simp only [q] at e; cases e
  | some o =>
    obtain ⟨ro, s1⟩ := o
    simp only [q] at e
    cases ro with
    | ok a => exact ⟨ρ, env, st, c, .ok a, s1, hR, E, r0x, q, fun y H1 ρ1 e1 R1 ry => ⟨ρ1, env, s1, (c, a), fl, env', st', R1, E.mono hR e1, ⟨m _ _ _ _ _ _ _ hR e1 r0x, ry⟩, e, p.ext e1⟩⟩
    | exc x =>
      cases e
      exact ⟨ρ, env, st, c, .exc x, st', hR, E, r0x, q, fun c d H' ρ' e' R' q' => p c d σ H' ρ' e' R' (E.mono hR e') q'⟩
end
abbrev PDS (X : Cx) (EX : XR) (U : WX) (s : Stmt) (f : FS) : Prop := PS X s (tS X.w X.K EX U f)
abbrev PDB (X : Cx) (EX : XR) (U : WX) (s : List Stmt) (f : FS) : Prop := PSs X s (tS X.w X.K EX U f)
section
variable {X : Cx} {EX : XR} {U : WX} {e : Expr} {s : Stmt} {ss : List Stmt} {pos : Pos}
def fNext : FS := fun env st => some (.nx, env, st)
def fSeq (f g : FS) : FS := fun env st => match f env st with
  | some (.nx, env1, st1) => g env1 st1
  | o => o
theorem pdb_nil : PDB X EX U [] fNext := pss_nil.imp fun D σ H ⟨ρ, env, st, fl, env', st', hR, E, e, p⟩ => by
  cases e
  exact p σ H ρ (Ext.refl _ _) hR E
theorem pdb_one {f : FS} (h : PDS X EX U s f) : PDB X EX U [s] f := pss_one h
theorem pdb_cons {f g : FS} (h : PDS X EX U s f) (h2 : PDB X EX U ss g) : PDB X EX U (s :: ss) (fSeq f g) := by
  refine (pss_cons h h2).imp fun D σ H ⟨ρ, env, st, fl, env', st', hR, E, e, p⟩ => ?_
  show tS X.w X.K EX U f { D with nx := tS X.w X.K EX U g D } σ H
  unfold fSeq at e
  split at e
  · rename_i env1 st1 h1
    exact ⟨ρ, env, st, .nx, env1, st1, hR, E, h1, fun σ' H' ρ' e' R' E' => ⟨ρ', env1, st1, fl, env', st', R', E', e, p.ext e'⟩⟩
  · rename_i h1
    refine ⟨ρ, env, st, fl, env', st', hR, E, e, ?_⟩
    cases fl with
    | nx => exact absurd e (h1 _ _)
    | bk => exact p
    | ct => exact p
    | rt w => exact p
    | exc x => exact p
def fSet (i : Nat) (f : FE) : FS := fun env st => bS (f env st) env fun w st => some (.nx, env.set i (some w), st)
theorem pds_set {i : Nat} {x : Str} {f : FE} {pos' : Pos} (hN : X.N.Nodup) (hi : X.N[i]? = some x) (hx : Loc X.env.scope x) (he : PD X EX U e f) (hs : swapsWith e (some (.Name x pos')) pos.line X.env = pure false := by rfl) (hf : X.fn x = true ∨ X.env.scope.names.lookup x = some .local := by first | exact .inl rfl | exact .inr rfl | assumption) :
    PDS X EX U (.Assign [.Name x pos'] e pos) (fSet i f) := by
  refine (ps_set hN hi hx he hs hf).imp fun D σ H h => ?_
  refine (tS_bind (r1 := Rep X.K) (g := fun env w st => some (.nx, env.set i (some w), st)) h).imp fun v H1 h1 => ?_
  obtain ⟨ρ, env, st, w, fl, env', st', hR, E, rw', e, p⟩ := h1
  cases e
  exact p _ H1 ρ (Ext.refl _ _) hR (E.set rw' i)
def fDrop (f : FE) : FS := fun env st => bS (f env st) env fun _ st => some (.nx, env, st)
theorem pds_expr {f : FE} (he : PD X EX U e f) (hs : swapsWith e none pos.line X.env = pure false := by rfl) : PDS X EX U (.Expr e pos) (fDrop f) := by
  refine (ps_expr he hs).imp fun D σ H h => ?_
  refine (tS_bind (r1 := Rep X.K) (g := fun env w st => some (.nx, env, st)) h).imp fun v H1 h1 => ?_
  obtain ⟨ρ, env, st, w, fl, env', st', hR, E, rw', e, p⟩ := h1
  cases e
  exact p _ H1 ρ (Ext.refl _ _) hR E
def fRet (f : FE) : FS := fun env st => bS (f env st) env fun w st => some (.rt w, env, st)
theorem pds_ret {f : FE} (he : PD X EX U e f) : PDS X EX U (.Return (some e) pos) (fRet f) := by
  refine (ps_ret he).imp fun D σ H h => ?_
  refine (tS_bind (r1 := Rep X.K) (g := fun env w st => some (.rt w, env, st)) h).imp fun v H1 h1 => ?_
  obtain ⟨ρ, env, st, w, fl, env', st', hR, E, rw', e, p⟩ := h1
  cases e
  exact p _ H1 ρ (Ext.refl _ _) hR rw'
def fIfS (c : FT) (f g : FS) : FS := fun env st => bS (c env st) env fun b st => if b then f env st else g env st
theorem pds_if {c : Expr} {a b : List Stmt} {fc : FT} {f g : FS} (hc : PDT X EX U c fc) (ha : PDB X EX U a f) (hb : PDB X EX U b g) : PDS X EX U (.If c a b pos) (fIfS fc f g) := by
  refine (ps_if hc ha hb).imp fun D σ H h => ?_
  refine (tS_bind (r1 := rB) (g := fun env b st => if b then f env st else g env st) h).imp fun v H1 h1 => ?_
  obtain ⟨ρ, env, st, w, fl, env', st', hR, E, rw', e, p⟩ := h1
  obtain rfl : w = v := rw'
  cases w with
  | true => exact ⟨ρ, env, st, fl, env', st', hR, E, e, p⟩
  | false => exact ⟨ρ, env, st, fl, env', st', hR, E, e, p⟩
/-! ### xs[i] = e, xs.append(e) -/
def putL (o i w : W) (st : Sto) : Option Sto := match o, i with
  | .ref k, .int j => match st[k]? with
    | some (.lst ws) => (ixN ws.length j).map fun n => st.set k (.lst (ws.set n w))
    | _ => none
  | _, _ => none
def fPut (fo fi fe : FE) : FS := fun env st => bS (fe env st) env fun w st => bS (fo env st) env fun o st => bS (fi env st) env fun i st => (putL o i w st).map fun st => (.nx, env, st)
theorem put_go {K : PySem.W.Frag} {o i w : W} {ov iv v : V} {H : Hp} {ρ : List Addr} {st st' : Sto} (hR : HR w0 K H ρ st) (ro : Rep K H ρ o ov) (ri : Rep K H ρ i iv) (rv : Rep K H ρ w v) (e : putL o i w st = some st') {Q : Hp → Prop} (q : ∀ H', Ext H ρ H' ρ → HR w0 K H' ρ st' → Q H') : rSetL ov iv v H Q := by
  unfold putL at e
  split at e
  · rename_i k j
    split at e
    · rename_i ws hw
      cases ro with
      | @ref _ a hk =>
      cases ri
      obtain ⟨us, e1, r1⟩ := hR.ob k a _ hk hw
      cases h : ixN ws.length j with
      | none => rw [h] at e; cases e
      | some n =>
        rw [h] at e; cases e
        rw [r1.length] at h
        exact ⟨a, us, j, n, rfl, rfl, e1, h, q _ (Ext.mut (List.mem_of_getElem? hk)) (hR.put hk (RepAll.set rv n r1))⟩
    · cases e
  · cases e
theorem pds_put {o i : Expr} {fo fi fe : FE} {p1 : Pos} (he : PD X EX U e fe) (ho : PD X EX U o fo) (hi : PD X EX U i fi) (hg : ∀ to ti, PE X o to → PE X i ti → PG X (.Subscript o i p1) (gSub to ti rSetL))
    (hs : swapsWithSole [.Subscript o i p1] e pos.line X.env = pure false := by rfl) (hw : swappedStores [.Subscript o i p1] e X.env = pure none := by rfl)
    (h1 : (assignEach [.Subscript o i p1] X.env).map (·.2) = [assign (.Subscript o i p1) X.env] := by rfl) : PDS X EX U (.Assign [.Subscript o i p1] e pos) (fPut fo fi fe) := by
  refine (ps_asg he (hg _ _ ho hi) hs hw h1).imp fun D σ H h => ?_
  refine (tS_bind (r1 := Rep X.K) (g := fun env w st => bS (fo env st) env fun o st => bS (fi env st) env fun i st => (putL o i w st).map fun st => (.nx, env, st)) h).imp fun x H1 k1 => ?_
  refine (tK_tG (tKS_bind (r1 := Rep X.K) (f := fun env _ st => fo env st) (g := fun env w o st => bS (fi env st) env fun i st => (putL o i w st).map fun st => (.nx, env, st)) mono_rep k1)).imp fun y H2 k2 => ?_
  refine (tK_tG (tKS_bind (r1 := Rep X.K) (f := fun env _ st => fi env st) (g := fun env (c : W × W) i st => (putL c.2 i c.1 st).map fun st => (.nx, env, st)) (fun _ _ _ _ _ _ _ R e h => ⟨h.1.mono R e, h.2.mono R e⟩) k2)).imp fun z H3 k3 => ?_
  obtain ⟨ρ, env, st, ⟨⟨w, o'⟩, i'⟩, fl, env', st', hR, E, ⟨⟨rw', ro⟩, ri⟩, e, p⟩ := k3
  have e : (putL o' i' w st).map (fun st => (Fl.nx, env, st)) = some (fl, env', st') := e
  cases q : putL o' i' w st with
  | none => rw [q] at e; cases e
  | some s1 =>
    rw [q] at e; cases e
    exact put_go hR ro ri rw' q fun H' e' R' => p σ H' ρ e' R' (E.mono hR e')
def appL (o w : W) (st : Sto) : Option Sto := match o with
  | .ref k => match st[k]? with
    | some (.lst ws) => if szW (ws.length + 1) then some (st.set k (.lst (ws ++ [w]))) else none
    | _ => none
  | _ => none
def isL (o : W) (st : Sto) : Bool := match o with
  | .ref k => match st[k]? with
    | some (.lst _) => true
    | _ => false
  | _ => false
/-- o.append(e), its value None -/
def fApp (fo fe : FE) : FE := fun env st => bnd (fo env st) fun o st => if isL o st then bnd (fe env st) fun w st => (appL o w st).map fun st => (.ok .non, st) else none
theorem isL_of {K : PySem.W.Frag} {H : Hp} {ρ : List Addr} {st : Sto} {o : W} {v : V} (hR : HR w0 K H ρ st) (r : Rep K H ρ o v) (h : isL o st = true) : tyV K "list" v H := by
  unfold isL at h
  split at h
  · rename_i k
    split at h
    · rename_i ws hw
      cases r with
      | @ref _ a hk =>
        obtain ⟨us, e1, r1⟩ := hR.ob k a _ hk hw
        exact .inl ⟨rfl, us, .inl (.inl e1)⟩
    · cases h
  · cases h
theorem pd_app {o : Expr} {fo fe : FE} {apos cpos : Pos} (ho : PD X EX U o fo) (he : PD X EX U e fe) (hm : ∀ to ta, PE X o to → PA X [e] ta → PE X (.Call (.Attribute o "append" apos) [e] [] cpos) (tBM X.K "list" rAppend to ta))
    (hs : starEach (e :: []) X.env = (false, eval e X.env) :: starEach [] X.env := by rfl) : PD X EX U (.Call (.Attribute o "append" apos) [e] [] cpos) (fApp fo fe) := by
  refine (hm _ _ ho (pa_cons he pa_nil hs)).imp fun σ H Q h => ?_
  refine (tG_bind (r1 := Rep X.K) (g := fun env o st => if isL o st then bnd (fe env st) fun w st => (appL o w st).map fun st => (R.ok W.non, st) else none) h).imp fun x H1 k1 => ?_
  obtain ⟨ρ, env, st, w, r', st', hR, E, rw', e1, p⟩ := k1
  have e1 : (if isL w st then bnd (fe env st) fun y st => (appL w y st).map fun st => (R.ok W.non, st) else none) = some (r', st') := e1
  split at e1
  · rename_i hl
    refine ⟨isL_of hR rw' hl, ?_⟩
    have k2 : tK X.w X.K EX U (Rep X.K) (Rep X.K) (fun env w st => bnd (fe env st) fun y st => (appL w y st).map fun st => (R.ok W.non, st)) x σ H1 Q := ⟨ρ, env, st, w, r', st', hR, E, rw', e1, p⟩
    refine (tK_tG (tK_bind (r1 := Rep X.K) (f := fun env _ st => fe env st) (g := fun env w y st => (appL w y st).map fun st => (R.ok W.non, st)) mono_rep k2)).imp fun y H2 k3 => ?_
    obtain ⟨ρ2, env2, st2, ⟨w2, y2⟩, r2, st2', hR2, E2, ⟨rw2, ry2⟩, e2, p2⟩ := k3
    have e2 : (appL w2 y2 st2).map (fun st => (R.ok W.non, st)) = some (r2, st2') := e2
    have rw2 : Rep X.K H2 ρ2 w2 x := rw2
    have ry2 : Rep X.K H2 ρ2 y2 y := ry2
    cases q : appL w2 y2 st2 with
    | none => rw [q] at e2; cases e2
    | some s3 =>
      rw [q] at e2; cases e2
      unfold appL at q
      split at q
      · rename_i k
        split at q
        · rename_i ws hw
          split at q
          · rename_i hz
            cases q
            cases rw2 with
            | @ref _ a hk =>
              obtain ⟨us, e3, r3⟩ := hR2.ob _ a _ hk hw
              have hz := sz_ok hz
              rw [r3.length] at hz
              exact ⟨a, us, y, rfl, rfl, e3, by omega, p2 .non _ ρ2 (Ext.mut (List.mem_of_getElem? hk)) (hR2.put hk (r3.append (.cons ry2 .nil))) Rep.non⟩
          · cases q
        · cases q
      · cases q
  · cases e1
/-! ### xs.insert(i, e) -/
def insL (o i w : W) (st : Sto) : Option Sto := match o, i with
  | .ref k, .int j => match st[k]? with
    | some (.lst ws) => if szW (ws.length + 1) && (decide (0 ≤ j) && decide (j < 2 ^ 63)) then some (st.set k (.lst (ws.take j.toNat ++ [w] ++ ws.drop j.toNat))) else none
    | _ => none
  | _, _ => none
def fIns (fo fi fe : FE) : FE := fun env st => bnd (fo env st) fun o st => if isL o st then bnd (fi env st) fun i st => bnd (fe env st) fun w st => (insL o i w st).map fun st => (.ok .non, st) else none
abbrev rIns : V → List V → Hp → VK → Prop := fun x vs H Q => ∃ (l : Addr) (xs : List V) (i : Int) (y : V), x = .ref l ∧ vs = [.int i, y] ∧ H l = some (.lst xs) ∧ xs.length < sizeLine ∧ 0 ≤ i ∧ i < 2 ^ 63 ∧ Q .non (upd H l (.lst (xs.take i.toNat ++ [y] ++ xs.drop i.toNat)))
theorem pd_ins {o i : Expr} {fo fi fe : FE} {apos cpos : Pos} (ho : PD X EX U o fo) (hi : PD X EX U i fi) (he : PD X EX U e fe) (hm : ∀ to ta, PE X o to → PA X [i, e] ta → PE X (.Call (.Attribute o "insert" apos) [i, e] [] cpos) (tBM X.K "list" rIns to ta))
    (hs : starEach (i :: [e]) X.env = (false, eval i X.env) :: starEach [e] X.env := by rfl) (hs2 : starEach (e :: []) X.env = (false, eval e X.env) :: starEach [] X.env := by rfl) : PD X EX U (.Call (.Attribute o "insert" apos) [i, e] [] cpos) (fIns fo fi fe) := by
  refine (hm _ _ ho (pa_cons hi (pa_cons he pa_nil hs2) hs)).imp fun σ H Q h => ?_
  refine (tG_bind (r1 := Rep X.K) (g := fun env o st => if isL o st then bnd (fi env st) fun i st => bnd (fe env st) fun w st => (insL o i w st).map fun st => (R.ok W.non, st) else none) h).imp fun x H1 k1 => ?_
  obtain ⟨ρ, env, st, w, r', st', hR, E, rw', e1, p⟩ := k1
  have e1 : (if isL w st then bnd (fi env st) fun i st => bnd (fe env st) fun y st => (insL w i y st).map fun st => (R.ok W.non, st) else none) = some (r', st') := e1
  split at e1
  · rename_i hl
    refine ⟨isL_of hR rw' hl, ?_⟩
    have k2 : tK X.w X.K EX U (Rep X.K) (Rep X.K) (fun env w st => bnd (fi env st) fun i st => bnd (fe env st) fun y st => (insL w i y st).map fun st => (R.ok W.non, st)) x σ H1 Q := ⟨ρ, env, st, w, r', st', hR, E, rw', e1, p⟩
    refine (tK_tG (tK_bind (r1 := Rep X.K) (f := fun env _ st => fi env st) (g := fun env w i st => bnd (fe env st) fun y st => (insL w i y st).map fun st => (R.ok W.non, st)) mono_rep k2)).imp fun iv H2 k3 => ?_
    refine (tK_tG (tK_bind (r1 := Rep X.K) (f := fun env _ st => fe env st) (g := fun env (c : W × W) y st => (insL c.1 c.2 y st).map fun st => (R.ok W.non, st)) (fun _ _ _ _ _ _ _ R e h => ⟨h.1.mono R e, h.2.mono R e⟩) k3)).imp fun y H3 k4 => ?_
    obtain ⟨ρ2, env2, st2, ⟨⟨w2, i2⟩, y2⟩, r2, st2', hR2, E2, ⟨⟨rw2, ri2⟩, ry2⟩, e2, p2⟩ := k4
    have e2 : (insL w2 i2 y2 st2).map (fun st => (R.ok W.non, st)) = some (r2, st2') := e2
    have rw2 : Rep X.K H3 ρ2 w2 x := rw2
    have ri2 : Rep X.K H3 ρ2 i2 iv := ri2
    have ry2 : Rep X.K H3 ρ2 y2 y := ry2
    cases q : insL w2 i2 y2 st2 with
    | none => rw [q] at e2; cases e2
    | some s3 =>
      rw [q] at e2; cases e2
      unfold insL at q
      split at q
      · rename_i k j
        split at q
        · rename_i ws hw
          split at q
          · rename_i hz
            rw [Bool.and_eq_true, Bool.and_eq_true] at hz
            cases q
            cases ri2
            cases rw2 with
            | @ref _ a hk =>
              obtain ⟨us, e3, r3⟩ := hR2.ob _ a _ hk hw
              have hz1 := sz_ok hz.1
              rw [r3.length] at hz1
              exact ⟨a, us, _, y, rfl, rfl, e3, by omega, of_decide_eq_true hz.2.1, of_decide_eq_true hz.2.2, p2 .non _ ρ2 (Ext.mut (List.mem_of_getElem? hk)) (hR2.put hk (((r3.take _).append (.cons ry2 .nil)).append (r3.drop _))) Rep.non⟩
          · cases q
        · cases q
      · cases q
  · cases e1
end
end DI

namespace DI
open PySem L2

/-! ### what is walked -/
/-- at each turn: nothing known, the end, an item -/
abbrev Gt := Sto → Nat → Option (Option W)
def gOf (w : W) : Gt := fun st i => match w with
  | .tup ws => some ws[i]?
  | .ils ws => some ws[i]?
  | .str x => some ((x.cps[i]?).map fun c => .str ⟨#[c]⟩)
  | .ref k => match st[k]? with
    | some (.lst ws) => some ws[i]?
    | _ => none
  | _ => none
def gRng (lo : Int) (n : Nat) : Gt := fun _ i => some (if i < n then some (.int (lo + i)) else none)
def ItR (w0 : World) (K : PySem.W.Frag) (J : It) (G : Gt) (H0 : Hp) (ρ0 : List Addr) : Prop := ∀ (H : Hp) (ρ : List Addr) (st : Sto) (i : Nat), Ext H0 ρ0 H ρ → HR w0 K H ρ st →
  (G st i = some none → J.stop i H) ∧ ∀ w, G st i = some (some w) → J.go i H ∧ ∀ x H', J.yld i H x H' → H' = H ∧ Rep K H ρ w x
theorem itr_rng {K : PySem.W.Frag} {lo : Int} {n : Nat} {H0 : Hp} {ρ0 : List Addr} : ItR w0 K (Itr lo n) (gRng lo n) H0 ρ0 := fun H ρ st i _ _ => by
  unfold gRng
  refine ⟨fun h => ?_, fun w h => ?_⟩
  · split at h
    · cases h
    · rename_i hi; exact Nat.le_of_not_lt hi
  · split at h
    · rename_i hi
      cases h
      exact ⟨hi, fun x H' y => ⟨y.1, by rw [y.2]; exact .int _⟩⟩
    · cases h
theorem itr_tup {K : PySem.W.Frag} {a : Addr} {xs : List V} {ws : List W} {H0 : Hp} {ρ0 : List Addr} {st0 : Sto} (hR : HR w0 K H0 ρ0 st0) (hs : SqT K H0 a xs) (hr : RepAll K H0 ρ0 ws xs) : ItR w0 K (Itt K a) (gOf (.tup ws)) H0 ρ0 := fun H ρ st i e hR' => by
  have hs' := SqT.mono hR e hs
  have hr' := hr.mono hR e
  refine ⟨fun h => ?_, fun w h => ?_⟩
  · have h : ws[i]? = none := Option.some.inj h
    exact ⟨xs, hs', by rw [← hr.length]; exact List.getElem?_eq_none_iff.mp h⟩
  · have h : ws[i]? = some w := Option.some.inj h
    obtain ⟨v, h1, h2⟩ := hr'.get h
    refine ⟨⟨xs, v, hs', h1⟩, fun x H' y => ⟨y.1, ?_⟩⟩
    have := y.2 xs hs'
    rw [h1] at this
    cases this
    exact h2
theorem itr_lst {K : PySem.W.Frag} {a : Addr} {k : Nat} {H0 : Hp} {ρ0 : List Addr} (hk : ρ0[k]? = some a) : ItR w0 K (Itl K a) (gOf (.ref k)) H0 ρ0 := fun H ρ st i e hR => by
  have hk' := e.at hk
  have go : ∀ ws us, Rd H a (.lst us) → RepAll K H ρ ws us → (some ws[i]? = some (none : Option W) → (Itl K a).stop i H) ∧ ∀ w, some ws[i]? = some (some w) → (Itl K a).go i H ∧ ∀ x H', (Itl K a).yld i H x H' → H' = H ∧ Rep K H ρ w x := fun ws us h1 h2 => by
    refine ⟨fun h => ?_, fun w h => ?_⟩
    · have h : ws[i]? = none := Option.some.inj h
      exact ⟨us, .inl h1, by rw [← h2.length]; exact List.getElem?_eq_none_iff.mp h⟩
    · have h : ws[i]? = some w := Option.some.inj h
      obtain ⟨v, h3, h4⟩ := h2.get h
      refine ⟨⟨us, v, .inl h1, h3⟩, fun x H' y => ⟨y.1, ?_⟩⟩
      have := y.2 us (.inl h1)
      rw [h3] at this
      cases this
      exact h4
  show ((match st[k]? with | some (.lst ws) => some ws[i]? | _ => none) = some none → _) ∧ ∀ w, (match st[k]? with | some (.lst ws) => some ws[i]? | _ => none) = some (some w) → _
  cases q : st[k]? with
  | none => exact ⟨fun h => (by cases h), fun w h => (by cases h)⟩
  | some o =>
    cases o with
    | lst ws =>
      obtain ⟨us, e1, r1⟩ := hR.ob k a _ hk' q
      exact go ws us (.inl e1) r1
    | emp => exact ⟨fun h => (by cases h), fun w h => (by cases h)⟩
    | xd fs => exact ⟨fun h => (by cases h), fun w h => (by cases h)⟩
    | dct kvs => exact ⟨fun h => (by cases h), fun w h => (by cases h)⟩
theorem itr_ils {K : PySem.W.Frag} {a : Addr} {xs : List V} {ws : List W} {H0 : Hp} {ρ0 : List Addr} {st0 : Sto} (hR : HR w0 K H0 ρ0 st0) (hs : FzL K H0 a xs) (hr : RepAll K H0 ρ0 ws xs) : ItR w0 K (Itl K a) (gOf (.ils ws)) H0 ρ0 := fun H ρ st i e hR' => by
  have hs' := (FzL.mono hR e hs).sq
  have hr' := hr.mono hR e
  refine ⟨fun h => ?_, fun w h => ?_⟩
  · have h : ws[i]? = none := Option.some.inj h
    exact ⟨xs, hs', by rw [← hr.length]; exact List.getElem?_eq_none_iff.mp h⟩
  · have h : ws[i]? = some w := Option.some.inj h
    obtain ⟨v, h1, h2⟩ := hr'.get h
    refine ⟨⟨xs, v, hs', h1⟩, fun x H' y => ⟨y.1, ?_⟩⟩
    have := y.2 xs hs'
    rw [h1] at this
    cases this
    exact h2
theorem itr_str {K : PySem.W.Frag} {z : Str} {H0 : Hp} {ρ0 : List Addr} : ItR w0 K (Its z) (gOf (.str z)) H0 ρ0 := fun H ρ st i _ _ => by
  refine ⟨fun h => ?_, fun w h => ?_⟩
  · have h : (z.cps[i]?).map (fun c => W.str ⟨#[c]⟩) = none := Option.some.inj h
    cases q : z.cps[i]? with
    | none => exact Array.getElem?_eq_none_iff.mp q
    | some c => rw [q] at h; cases h
  · have h : (z.cps[i]?).map (fun c => W.str ⟨#[c]⟩) = some w := Option.some.inj h
    cases q : z.cps[i]? with
    | none => rw [q] at h; cases h
    | some c =>
      rw [q] at h; cases h
      refine ⟨(Array.getElem?_eq_some_iff.mp q).1, fun x H' y => ?_⟩
      obtain ⟨e1, c', e2, rfl⟩ := y
      rw [q] at e2; cases e2
      exact ⟨e1, .str _⟩
/-- how many there are at the start -/
def cnt (w : W) (st : Sto) : Option Nat := match w with
  | .tup ws => some ws.length
  | .ils ws => some ws.length
  | .str x => some x.cps.size
  | .ref k => match st[k]? with
    | some (.lst ws) => some ws.length
    | _ => none
  | _ => none
/-- one turn after another -/
def loop (G : Gt) (j : Nat) (body : FS) : Nat → Nat → Evn → Sto → OutS
  | 0, _, _, _ => none
  | m + 1, i, env, st => match G st i with
    | none => none
    | some none => some (.nx, env, st)
    | some (some w) => match body (env.set j (some w)) st with
      | some (.nx, env1, st1) => loop G j body m (i + 1) env1 st1
      | some (.ct, env1, st1) => loop G j body m (i + 1) env1 st1
      | some (.bk, env1, st1) => some (.nx, env1, st1)
      | o => o
section
variable {X : Cx} {EX : XR} {U : WX} {tg it : Expr} {pos tpos : Pos} {body : List Stmt}
theorem _root_.L2.PI.or {w1 w2 : TI} (h1 : PI X tg it w1) (h2 : PI X tg it w2) : PI X tg it (fun σ H R => w1 σ H R ∨ w2 σ H R) := ⟨fun pins s σ H R I h => h.elim (h1.run pins s σ H R I) (h2.run pins s σ H R I)⟩
/-- the turns of a loop -/
theorem loop_go {K : PySem.W.Frag} {J : It} {G : Gt} {H0 : Hp} {ρ0 : List Addr} {j : Nat} {fb : FS} (hJ : ItR w0 K J G H0 ρ0) {D : Ends} {σ0 : L2.St} {m0 : Nat} {env0 : Evn} {st0 : Sto} {fl : Fl} {env' : Evn} {st' : Sto}
    (hR : HR w0 K H0 ρ0 st0) (E : EnvR K H0 ρ0 env0 σ0) (h : loop G j fb m0 0 env0 st0 = some (fl, env', st')) (p : PostS w0 K EX U D H0 ρ0 fl env' st') :
    ∃ Wd : Nat → Nat → L2.St → Hp → Prop, (∃ m, Wd 0 m σ0 H0) ∧ ∀ i m σ H, Wd i m σ H →
      (J.stop i H ∧ D.nx σ H) ∨ (J.go i H ∧ ∃ Nn : L2.St → Hp → Prop, (∀ σ' H', Nn σ' H' → ∃ m', m' < m ∧ Wd (i + 1) m' σ' H') ∧ ∀ x H', J.yld i H x H' → gName j x σ H' fun σ2 H2 => tS w0 K EX U fb { D with nx := Nn, ct := Nn, bk := D.nx } σ2 H2) := by
  refine ⟨fun i m σ H => ∃ ρ env st, Ext H0 ρ0 H ρ ∧ HR w0 K H ρ st ∧ EnvR K H ρ env σ ∧ loop G j fb m i env st = some (fl, env', st'), ⟨m0, ρ0, env0, st0, Ext.refl _ _, hR, E, h⟩, ?_⟩
  rintro i m σ H ⟨ρ, env, st, e1, R1, E1, h1⟩
  have p1 := p.ext e1
  cases m with
  | zero => cases h1
  | succ m =>
    unfold loop at h1
    obtain ⟨js, jg⟩ := hJ H ρ st i e1 R1
    split at h1
    · cases h1
    · rename_i hg
      cases h1
      exact .inl ⟨js hg, p1 σ H ρ (Ext.refl _ _) R1 E1⟩
    · rename_i w hg
      obtain ⟨go, gy⟩ := jg w hg
      refine .inr ⟨go, fun σ' H' => ∃ ρ env st, Ext H0 ρ0 H' ρ ∧ HR w0 K H' ρ st ∧ EnvR K H' ρ env σ' ∧ loop G j fb m (i + 1) env st = some (fl, env', st'), fun σ' H' q => ⟨m, Nat.lt_succ_self m, q⟩, fun x H' y => ?_⟩
      obtain ⟨rfl, rx⟩ := gy x H' y
      show tS w0 K EX U fb _ (σ.set j (some x)) H'
      have E2 := E1.set rx j
      split at h1
      · rename_i env1 st1 hb
        exact ⟨ρ, _, st, .nx, env1, st1, R1, E2, hb, fun σ2 H2 ρ2 e2 R2 E2 => ⟨ρ2, env1, st1, e1.trans e2, R2, E2, h1⟩⟩
      · rename_i env1 st1 hb
        exact ⟨ρ, _, st, .ct, env1, st1, R1, E2, hb, fun σ2 H2 ρ2 e2 R2 E2 => ⟨ρ2, env1, st1, e1.trans e2, R2, E2, h1⟩⟩
      · rename_i env1 st1 hb
        cases h1
        exact ⟨ρ, _, st, .bk, env', st', R1, E2, hb, p1⟩
      · rename_i n1 n2 n3
        refine ⟨ρ, _, st, fl, env', st', R1, E2, h1, ?_⟩
        cases fl with
        | nx => exact absurd h1 (n1 _ _)
        | ct => exact absurd h1 (n2 _ _)
        | bk => exact absurd h1 (n3 _ _)
        | rt w => exact p1
        | exc x => exact p1
/-- for x in e -/
def fFor (fi : FE) (j : Nat) (fb : FS) : FS := fun env st => bS (fi env st) env fun w st => match cnt w st with
  | some n => loop (gOf w) j fb (n + 1) 0 env st
  | none => none
theorem cnt_ref {K : PySem.W.Frag} {H : Hp} {ρ : List Addr} {st : Sto} {k n : Nat} {a : Addr} (hR : HR w0 K H ρ st) (hk : ρ[k]? = some a) (h : cnt (.ref k) st = some n) : ∃ xs, SqL K H a xs := by
  have h : (match st[k]? with | some (.lst ws) => some ws.length | _ => none) = some n := h
  split at h
  · rename_i ws hw
    obtain ⟨us, e1, r1⟩ := hR.ob k a _ hk hw
    exact ⟨us, .inl (.inl e1)⟩
  · cases h
theorem pds_for {j : Nat} {x : Str} {px : Pos} {fi : FE} {fb : FS} (hp : PassesOwn (model X.prog X.w) X.A X.env X.xe) (hc : X.calm = true) (hN : X.N.Nodup) (hj : X.N[j]? = some x) (hx : Loc X.env.scope x) (hi : PD X EX U it fi) (hb : PDB X EX U body fb)
    (hs : ∀ x, foldedSetIterable it X.env x = pure x := by intro _; rfl) (hf : X.fn x = true ∨ X.env.scope.names.lookup x = some .local := by first | exact .inl rfl | exact .inr rfl | assumption) :
    PDS X EX U (.For (.Name x px) it body [] pos) (fFor fi j fb) := by
  refine (ps_for hp hc ((pi_list hi).or ((pi_tup hi).or (pi_str hi))) (pg_name (i := j) hN hj hx hf) hb hs).imp fun D σ H h => ?_
  obtain ⟨ρ, env, st, fl, env', st', hR, E, e, p⟩ := h
  have e : bS (fi env st) env (fun w st => match cnt w st with | some n => loop (gOf w) j fb (n + 1) 0 env st | none => none) = some (fl, env', st') := e
  cases q : fi env st with
  | none => rw [q] at e; cases e
  | some o =>
    obtain ⟨ro, s1⟩ := o
    rw [q] at e
    cases ro with
    | exc x =>
      cases e
      exact .inl ⟨ρ, env, st, .exc x, st', hR, E, q, fun c d H' ρ' e' R' q' => p c d σ H' ρ' e' R' (E.mono hR e') q'⟩
    | ok w =>
      have e : (match cnt w s1 with | some n => loop (gOf w) j fb (n + 1) 0 env s1 | none => none) = some (fl, env', st') := e
      split at e
      · rename_i n hn
        cases w with
        | ref k =>
          refine .inl ⟨ρ, env, st, .ok (.ref k), s1, hR, E, q, fun x H1 ρ1 e1 R1 rx => ?_⟩
          cases rx with
          | @ref _ a hk => exact ⟨a, rfl, cnt_ref R1 hk hn, loop_go (itr_lst hk) R1 (E.mono hR e1) e (p.ext e1)⟩
        | tup ws =>
          refine .inr (.inl ⟨ρ, env, st, .ok (.tup ws), s1, hR, E, q, fun x H1 ρ1 e1 R1 rx => ?_⟩)
          cases rx with
          | @tup a xs _ h1 h2 => exact ⟨a, rfl, ⟨xs, h1⟩, loop_go (itr_tup R1 h1 h2) R1 (E.mono hR e1) e (p.ext e1)⟩
        | ils ws =>
          refine .inl ⟨ρ, env, st, .ok (.ils ws), s1, hR, E, q, fun x H1 ρ1 e1 R1 rx => ?_⟩
          cases rx with
          | @ils a xs _ h1 h2 => exact ⟨a, rfl, ⟨xs, h1.sq⟩, loop_go (itr_ils R1 h1 h2) R1 (E.mono hR e1) e (p.ext e1)⟩
        | str z =>
          refine .inr (.inr ⟨ρ, env, st, .ok (.str z), s1, hR, E, q, fun x H1 ρ1 e1 R1 rx => ?_⟩)
          cases rx with
          | str _ => exact ⟨z, rfl, loop_go itr_str R1 (E.mono hR e1) e (p.ext e1)⟩
        | non => cases hn
        | bl b => cases hn
        | int i => cases hn
        | adr a => cases hn
        | exn a d n => cases hn
      · cases e
/-- one turn after another, pairs -/
def loop2 (G : Gt) (j1 j2 : Nat) (body : FS) : Nat → Nat → Evn → Sto → OutS
  | 0, _, _, _ => none
  | m + 1, i, env, st => match G st i with
    | none => none
    | some none => some (.nx, env, st)
    | some (some w) => match body ((env.set j1 (some (.int (i : Nat)))).set j2 (some w)) st with
      | some (.nx, env1, st1) => loop2 G j1 j2 body m (i + 1) env1 st1
      | some (.ct, env1, st1) => loop2 G j1 j2 body m (i + 1) env1 st1
      | some (.bk, env1, st1) => some (.nx, env1, st1)
      | o => o
def ItR2 (w0 : World) (K : PySem.W.Frag) (J : It) (G : Gt) (H0 : Hp) (ρ0 : List Addr) : Prop := ∀ (H : Hp) (ρ : List Addr) (st : Sto) (i : Nat), Ext H0 ρ0 H ρ → HR w0 K H ρ st →
  (G st i = some none → J.stop i H) ∧ ∀ w, G st i = some (some w) → J.go i H ∧ ∀ x H', J.yld i H x H' → ∃ T y, x = .ref T ∧ H T = none ∧ H' = upd H T (.tup [.int (i : Nat), y]) ∧ Rep K H ρ w y
theorem itr2_lst {K : PySem.W.Frag} {a : Addr} {k : Nat} {H0 : Hp} {ρ0 : List Addr} (hk : ρ0[k]? = some a) : ItR2 w0 K (Ite K a) (gOf (.ref k)) H0 ρ0 := fun H ρ st i e hR => by
  have hk' := e.at hk
  show ((match st[k]? with | some (.lst ws) => some ws[i]? | _ => none) = some none → _) ∧ ∀ w, (match st[k]? with | some (.lst ws) => some ws[i]? | _ => none) = some (some w) → _
  split
  · rename_i ws hw
    obtain ⟨us, e1, r1⟩ := hR.ob k a _ hk' hw
    refine ⟨fun h => ?_, fun w h => ?_⟩
    · have h : ws[i]? = none := Option.some.inj h
      exact ⟨us, .inl (.inl e1), by rw [← r1.length]; exact List.getElem?_eq_none_iff.mp h⟩
    · have h : ws[i]? = some w := Option.some.inj h
      obtain ⟨v, h3, h4⟩ := r1.get h
      refine ⟨⟨us, v, .inl (.inl e1), h3⟩, fun x H' ⟨T, y, e2, e3, e4, e5⟩ => ⟨T, y, e2, e3, e4, ?_⟩⟩
      have := e5 us (.inl (.inl e1))
      rw [h3] at this
      cases this
      exact h4
  · exact ⟨fun h => (by cases h), fun w h => (by cases h)⟩
theorem itr2_tup {K : PySem.W.Frag} {a : Addr} {xs : List V} {ws : List W} {H0 : Hp} {ρ0 : List Addr} {st0 : Sto} (hR : HR w0 K H0 ρ0 st0) (hs : SqT K H0 a xs) (hr : RepAll K H0 ρ0 ws xs) : ItR2 w0 K (IteT K a) (gOf (.tup ws)) H0 ρ0 := fun H ρ st i e hR' => by
  have hs' := SqT.mono hR e hs
  have hr' := hr.mono hR e
  refine ⟨fun h => ?_, fun w h => ?_⟩
  · have h : ws[i]? = none := Option.some.inj h
    exact ⟨xs, hs', by rw [← hr.length]; exact List.getElem?_eq_none_iff.mp h⟩
  · have h : ws[i]? = some w := Option.some.inj h
    obtain ⟨v, h1, h2⟩ := hr'.get h
    refine ⟨⟨xs, v, hs', h1⟩, fun x H' ⟨T, y, e2, e3, e4, e5⟩ => ⟨T, y, e2, e3, e4, ?_⟩⟩
    have := e5 xs hs'
    rw [h1] at this
    cases this
    exact h2
theorem loop2_go {K : PySem.W.Frag} {J : It} {G : Gt} {H0 : Hp} {ρ0 : List Addr} {j1 j2 : Nat} {fb : FS} (hJ : ItR2 w0 K J G H0 ρ0) {D : Ends} {σ0 : L2.St} {m0 : Nat} {env0 : Evn} {st0 : Sto} {fl : Fl} {env' : Evn} {st' : Sto}
    (hR : HR w0 K H0 ρ0 st0) (E : EnvR K H0 ρ0 env0 σ0) (h : loop2 G j1 j2 fb m0 0 env0 st0 = some (fl, env', st')) (p : PostS w0 K EX U D H0 ρ0 fl env' st') :
    ∃ Wd : Nat → Nat → L2.St → Hp → Prop, (∃ m, Wd 0 m σ0 H0) ∧ ∀ i m σ H, Wd i m σ H →
      (J.stop i H ∧ D.nx σ H) ∨ (J.go i H ∧ ∃ Nn : L2.St → Hp → Prop, (∀ σ' H', Nn σ' H' → ∃ m', m' < m ∧ Wd (i + 1) m' σ' H') ∧ ∀ x H', J.yld i H x H' → gTup K 2 (gCons (gName j1) (gCons (gName j2) gNil)) x σ H' fun σ2 H2 => tS w0 K EX U fb { D with nx := Nn, ct := Nn, bk := D.nx } σ2 H2) := by
  refine ⟨fun i m σ H => ∃ ρ env st, Ext H0 ρ0 H ρ ∧ HR w0 K H ρ st ∧ EnvR K H ρ env σ ∧ loop2 G j1 j2 fb m i env st = some (fl, env', st'), ⟨m0, ρ0, env0, st0, Ext.refl _ _, hR, E, h⟩, ?_⟩
  rintro i m σ H ⟨ρ, env, st, e1, R1, E1, h1⟩
  have p1 := p.ext e1
  cases m with
  | zero => cases h1
  | succ m =>
    unfold loop2 at h1
    obtain ⟨js, jg⟩ := hJ H ρ st i e1 R1
    split at h1
    · cases h1
    · rename_i hg
      cases h1
      exact .inl ⟨js hg, p1 σ H ρ (Ext.refl _ _) R1 E1⟩
    · rename_i w hg
      obtain ⟨go, gy⟩ := jg w hg
      refine .inr ⟨go, fun σ' H' => ∃ ρ env st, Ext H0 ρ0 H' ρ ∧ HR w0 K H' ρ st ∧ EnvR K H' ρ env σ' ∧ loop2 G j1 j2 fb m (i + 1) env st = some (fl, env', st'), fun σ' H' q => ⟨m, Nat.lt_succ_self m, q⟩, fun x H' y => ?_⟩
      obtain ⟨T, y', rfl, hT, rfl, rx⟩ := gy x H' y
      have eT : Ext H ρ (upd H T (.tup [.int (i : Nat), y'])) ρ := Ext.tup hT
      have R2 : HR w0 K (upd H T (.tup [.int (i : Nat), y'])) ρ st := R1.tup hT
      have e2 := e1.trans eT
      have p2 := p1.ext eT
      refine ⟨T, _, rfl, .inl (.inl upd_same), rfl, _, _, rfl, _, _, rfl, rfl, ?_⟩
      show tS w0 K EX U fb _ ((σ.set j1 (some (.int (i : Nat)))).set j2 (some y')) _
      have E2 := ((E1.mono R1 eT).set (Rep.int (i : Nat)) j1).set (rx.mono R1 eT) j2
      split at h1
      · rename_i env1 st1 hb
        exact ⟨ρ, _, st, .nx, env1, st1, R2, E2, hb, fun σ2 H2 ρ2 e3 R2 E2 => ⟨ρ2, env1, st1, e2.trans e3, R2, E2, h1⟩⟩
      · rename_i env1 st1 hb
        exact ⟨ρ, _, st, .ct, env1, st1, R2, E2, hb, fun σ2 H2 ρ2 e3 R2 E2 => ⟨ρ2, env1, st1, e2.trans e3, R2, E2, h1⟩⟩
      · rename_i env1 st1 hb
        cases h1
        exact ⟨ρ, _, st, .bk, env', st', R2, E2, hb, p2⟩
      · rename_i n1 n2 n3
        refine ⟨ρ, _, st, fl, env', st', R2, E2, h1, ?_⟩
        cases fl with
        | nx => exact absurd h1 (n1 _ _)
        | ct => exact absurd h1 (n2 _ _)
        | bk => exact absurd h1 (n3 _ _)
        | rt w => exact p2
        | exc x => exact p2
/-- for i, x in enumerate(e) -/
def fForE (fi : FE) (j1 j2 : Nat) (fb : FS) : FS := fun env st => bS (fi env st) env fun w st => match w with
  | .str _ | .ils _ => none
  | _ => match cnt w st with
    | some n => loop2 (gOf w) j1 j2 fb (n + 1) 0 env st
    | none => none
theorem pds_forE {j1 j2 : Nat} {x1 x2 : Str} {p0 p1 p2 px : Pos} {a : Expr} {kk : Nat} {fi : FE} {fb : FS} (hp : PassesOwn (model X.prog X.w) X.A X.env X.xe) (hc : X.calm = true) (hN : X.N.Nodup) (hj1 : X.N[j1]? = some x1) (hx1 : Loc X.env.scope x1) (hj2 : X.N[j2]? = some x2) (hx2 : Loc X.env.scope x2)
    (hg : Gl X "enumerate") (hm : X.mg "enumerate" = none) (hi : PD X EX U a fi) (hb : PDB X EX U body fb)
    (hst : starEach [a] X.env = [(false, eval a X.env)] := by rfl) (hst' : starEach (a :: []) X.env = (false, eval a X.env) :: starEach [] X.env := by rfl)
    (hs : ∀ y, foldedSetIterable (.Call (.Name "enumerate" p0) [a] [] p1) X.env y = pure y := by intro _; rfl)
    (hf1 : X.fn x1 = true ∨ X.env.scope.names.lookup x1 = some .local := by first | exact .inl rfl | exact .inr rfl | assumption) (hf2 : X.fn x2 = true ∨ X.env.scope.names.lookup x2 = some .local := by first | exact .inl rfl | exact .inr rfl | assumption) :
    PDS X EX U (.For (.Tuple [.Name x1 p2, .Name x2 px] kk tpos) (.Call (.Name "enumerate" p0) [a] [] p1) body [] pos) (fForE fi j1 j2 fb) := by
  have ha := pa_cons hi pa_nil hst'
  refine (ps_for hp hc ((pi_enum hg hm ha hst).or (pi_enumT hg hm ha hst)) (pg_tup (n := 2) hc (pgs_cons (pg_name (i := j1) hN hj1 hx1 hf1) (pgs_cons (pg_name (i := j2) hN hj2 hx2 hf2) pgs_nil))) hb hs).imp fun D σ H h => ?_
  obtain ⟨ρ, env, st, fl, env', st', hR, E, e, p⟩ := h
  have e : bS (fi env st) env (fun w st => match w with | .str _ | .ils _ => none | _ => match cnt w st with | some n => loop2 (gOf w) j1 j2 fb (n + 1) 0 env st | none => none) = some (fl, env', st') := e
  cases q : fi env st with
  | none => rw [q] at e; cases e
  | some o =>
    obtain ⟨ro, s1⟩ := o
    rw [q] at e
    cases ro with
    | exc x =>
      cases e
      exact .inl ⟨ρ, env, st, .exc x, st', hR, E, q, fun c d H' ρ' e' R' q' => p c d σ H' ρ' e' R' (E.mono hR e') q'⟩
    | ok w =>
      cases w with
      | ref k =>
        have e : (match cnt (.ref k) s1 with | some n => loop2 (gOf (.ref k)) j1 j2 fb (n + 1) 0 env s1 | none => none) = some (fl, env', st') := e
        split at e
        · rename_i n hn
          refine .inl ⟨ρ, env, st, .ok (.ref k), s1, hR, E, q, fun x H1 ρ1 e1 R1 rx => ?_⟩
          cases rx with
          | @ref _ a hk =>
            obtain ⟨xs, hx⟩ := cnt_ref R1 hk hn
            exact ⟨a, xs, rfl, hx, loop2_go (itr2_lst hk) R1 (E.mono hR e1) e (p.ext e1)⟩
        · cases e
      | tup ws =>
        have e : loop2 (gOf (.tup ws)) j1 j2 fb (ws.length + 1) 0 env s1 = some (fl, env', st') := e
        refine .inr ⟨ρ, env, st, .ok (.tup ws), s1, hR, E, q, fun x H1 ρ1 e1 R1 rx => ?_⟩
        cases rx with
        | @tup a xs _ h1 h2 => exact ⟨a, xs, rfl, h1, loop2_go (itr2_tup R1 h1 h2) R1 (E.mono hR e1) e (p.ext e1)⟩
      | non => cases e
      | bl b => cases e
      | int i => cases e
      | str x => cases e
      | ils ws => cases e
      | adr a => cases e
      | exn a d n => cases e
/-- for x in range(e), range(a, b) -/
def rng1 (ws : List W) : Option (Int × Nat) := match ws with
  | [.int n] => if decide (-(2 ^ 62) ≤ n) && decide (n < 2 ^ 62) then some (0, n.toNat) else none
  | _ => none
def rng2 (ws : List W) : Option (Int × Nat) := match ws with
  | [.int lo, .int hi] => if (decide (-(2 ^ 62) ≤ lo) && decide (lo < 2 ^ 62)) && (decide (-(2 ^ 62) ≤ hi) && decide (hi < 2 ^ 62)) then some (lo, (hi - lo).toNat) else none
  | _ => none
def fForR (rg : List W → Option (Int × Nat)) (fa : FA) (j : Nat) (fb : FS) : FS := fun env st => bS (fa env st) env fun ws st => match rg ws with
  | some (lo, n) => loop (gRng lo n) j fb (n + 1) 0 env st
  | none => none
theorem forR_go {K : PySem.W.Frag} {rg : List W → Option (Int × Nat)} {j : Nat} {fb : FS} {vs : List V} {D : Ends} {σ : L2.St} {H : Hp} (k : tKS w0 K EX U (RepAll K) (fun env ws st => match rg ws with | some (lo, n) => loop (gRng lo n) j fb (n + 1) 0 env st | none => none) vs D σ H) :
    ∃ lo n ws ρ, rg ws = some (lo, n) ∧ RepAll K H ρ ws vs ∧ ∃ Wd : Nat → Nat → L2.St → Hp → Prop, (∃ m, Wd 0 m σ H) ∧ ∀ i m σ H, Wd i m σ H →
      ((Itr lo n).stop i H ∧ D.nx σ H) ∨ ((Itr lo n).go i H ∧ ∃ Nn : L2.St → Hp → Prop, (∀ σ' H', Nn σ' H' → ∃ m', m' < m ∧ Wd (i + 1) m' σ' H') ∧ ∀ x H', (Itr lo n).yld i H x H' → gName j x σ H' fun σ2 H2 => tS w0 K EX U fb { D with nx := Nn, ct := Nn, bk := D.nx } σ2 H2) := by
  obtain ⟨ρ, env, st, ws, fl, env', st', hR, E, rw', e, p⟩ := k
  have e : (match rg ws with | some (lo, n) => loop (gRng lo n) j fb (n + 1) 0 env st | none => none) = some (fl, env', st') := e
  split at e
  · rename_i lo n hn
    exact ⟨lo, n, ws, ρ, hn, rw', loop_go itr_rng hR E e p⟩
  · cases e
theorem pds_forR1 {a : Expr} {j : Nat} {x : Str} {p0 p1 px : Pos} {fa : FA} {fb : FS} (hp : PassesOwn (model X.prog X.w) X.A X.env X.xe) (hc : X.calm = true) (hN : X.N.Nodup) (hj : X.N[j]? = some x) (hx : Loc X.env.scope x) (hg : Gl X "range") (hm : X.mg "range" = none) (ha : PDA X EX U [a] fa) (hb : PDB X EX U body fb)
    (hst : starEach [a] X.env = [(false, eval a X.env)] := by rfl)
    (hs : ∀ y, foldedSetIterable (.Call (.Name "range" p0) [a] [] p1) X.env y = pure y := by intro _; rfl) (hf : X.fn x = true ∨ X.env.scope.names.lookup x = some .local := by first | exact .inl rfl | exact .inr rfl | assumption) :
    PDS X EX U (.For (.Name x px) (.Call (.Name "range" p0) [a] [] p1) body [] pos) (fForR rng1 fa j fb) := by
  refine (ps_for hp hc (pi_range1 hg hm ha hst) (pg_name (i := j) hN hj hx hf) hb hs).imp fun D σ H h => ?_
  refine (tS_bind (r1 := RepAll X.K) (g := fun env ws st => match rng1 ws with | some (lo, n) => loop (gRng lo n) j fb (n + 1) 0 env st | none => none) h).imp fun vs H1 k => ?_
  obtain ⟨lo, n, ws, ρ, hn, rw', kk⟩ := forR_go k
  unfold rng1 at hn
  split at hn
  · split at hn
    · rename_i hz
      rw [Bool.and_eq_true] at hz
      cases hn
      obtain ⟨v, rfl, rv⟩ := all1 rw'
      cases rv
      exact ⟨_, rfl, of_decide_eq_true hz.1, of_decide_eq_true hz.2, kk⟩
    · cases hn
  · cases hn
theorem pds_forR2 {a b : Expr} {j : Nat} {x : Str} {p0 p1 px : Pos} {fa : FA} {fb : FS} (hp : PassesOwn (model X.prog X.w) X.A X.env X.xe) (hc : X.calm = true) (hN : X.N.Nodup) (hj : X.N[j]? = some x) (hx : Loc X.env.scope x) (hg : Gl X "range") (hm : X.mg "range" = none) (ha : PDA X EX U [a, b] fa) (hb : PDB X EX U body fb)
    (hst : starEach [a, b] X.env = [(false, eval a X.env), (false, eval b X.env)] := by rfl) (hst2 : starEach [b] X.env = [(false, eval b X.env)] := by rfl)
    (hs : ∀ y, foldedSetIterable (.Call (.Name "range" p0) [a, b] [] p1) X.env y = pure y := by intro _; rfl) (hf : X.fn x = true ∨ X.env.scope.names.lookup x = some .local := by first | exact .inl rfl | exact .inr rfl | assumption) :
    PDS X EX U (.For (.Name x px) (.Call (.Name "range" p0) [a, b] [] p1) body [] pos) (fForR rng2 fa j fb) := by
  refine (ps_for hp hc (pi_range2 hg hm ha hst hst2) (pg_name (i := j) hN hj hx hf) hb hs).imp fun D σ H h => ?_
  refine (tS_bind (r1 := RepAll X.K) (g := fun env ws st => match rng2 ws with | some (lo, n) => loop (gRng lo n) j fb (n + 1) 0 env st | none => none) h).imp fun vs H1 k => ?_
  obtain ⟨lo, n, ws, ρ, hn, rw', kk⟩ := forR_go k
  unfold rng2 at hn
  split at hn
  · split at hn
    · rename_i hz
      rw [Bool.and_eq_true, Bool.and_eq_true, Bool.and_eq_true] at hz
      cases hn
      obtain ⟨v, v2, rfl, rv, rv2⟩ := all2 rw'
      cases rv
      cases rv2
      exact ⟨_, _, rfl, ⟨of_decide_eq_true hz.1.1, of_decide_eq_true hz.1.2, of_decide_eq_true hz.2.1, of_decide_eq_true hz.2.2⟩, kk⟩
    · cases hn
  · cases hn
end

/-! ### [e for x in it if t] -/
section
variable {K : PySem.W.Frag} {H : Hp} {ρ : List Addr} {st : Sto}
theorem FzL.other {D a : Addr} {xs ys : List V} {o : HO} (hD : H D = some (.lst ys)) (h : FzL K H a xs) : FzL K (upd H D o) a xs := by
  refine ⟨h.1, ?_⟩
  rcases h.2 with ⟨u, h⟩ | h
  · exact .inl ⟨u, by rw [upd_ne (ne_of h hD (by intro z; cases z))]; exact h⟩
  · exact .inr h
theorem SqT.other {D a : Addr} {xs ys : List V} {o : HO} (hD : H D = some (.lst ys)) (h : SqT K H a xs) : SqT K (upd H D o) a xs := by
  rcases h with (h | ⟨u, h⟩) | h
  · exact .inl (.inl (by rw [upd_ne (ne_of h hD (by intro z; cases z))]; exact h))
  · exact .inl (.inr ⟨u, by rw [upd_ne (ne_of h hD (by intro z; cases z))]; exact h⟩)
  · exact .inr h
mutual
theorem Rep.other {D : Addr} {ys : List V} {o : HO} (hD : H D = some (.lst ys)) : ∀ {w : W} {v : V}, Rep K H ρ w v → Rep K (upd H D o) ρ w v
  | _, _, .non => .non
  | _, _, .bl b => .bl b
  | _, _, .int i => .int i
  | _, _, .str x => .str x
  | _, _, .tup h hs => .tup (SqT.other hD h) (RepAll.other hD hs)
  | _, _, .ils h hs => .ils (FzL.other hD h) (RepAll.other hD hs)
  | _, _, .ref h => .ref h
  | _, _, .adr a => .adr a
  | _, _, .exn h => .exn h
theorem RepAll.other {D : Addr} {ys : List V} {o : HO} (hD : H D = some (.lst ys)) : ∀ {ws : List W} {vs : List V}, RepAll K H ρ ws vs → RepAll K (upd H D o) ρ ws vs
  | _, _, .nil => .nil
  | _, _, .cons h hs => .cons (Rep.other hD h) (RepAll.other hD hs)
end
mutual
theorem Rep.num {ρ' : List Addr} (at' : ∀ {n : Nat} {a : Addr}, ρ[n]? = some a → ρ'[n]? = some a) : ∀ {w : W} {v : V}, Rep K H ρ w v → Rep K H ρ' w v
  | _, _, .non => .non
  | _, _, .bl b => .bl b
  | _, _, .int i => .int i
  | _, _, .str x => .str x
  | _, _, .tup h hs => .tup h (RepAll.num at' hs)
  | _, _, .ils h hs => .ils h (RepAll.num at' hs)
  | _, _, .ref h => .ref (at' h)
  | _, _, .adr a => .adr a
  | _, _, .exn h => .exn (at' h)
theorem RepAll.num {ρ' : List Addr} (at' : ∀ {n : Nat} {a : Addr}, ρ[n]? = some a → ρ'[n]? = some a) : ∀ {ws : List W} {vs : List V}, RepAll K H ρ ws vs → RepAll K H ρ' ws vs
  | _, _, .nil => .nil
  | _, _, .cons h hs => .cons (Rep.num at' h) (RepAll.num at' hs)
end
theorem HR.other (hR : HR w0 K H ρ st) {D : Addr} {ys : List V} {o : HO} (hD : H D = some (.lst ys)) (nD : D ∉ ρ) : HR w0 K (upd H D o) ρ st := by
  refine ⟨hR.len, hR.nd, ?_, fun n a u hn hs => ?_⟩
  · obtain ⟨o1, u1, e1⟩ := hR.sm
    exact ⟨o1, u1, by rw [upd_ne (ne_of e1 hD (by intro z; cases z))]; exact e1⟩
  have q := hR.ob n a u hn hs
  have ne : a ≠ D := fun z => nD (z ▸ List.mem_of_getElem? hn)
  cases u with
  | lst ws => obtain ⟨xs, h1, h2⟩ := q; exact ⟨xs, by rw [upd_ne ne]; exact h1, h2.other hD⟩
  | emp => show upd H D o a = _; rw [upd_ne ne]; exact q
  | xd fs => obtain ⟨us, h1, h2, h3⟩ := q; exact ⟨us, by rw [upd_ne ne]; exact h1, h2, h3.other hD⟩
  | dct kvs => obtain ⟨ys, vs, h1, h2, h3, h4, h5, h6⟩ := q; exact ⟨ys, vs, by rw [upd_ne ne]; exact h1, h2, h3, h4.other hD, h5.other hD, h6⟩
/-- a list that stood apart gets its number -/
theorem HR.adopt (hR : HR w0 K H ρ st) {D : Addr} {xs : List V} {ws : List W} (hD : H D = some (.lst xs)) (nD : D ∉ ρ) (r : RepAll K H ρ ws xs) : HR w0 K H (ρ ++ [D]) (st ++ [.lst ws]) := by
  have up : ∀ {ws : List W} {xs : List V}, RepAll K H ρ ws xs → RepAll K H (ρ ++ [D]) ws xs := by
    have at' : ∀ {n : Nat} {a : Addr}, ρ[n]? = some a → (ρ ++ [D])[n]? = some a := fun {n a} h => by
      rw [List.getElem?_append_left (List.getElem?_eq_some_iff.mp h).1]; exact h
    exact fun {_ _} r => RepAll.num at' r
  refine ⟨by simp [hR.len], ?_, hR.sm, fun n a u hn hs => ?_⟩
  · rw [List.nodup_append]
    exact ⟨hR.nd, by simp, fun a ha b hb => by rw [List.mem_singleton.mp hb]; rintro rfl; exact nD ha⟩
  · by_cases hl : n < ρ.length
    · rw [List.getElem?_append_left hl] at hn
      rw [List.getElem?_append_left (by rw [← hR.len]; exact hl)] at hs
      have q := hR.ob n a u hn hs
      cases u with
      | lst ws => obtain ⟨xs, h1, h2⟩ := q; exact ⟨xs, h1, up h2⟩
      | emp => exact q
      | xd fs => obtain ⟨us, h1, h2, h3⟩ := q; exact ⟨us, h1, h2, up h3⟩
      | dct kvs => obtain ⟨ys, vs, h1, h2, h3, h4, h5, h6⟩ := q; exact ⟨ys, vs, h1, h2, h3, up h4, up h5, h6⟩
    · rw [List.getElem?_append_right (by omega)] at hn
      rw [List.getElem?_append_right (by rw [← hR.len]; omega)] at hs
      rw [hR.len] at hn
      cases k : n - st.length with
      | zero =>
        rw [k] at hn hs
        cases hn; cases hs
        exact ⟨xs, hD, up r⟩
      | succ j => rw [k] at hn; simp at hn
end
end DI

namespace DI
open PySem L2

def U0 : WX := fun _ _ _ _ => False
def lcLoop (G : Gt) (j : Nat) (t : FT) (f : FE) (env : Evn) : Nat → Nat → List W → Sto → Out (List W)
  | 0, _, _, _ => none
  | m + 1, i, acc, st => match G st i with
    | none => none
    | some none => if szW acc.length then ret acc st else none
    | some (some w) => match t (env.set j (some w)) st with
      | some (.ok true, st1) => match f (env.set j (some w)) st1 with
        | some (.ok y, st2) => if szW acc.length then lcLoop G j t f env m (i + 1) (acc ++ [y]) st2 else none
        | _ => none
      | some (.ok false, st1) => lcLoop G j t f env m (i + 1) acc st1
      | _ => none
def addL (ws : List W) (st : Sto) : Out W := some (.ok (.ref st.length), st ++ [.lst ws])
def fLc (fi : FE) (j : Nat) (t : FT) (f : FE) : FE := fun env st => bnd (fi env st) fun w st => match cnt w st with
  | some n => bnd (lcLoop (gOf w) j t f (env.set j none) (n + 1) 0 [] st) addL
  | none => none
def fLcR (rg : List W → Option (Int × Nat)) (fa : FA) (j : Nat) (t : FT) (f : FE) : FE := fun env st => bnd (fa env st) fun ws st => match rg ws with
  | some (lo, n) => bnd (lcLoop (gRng lo n) j t f (env.set j none) (n + 1) 0 [] st) addL
  | none => none
theorem lcLoop_nox {G : Gt} {j : Nat} {t : FT} {f : FE} {env : Evn} : ∀ (m i : Nat) (acc : List W) (st : Sto), NoX (lcLoop G j t f env m i acc st)
  | 0, _, _, _ => fun x s h => by cases h
  | m + 1, i, acc, st => fun x s h => by
    unfold lcLoop at h
    split at h
    · cases h
    · split at h <;> cases h
    · split at h
      · split at h
        · split at h
          · exact lcLoop_nox m _ _ _ x s h
          · cases h
        · cases h
      · exact lcLoop_nox m _ _ _ x s h
      · cases h
section
variable {EX : XR}
theorem EnvR.wipe1 {K : PySem.W.Frag} {H : Hp} {ρ : List Addr} {env : Evn} {σ : L2.St} (h : EnvR K H ρ env σ) (j : Nat) : EnvR K H ρ (env.set j none) (σ.set j none) := by
  refine ⟨by simp [h.1], fun i w q => ?_⟩
  by_cases e : j = i
  · subst e
    by_cases hl : j < env.length
    · rw [List.getElem?_set_self hl] at q; cases q
    · rw [List.getElem?_eq_none (by simpa using Nat.le_of_not_lt hl)] at q; cases q
  · rw [List.getElem?_set_ne e] at q
    rw [List.getElem?_set_ne e]
    exact h.2 i w q
theorem lc_go {K : PySem.W.Frag} {J : It} {G : Gt} {H0 : Hp} {ρ0 : List Addr} {j : Nat} {ft : FT} {fe : FE} (hJ : ItR w0 K J G H0 ρ0) {σ : L2.St} {env : Evn} {m0 : Nat} {st0 st' : Sto} {ws : List W} {Q : VK}
    (hR : HR w0 K H0 ρ0 st0) (E : EnvR K H0 ρ0 env σ) (h : lcLoop G j ft fe (env.set j none) m0 0 [] st0 = some (.ok ws, st'))
    (p : ∀ v H' ρ', Ext H0 ρ0 H' ρ' → HR w0 K H' ρ' (st' ++ [.lst ws]) → Rep K H' ρ' (.ref st'.length) v → Q v H') (D : Addr) (hD : H0 D = none) :
    ∃ Wd : Nat → Nat → Hp → Prop, (∃ m, Wd 0 m (upd H0 D (.lst []))) ∧ ∀ i m H, Wd i m H → (J.stop i H ∧ Q (.ref D) H) ∨ (J.go i H ∧ ∃ Nx : Hp → Prop, (∀ H', Nx H' → ∃ m', m' < m ∧ Wd (i + 1) m' H') ∧
      ∀ x H', J.yld i H x H' → gName j x (wipe σ [j]) H' fun σ2 H2 => wipe σ2 [j] = wipe σ [j] ∧ tT w0 K EX U0 ft σ2 H2 fun b H3 =>
        if b = true then tI w0 K EX U0 fe σ2 H3 fun y H4 => ∃ acc, H4 D = some (.lst acc) ∧ acc.length < sizeLine ∧ Nx (upd H4 D (.lst (acc ++ [y]))) else Nx H3) := by
  have nD0 := hR.fresh hD
  let Wd : Nat → Nat → Hp → Prop := fun i m H => ∃ ρ st acc xs, Ext H0 ρ0 H ρ ∧ HR w0 K H ρ st ∧ D ∉ ρ ∧ H D = some (.lst xs) ∧ RepAll K H ρ acc xs ∧ lcLoop G j ft fe (env.set j none) m i acc st = some (.ok ws, st')
  refine ⟨Wd, ⟨m0, ρ0, st0, [], [], Ext.tup hD, hR.tup hD, nD0, upd_same, .nil, h⟩, ?_⟩
  rintro i m H ⟨ρ, st, acc, xs, e1, R1, nD, eD, ra, h1⟩
  cases m with
  | zero => cases h1
  | succ m =>
    unfold lcLoop at h1
    obtain ⟨js, jg⟩ := hJ H ρ st i e1 R1
    split at h1
    · cases h1
    · rename_i hg
      split at h1
      · cases h1
        refine .inl ⟨js hg, p _ H (ρ ++ [D]) ?_ (R1.adopt eD nD ra) (.ref ?_)⟩
        · obtain ⟨⟨l, rfl⟩, k1, n1⟩ := e1
          refine ⟨⟨l ++ [D], by simp⟩, k1, fun a ha => ?_⟩
          rcases List.mem_append.mp ha with z | z
          · exact n1 a z
          · rw [List.mem_singleton.mp z]; exact .inr hD
        · rw [← R1.len]; simp
      · cases h1
    · rename_i w hg
      obtain ⟨go, gy⟩ := jg w hg
      refine .inr ⟨go, Wd (i + 1) m, fun H' q => ⟨m, Nat.lt_succ_self m, q⟩, fun x H' y => ?_⟩
      obtain ⟨rfl, rx⟩ := gy x H' y
      have E2 : EnvR K H' ρ ((env.set j none).set j (some w)) ((σ.set j none).set j (some x)) := ((E.mono hR e1).wipe1 j).set rx j
      refine ⟨by show ((σ.set j none).set j (some x)).set j none = σ.set j none; rw [List.set_set, List.set_set], ?_⟩
      show tT w0 K EX U0 ft ((σ.set j none).set j (some x)) H' _
      split at h1
      · rename_i st1 ht
        refine ⟨ρ, _, st, .ok true, st1, R1, E2, ht, fun b H3 ρ3 e3 R3 hb => ?_⟩
        obtain rfl : true = b := hb
        rw [if_pos rfl]
        split at h1
        · rename_i yw st2 hf
          split at h1
          · rename_i hz
            refine ⟨ρ3, _, st1, .ok yw, st2, R3, E2.mono R1 e3, hf, fun y4 H4 ρ4 e4 R4 r4 => ?_⟩
            have e34 := e3.trans e4
            have eD4 : H4 D = some (.lst xs) := e34.keep D _ eD nD
            have nD4 : D ∉ ρ4 := fun z => by
              rcases e34.new D z with z | z
              · exact nD z
              · rw [eD] at z; cases z
            have hz := sz_ok hz
            refine ⟨xs, eD4, ?_, ρ4, st2, acc ++ [yw], xs ++ [y4], ?_, R4.other eD4 nD4, nD4, upd_same, ?_, h1⟩
            · rw [← ra.length]
              exact Nat.lt_of_le_of_lt (of_decide_eq_true (by assumption)) (by decide)
            · obtain ⟨p4, k4, n4⟩ := e1.trans e34
              exact ⟨p4, fun a o ha hn => by rw [upd_ne (ne_of_none ha hD)]; exact k4 a o ha hn, n4⟩
            · exact ((ra.mono R1 e34).append (.cons r4 .nil)).other eD4
          · cases h1
        · cases h1
      · rename_i st1 ht
        refine ⟨ρ, _, st, .ok false, st1, R1, E2, ht, fun b H3 ρ3 e3 R3 hb => ?_⟩
        obtain rfl : false = b := hb
        rw [if_neg Bool.false_ne_true]
        have nD3 : D ∉ ρ3 := fun z => by
          rcases e3.new D z with z | z
          · exact nD z
          · rw [eD] at z; cases z
        exact ⟨ρ3, st1, acc, xs, e1.trans e3, R3, nD3, e3.keep D _ eD nD, ra.mono R1 e3, h1⟩
      · cases h1
end
def fYes : FT := fun _ st => ret true st
section
variable {X : Cx} {EX : XR} {U : WX} {it elt : Expr} {ifs : List Expr} {scope : Scope} {pos px : Pos} {x : Str} {j : Nat}
theorem _root_.L2.PTs.imp {X : Cx} {es : List Expr} {t t' : TT} (h : PTs X es t) (w : ∀ σ H Q, t' σ H Q → t σ H Q) : PTs X es t' := ⟨fun pins s σ H Q I q => h.run pins s σ H Q I (w σ H Q q)⟩
theorem pdts_nil : PTs X [] (tT X.w X.K EX U fYes) := pts_nil.imp fun σ H Q ⟨ρ, env, st, r, st', hR, E, e, p⟩ => by
  cases e
  exact p true H ρ (Ext.refl _ _) hR rfl
theorem pdts_one {c : Expr} {f : FT} (h : PDT X EX U c f) : PTs X [c] (tT X.w X.K EX U f) := pts_one h
/-- what goes on behind the walk -/
theorem lcB {K : PySem.W.Frag} {G : Gt} {ft : FT} {fe : FE} {env : Evn} {m : Nat} {st st' : Sto} {r : R W} (e : bnd (lcLoop G j ft fe env m 0 [] st) addL = some (r, st')) : ∃ ws s1, lcLoop G j ft fe env m 0 [] st = some (.ok ws, s1) ∧ r = .ok (.ref s1.length) ∧ st' = s1 ++ [.lst ws] := by
  cases q : lcLoop G j ft fe env m 0 [] st with
  | none => rw [q] at e; cases e
  | some o =>
    obtain ⟨ro, s1⟩ := o
    cases ro with
    | exc x => exact absurd q (lcLoop_nox _ _ _ _ _ _)
    | ok ws => rw [q] at e; cases e; exact ⟨ws, s1, rfl, rfl, rfl⟩
theorem lc_main {fi : FE} {ft : FT} {fe : FE} {σ : L2.St} {H : Hp} {Q : VK} {te : TE} {tt : TT} (h : tI X.w X.K EX U (fLc fi j ft fe) σ H Q) :
    tLc (fun σ H R => iList X.K (tI X.w X.K EX U fi) σ H R ∨ (iTup X.K (tI X.w X.K EX U fi) σ H R ∨ iStr (tI X.w X.K EX U fi) σ H R)) (gName j) (tT X.w X.K EX U0 ft) (tI X.w X.K EX U0 fe) [j] σ H Q := by
  obtain ⟨ρ, env, st, r, st', hR, E, e, p⟩ := h
  have e : bnd (fi env st) (fun w st => match cnt w st with | some n => bnd (lcLoop (gOf w) j ft fe (env.set j none) (n + 1) 0 [] st) addL | none => none) = some (r, st') := e
  cases q : fi env st with
  | none => rw [q] at e; cases e
  | some o =>
    obtain ⟨ro, s1⟩ := o
    rw [q] at e
    cases ro with
    | exc x =>
      cases e
      exact .inl ⟨ρ, env, st, .exc x, st', hR, E, q, p⟩
    | ok w =>
      have e : (match cnt w s1 with | some n => bnd (lcLoop (gOf w) j ft fe (env.set j none) (n + 1) 0 [] s1) addL | none => none) = some (r, st') := e
      split at e
      · rename_i n hn
        obtain ⟨ws, s2, hl, rfl, rfl⟩ := lcB (K := X.K) e
        cases w with
        | ref k =>
          refine .inl ⟨ρ, env, st, .ok (.ref k), s1, hR, E, q, fun x H1 ρ1 e1 R1 rx => ?_⟩
          cases rx with
          | @ref _ a hk => exact ⟨a, rfl, cnt_ref R1 hk hn, fun D hD => lc_go (itr_lst hk) R1 (E.mono hR e1) hl (fun v H' ρ' e' => p v H' ρ' (e1.trans e')) D hD⟩
        | tup us =>
          refine .inr (.inl ⟨ρ, env, st, .ok (.tup us), s1, hR, E, q, fun x H1 ρ1 e1 R1 rx => ?_⟩)
          cases rx with
          | @tup a xs _ h1 h2 => exact ⟨a, rfl, ⟨xs, h1⟩, fun D hD => lc_go (itr_tup R1 h1 h2) R1 (E.mono hR e1) hl (fun v H' ρ' e' => p v H' ρ' (e1.trans e')) D hD⟩
        | ils us =>
          refine .inl ⟨ρ, env, st, .ok (.ils us), s1, hR, E, q, fun x H1 ρ1 e1 R1 rx => ?_⟩
          cases rx with
          | @ils a xs _ h1 h2 => exact ⟨a, rfl, ⟨xs, h1.sq⟩, fun D hD => lc_go (itr_ils R1 h1 h2) R1 (E.mono hR e1) hl (fun v H' ρ' e' => p v H' ρ' (e1.trans e')) D hD⟩
        | str z =>
          refine .inr (.inr ⟨ρ, env, st, .ok (.str z), s1, hR, E, q, fun x H1 ρ1 e1 R1 rx => ?_⟩)
          cases rx with
          | str _ => exact ⟨z, rfl, fun D hD => lc_go itr_str R1 (E.mono hR e1) hl (fun v H' ρ' e' => p v H' ρ' (e1.trans e')) D hD⟩
        | non => cases hn
        | bl b => cases hn
        | int i => cases hn
        | adr a => cases hn
        | exn a d n => cases hn
      · cases e
end
end DI

namespace DI
open PySem L2 PySem.Spec PyProof.Rows
section
variable {X : Cx} {EX : XR} {U : WX} {it elt : Expr} {ifs : List Expr} {scope : Scope} {pos px : Pos} {x : Str} {j : Nat}
theorem pd_lc {fi : FE} {ft : FT} {fe : FE} (hc : X.calm = true) (hN : X.N.Nodup) (ok : BlkOk X.N X.env.scope scope [(x, j)]) (hi : PD X EX U it fi)
    (hg : ∀ (s : Shared) (H : Hp) (C : Addr) (cl : List (Str × Addr)) (fp : List Addr), PG (X.blk s H scope (compEnvC scope cl C X.env) fp) (.Name x px) (gName j))
    (ht : ∀ (s : Shared) (H : Hp) (C : Addr) (cl : List (Str × Addr)) (fp : List Addr), PTs (X.blk s H scope (compEnvC scope cl C X.env) fp) ifs (tT X.w X.K EX U0 ft))
    (he : ∀ (s : Shared) (H : Hp) (C : Addr) (cl : List (Str × Addr)) (fp : List Addr), PE (X.blk s H scope (compEnvC scope cl C X.env) fp) elt (tI X.w X.K EX U0 fe))
    (hs : ∀ x, foldedSetIterable it X.env x = pure x := by intro _; rfl) :
    PD X EX U (.ListComp elt [⟨.Name x px, it, ifs, 0⟩] scope pos) (fLc fi j ft fe) :=
  (pe_lc (own := [(x, j)]) hc hN ((pi_list hi).or ((pi_tup hi).or (pi_str hi))) ok hg ht he hs).imp fun _ _ _ h => lc_main (te := tI X.w X.K EX U0 fe) (tt := tT X.w X.K EX U0 ft) h
theorem pds_setLc {i : Nat} {y : Str} {py spos : Pos} {fi : FE} {ft : FT} {fe : FE} (hc : X.calm = true) (hN : X.N.Nodup) (hy : X.N[i]? = some y) (hyl : X.env.scope.names.lookup y = some .local)
    (hsw : swapsWith (.ListComp elt [⟨.Name x px, it, ifs, 0⟩] scope pos) (some (.Name y py)) spos.line X.env = pure true) (ok : BlkOk X.N X.env.scope scope [(x, j)]) (hi : PD X EX U it fi)
    (hg : ∀ (s : Shared) (H : Hp) (C : Addr) (cl : List (Str × Addr)) (fp : List Addr), PG (X.blk s H scope (compEnvC scope cl C X.env) fp) (.Name x px) (gName j))
    (ht : ∀ (s : Shared) (H : Hp) (C : Addr) (cl : List (Str × Addr)) (fp : List Addr), PTs (X.blk s H scope (compEnvC scope cl C X.env) fp) ifs (tT X.w X.K EX U0 ft))
    (he : ∀ (s : Shared) (H : Hp) (C : Addr) (cl : List (Str × Addr)) (fp : List Addr), PE (X.blk s H scope (compEnvC scope cl C X.env) fp) elt (tI X.w X.K EX U0 fe))
    (hs : ∀ x, foldedSetIterable it X.env x = pure x := by intro _; rfl) :
    PDS X EX U (.Assign [.Name y py] (.ListComp elt [⟨.Name x px, it, ifs, 0⟩] scope pos) spos) (fSet i (fLc fi j ft fe)) := by
  refine (ps_setLc (own := [(x, j)]) hc hN hy hyl hsw ((pi_list hi).or ((pi_tup hi).or (pi_str hi))) ok hg ht he hs).imp fun D σ H h => ?_
  refine lc_main (X := X) (te := tI X.w X.K EX U0 fe) (tt := tT X.w X.K EX U0 ft) ((tS_bind (r1 := Rep X.K) (g := fun env w st => some (.nx, env.set i (some w), st)) h).imp fun v H1 h1 => ?_)
  obtain ⟨ρ, env, st, w, fl, env', st', hR, E, rw', e, p⟩ := h1
  cases e
  exact p _ H1 ρ (Ext.refl _ _) hR (E.set rw' i)
end

/-! ### defs -/
/-- a def keeps its promise wherever no repr runs around it -/
structure FnG (P : Program) (w : World) (K : PySem.W.Frag) (mg : Str → Option Value) (base : Heap) (k : Nat) (f : Addr) (fd : FuncData) (ps : List Str) (sp : Sp) : Prop where
  len : ∀ vs H Q E, sp vs H Q E → vs.length = ps.length
  run : ∀ (A : Around) (ou : List Env) (s : Shared) (H : Hp) (ar : Args) (us : List Value) (vs : List V) (Q : VK) (E : XK), A.guards = some [] → Room k A → Env0 P w K mg base A ou s H → BindsTo s fd ar (ps.zip us) → Vals vs us → sp vs H Q E →
    codeAny (model P w) A (.call (.ref f) ar) (CR (L2.CX P w) ou P w H s Q E) s
section
variable {P : Program} {w : World} {K : PySem.W.Frag} {mg : Str → Option Value} {base : Heap} {k : Nat} {f : Addr} {x qual : Str} {params : Arguments} {body : List Stmt} {scope : Scope} {dvs : List V} {kws : List (Str × V)} {fd : FuncData} {N ps : List Str} {sp : Sp}
theorem fnG_of (Fn : FunD K x qual params body scope dvs kws f fd) (S : FnScope N ps scope) (len : ∀ vs H Q E, sp vs H Q E → vs.length = ps.length)
    (hb : ∀ (cdv : Value) (A : Around) (ou : List Env) (s : Shared) (H : Hp) (vs : List V) (Q : VK) (E : XK), A.guards = some [] → Room k (A.deeper (envOfC qual scope s.heap.objs.size f cdv)) → sp vs H Q E →
      ∃ t, PSs (cxOf (L2.CX P w) P w K mg base N qual scope f cdv A ou s H E) body t ∧ t { nx := fun _ H' => Q .non H', rt := Q } (L2.start N vs) H) : FnG P w K mg base (k + 1) f fd ps sp := by
  obtain ⟨oc, od, dV, kV, dc, pm, an, cdv, ct, sl, rfl, lk, hcd, _, _⟩ := Fn.ex
  constructor
  · exact len
  intro A ou s H ar us vs Q E hgd hr e0 hbd rv hsp
  have hin : K.In s.heap := e0.mod.kin.keeps (fun b o q => (e0.bs b o q).1)
  have hlm : s.heap.NoLimit := e0.mod.nolimit.keeps (fun b o q => (e0.bs b o q).1)
  refine codeAny_call_function hr.depth (hin _ _ lk) rfl S.co S.gen rfl (PySem.W.codeRec_of hin hcd) (hbd _ _ _ _ ?_)
  refine wpAny_newFunctionEnv_cells S.kind (fun ⟨n, v⟩ hy => ?_) fun env he s1 ic => ?_
  · have z := S.par n (List.of_mem_zip hy).1
    exact z.elim .inl fun z => .inr ⟨z, PySem.W.cellsFrom_some _ _ _ (.inl z)⟩
  · subst he
    refine ⟨hlm.keeps ic.toInCall.keep, codeAny_func ?_⟩
    obtain ⟨t, ht, hq⟩ := hb cdv A ou s H vs Q E hgd (hr.deeper _) hsp
    have J0 := inv_start (CX := L2.CX P w) (E := E) S hr.hd e0 (len _ _ _ _ hsp) rv ic
    refine wpAny_mono (ht.run [] s1 _ H _ J0 hq) (fun fl s' z => ?_) fun _ _ z => z
    cases fl with
    | next => obtain ⟨τ, H', J, q⟩ := z; exact ⟨.non, H', J.os, J.bare, J.base, J.hok, rfl, q⟩
    | ret u => obtain ⟨v, τ, H', J, r, q⟩ := z; exact ⟨v, H', J.os, J.bare, J.base, J.hok, r, q⟩
    | brk => obtain ⟨_, _, _, q⟩ := z; exact q.elim
    | cont => obtain ⟨_, _, _, q⟩ := z; exact q.elim
end
def spI (w0 : World) (K : PySem.W.Frag) (EX : XR) (g : OC) : Sp := fun vs H Q E => ∃ ρ st ws r st', HR w0 K H ρ st ∧ RepAll K H ρ ws vs ∧ g ws st = some (r, st') ∧ match r with
  | .ok w => ∀ v H' ρ', Ext H ρ H' ρ' → HR w0 K H' ρ' st' → Rep K H' ρ' w v → Q v H'
  | .exc x => ∀ cls d H' ρ', Ext H ρ H' ρ' → HR w0 K H' ρ' st' → EX x cls d H' ρ' → E cls d H'
/-- a def as a function of values and stores: n parameters, m names in all -/
def mkF (n m : Nat) (f : FS) : OC := fun ws st => if ws.length = n then match f (ws.map some ++ List.replicate (m - n) none) st with
  | some (.nx, _, st') => some (.ok .non, st')
  | some (.rt w, _, st') => some (.ok w, st')
  | some (.exc x, _, st') => some (.exc x, st')
  | _ => none
  else none
theorem mkF_len {n m : Nat} {f : FS} {ws : List W} {st : Sto} {o : R W × Sto} (h : mkF n m f ws st = some o) : ws.length = n := by
  unfold mkF at h
  split at h
  · assumption
  · cases h
theorem env_start {K : PySem.W.Frag} {H : Hp} {ρ : List Addr} {ws : List W} {vs : List V} (r : RepAll K H ρ ws vs) (N : List Str) {n : Nat} (hn : ws.length = n) : EnvR K H ρ (ws.map some ++ List.replicate (N.length - n) none) (L2.start N vs) := by
  have hl := r.length
  refine ⟨by unfold L2.start; simp [← hn, hl], fun i w h => ?_⟩
  unfold L2.start
  by_cases hi : i < ws.length
  · rw [List.getElem?_append_left (by simpa using hi), List.getElem?_map] at h
    cases q : ws[i]? with
    | none => rw [q] at h; cases h
    | some w' =>
      rw [q] at h; cases h
      obtain ⟨v, h1, h2⟩ := r.get q
      refine ⟨v, ?_, h2⟩
      rw [List.getElem?_append_left (by rw [List.length_map, ← hl]; exact hi), List.getElem?_map, h1]
      rfl
  · rw [List.getElem?_append_right (by simpa using hi), List.getElem?_replicate] at h
    split at h <;> cases h
section
variable {P : Program} {w : World} {K : PySem.W.Frag} {mg : Str → Option Value} {base : Heap} {k : Nat} {f : Addr} {x qual : Str} {params : Arguments} {body : List Stmt} {scope : Scope} {dvs : List V} {kws : List (Str × V)} {fd : FuncData} {N ps : List Str} {EX : XR}
/-- THE RULE for a def -/
theorem fnI_of {fb : FS} (Fn : FunD K x qual params body scope dvs kws f fd) (S : FnScope N ps scope)
    (hb : ∀ (cdv : Value) (A : Around) (ou : List Env) (s : Shared) (H : Hp) (E : XK), A.guards = some [] → Room k (A.deeper (envOfC qual scope s.heap.objs.size f cdv)) →
      PDB (cxOf (L2.CX P w) P w K mg base N qual scope f cdv A ou s H E) EX (fun cls d _ H => E cls d H) body fb) : FnG P w K mg base (k + 1) f fd ps (spI w K EX (mkF ps.length N.length fb)) := by
  refine fnG_of Fn S (fun vs H Q E ⟨ρ, st, ws, r, st', hR, rw', e, p⟩ => by rw [← rw'.length]; exact mkF_len e) fun cdv A ou s H vs Q E hgd hr ⟨ρ, st, ws, r, st', hR, rw', e, p⟩ => ?_
  refine ⟨_, hb cdv A ou s H E hgd hr, ?_⟩
  have hl := mkF_len e
  have E0 := env_start rw' N hl
  unfold mkF at e
  rw [if_pos hl] at e
  split at e
  · rename_i env' s1 h1
    cases e
    exact ⟨ρ, _, st, .nx, env', st', hR, E0, h1, fun σ' H' ρ' e' R' _ => p .non H' ρ' e' R' Rep.non⟩
  · rename_i w1 env' s1 h1
    cases e
    exact ⟨ρ, _, st, .rt w1, env', st', hR, E0, h1, p⟩
  · rename_i x1 env' s1 h1
    cases e
    exact ⟨ρ, _, st, .exc x1, env', st', hR, E0, h1, fun c d _ H' ρ' e' R' _ q => p c d H' ρ' e' R' q⟩
  · cases e
end
section
variable {X : Cx} {EX : XR} {U : WX} {k : Nat} {f : Addr} {fd : FuncData} {ps : List Str} {x : Str} {p pos : Pos} {e : Expr} {es : List Expr}
theorem runG {sp : Sp} {pins : List (Addr × Obj)} {σ : L2.St} {H : Hp} {s : Shared} {Q : VK} {us : List Value} {vs : List V} (Fn : FnG X.prog X.w X.K X.mg X.base k f fd ps sp) (hgd : X.A.guards = some []) (hr : Room k X.A) (hb : Binds X.K fd ps []) (tk : Takes X U)
    (I : Inv X pins σ H s) (r : Vals vs us) (h : sp vs H Q (fun cls d H' => U cls d σ H')) : wpAny (model X.prog X.w) X.A (call (.ref f) us) (EP X pins σ Q) X.xe s := by
  have hl : us.length = ps.length := by rw [← r.length]; exact Fn.len _ _ _ _ h
  have hbi := hb s us I.kIn (by rw [List.append_nil]; exact hl)
  rw [List.append_nil] at hbi
  refine wpAny_call (codeAny_mono (Fn.run X.A X.stack s H _ us vs Q _ hgd hr I.env0 hbi r h) fun ro s' z => ?_)
  cases ro with
  | error u => exact tk u s' (XE.of_call I (fun _ _ _ q => q) z)
  | ok fl =>
    cases fl with
    | ret u => exact I.after z
    | next => exact z.elim
    | brk => exact z.elim
    | cont => exact z.elim
theorem pd_call {g : OC} {fa : FA} (Fn : FnG X.prog X.w X.K X.mg X.base k f fd ps (spI X.w X.K EX g)) (hgd : X.A.guards = some []) (hr : Room k X.A) (hg : Gl X x) (hm : X.mg x = some (.ref f)) (hk : PySem.W.keepIn X.K (.ref f) = true) (hb : Binds X.K fd ps []) (tk : Takes X U)
    (ha : PDA X EX U (e :: es) fa) (hdb : (x == ("__debug__" : Str)) = false := by decide) (h1 : starEach (e :: es) X.env = (false, eval e X.env) :: starEach es X.env := by rfl) (h2 : (backTo pos (starEach es X.env)).any (·.1) = false := by rfl) :
    PD X EX U (.Call (.Name x p) (e :: es) [] pos) (fCB g fa) := by
  refine ⟨fun pins s σ H Q I h => ?_⟩
  refine wpAny_Call_Name_kw (ld_glob I hg hm ?_ hdb)
  have h' := tG_bind (r1 := RepAll X.K) (g := fun env ws st => g ws st) h
  refine PySem.W.callWith_K (h₀ := X.base) I.ok.mod.kin hk (thn (ha.run pos pins s σ H _ I h') fun us s1 z => ?_) h1 h2
  obtain ⟨vs, H1, I1, rv, ρ, env, st, ws, r', st', hR, E, rw', e, p⟩ := z
  refine ⟨I1.kIn, runG Fn hgd hr hb tk I1 rv ⟨ρ, st, ws, r', st', hR, rw', e, ?_⟩⟩
  cases r' with
  | ok w => exact p
  | exc x => exact p
theorem pd_call0 {g : OC} (Fn : FnG X.prog X.w X.K X.mg X.base k f fd ps (spI X.w X.K EX g)) (hgd : X.A.guards = some []) (hr : Room k X.A) (hg : Gl X x) (hm : X.mg x = some (.ref f)) (hk : PySem.W.keepIn X.K (.ref f) = true) (hb : Binds X.K fd ps []) (tk : Takes X U) (hdb : (x == ("__debug__" : Str)) = false := by decide) :
    PD X EX U (.Call (.Name x p) [] [] pos) (fCB g fNil) := by
  refine ⟨fun pins s σ H Q I h => ?_⟩
  refine wpAny_Call_Name_kw (ld_glob I hg hm ?_ hdb)
  obtain ⟨ρ, env, st, r', st', hR, E, e, p⟩ := h
  refine PySem.W.callWith_K0 I.kIn hk (runG (us := []) Fn hgd hr hb tk I .nil ⟨ρ, st, [], r', st', hR, .nil, e, ?_⟩)
  cases r' with
  | ok w => exact p
  | exc x => exact p
end
/-- a def that is known by its name -/
def Kn (P : Program) (w : World) (K : PySem.W.Frag) (mg : Str → Option Value) (base : Heap) (EX : XR) (x : Str) (k : Nat) (ps : List Str) (g : OC) : Prop :=
  ∃ (f : Addr) (fd : FuncData), mg x = some (.ref f) ∧ PySem.W.keepIn K (.ref f) = true ∧ Binds K fd ps [] ∧ FnG P w K mg base k f fd ps (spI w K EX g)
section
variable {P : Program} {w : World} {K : PySem.W.Frag} {mg : Str → Option Value} {base : Heap} {k : Nat} {f : Addr} {x qual : Str} {params : Arguments} {body : List Stmt} {scope : Scope} {kws : List (Str × V)} {fd : FuncData} {N ps : List Str} {EX : XR}
theorem kn_of {fb : FS} {g : OC} (Fn : FunD K x qual params body scope [] kws f fd) (hm : mg x = some (.ref f)) (hb : Binds K fd ps []) (S : FnScope N ps scope) (hg : g = mkF ps.length N.length fb)
    (hp : ∀ (cdv : Value) (A : Around) (ou : List Env) (s : Shared) (H : Hp) (E : XK), A.guards = some [] → Room k (A.deeper (envOfC qual scope s.heap.objs.size f cdv)) →
      PDB (cxOf (L2.CX P w) P w K mg base N qual scope f cdv A ou s H E) EX (fun cls d _ H => E cls d H) body fb) : Kn P w K mg base EX x (k + 1) ps g :=
  ⟨f, fd, hm, Fn.kp, hb, hg ▸ fnI_of Fn S hp⟩
theorem fnJ_of {fb : FS} {g : OC} (Fn : FunD K x qual params body scope [] kws f fd) (S : FnScope N ps scope) (hg : g = mkF ps.length N.length fb)
    (hp : ∀ (cdv : Value) (A : Around) (ou : List Env) (s : Shared) (H : Hp) (E : XK), A.guards = some [] → Room k (A.deeper (envOfC qual scope s.heap.objs.size f cdv)) →
      PDB (cxOf (L2.CX P w) P w K mg base N qual scope f cdv A ou s H E) EX (fun cls d _ H => E cls d H) body fb) : FnG P w K mg base (k + 1) f fd ps (spI w K EX g) := hg ▸ fnI_of Fn S hp
end
section
variable {X : Cx} {EX : XR} {U : WX} {k : Nat} {ps : List Str} {x : Str} {p pos : Pos} {e : Expr} {es : List Expr}
theorem pd_callK {g : OC} {fa : FA} (h : Kn X.prog X.w X.K X.mg X.base EX x k ps g) (hgd : X.A.guards = some []) (hr : Room k X.A) (hg : Gl X x) (tk : Takes X U)
    (ha : PDA X EX U (e :: es) fa) (hdb : (x == ("__debug__" : Str)) = false := by decide) (h1 : starEach (e :: es) X.env = (false, eval e X.env) :: starEach es X.env := by rfl) (h2 : (backTo pos (starEach es X.env)).any (·.1) = false := by rfl) :
    PD X EX U (.Call (.Name x p) (e :: es) [] pos) (fCB g fa) := by
  obtain ⟨f, fd, hm, hk, hb, Fn⟩ := h
  exact pd_call Fn hgd hr hg hm hk hb tk ha hdb h1 h2
theorem pd_callK0 {g : OC} (h : Kn X.prog X.w X.K X.mg X.base EX x k ps g) (hgd : X.A.guards = some []) (hr : Room k X.A) (hg : Gl X x) (tk : Takes X U) (hdb : (x == ("__debug__" : Str)) = false := by decide) :
    PD X EX U (.Call (.Name x p) [] [] pos) (fCB g fNil) := by
  obtain ⟨f, fd, hm, hk, hb, Fn⟩ := h
  exact pd_call0 Fn hgd hr hg hm hk hb tk hdb
/-- a constant of the module -/
def CN (K : PySem.W.Frag) (mg : Str → Option Value) (x : Str) (w : W) : Prop := ∃ (u : Value) (v : V), mg x = some u ∧ RelV v u ∧ ∀ H ρ, Rep K H ρ w v
theorem pd_con {w : W} (h : CN X.K X.mg x w) (hg : Gl X x) (hd : (x == ("__debug__" : Str)) = false := by decide) : PD X EX U (.Name x pos) (fC w) := by
  obtain ⟨u, v, hm, r, hr⟩ := h
  exact pd_glob hg hm r hr hd
end
theorem hu65 {A : Around} {k : Nat} (hr : Room k A) : A.units + 65 < cLine := by have := hr.un; omega
end DI

namespace DI
open PySem L2 PySem.Spec PyProof.Rows

/-! ### the law itself, at the heap behind the top -/
theorem ints_rep {K : PySem.W.Frag} {H : Hp} {ρ : List Addr} : ∀ ns : List Int, RepAll K H ρ (ns.map W.int) (ns.map V.int)
  | [] => .nil
  | n :: ns => .cons (.int n) (ints_rep ns)
theorem lawG {P : Program} {w : World} {K : PySem.W.Frag} {mg mb : Str → Option Value} {EX : XR} {k : Nat} {fa a : Addr} {fd : FuncData} {x : Str} {g : OC} {s1 : Shared} {vs : List Value} {ns : List Int} {st' : Sto}
    (kx : K.In s1.heap) (gm : s1.heap.Ns mainGlobals mg) (gb : s1.heap.Ns builtinsNs mb) (bb : ∀ y : Str, y ≠ "__name__" → mb y = bootBuiltins y) (nl : s1.heap.NoLimit) (ge : s1.gens = #[])
    (sm : ∃ o es n, s1.heap.get? sysModules = some o ∧ o.data = .dict es n) (ks : K.lookup sysModules = none)
    (ha : s1.heap.get? a = some { cls := .type "list", data := .seq vs.toArray }) (hi : IntsAre vs ns) (hl : ns.length ≤ sizeLine) (hr : Room k callerA)
    (Fn : ∀ base : Heap, K.In base → base.Ns mainGlobals mg → FnG P w K mg base k fa fd [x] (spI w K EX g)) (bd : ∀ (s : Shared) (u : Value), BindsTo s fd ⟨[u], []⟩ [(x, u)])
    (he : g [.ils (ns.map W.int)] [] = some (.ok (.bl true), st')) :
    codeAny (model P w) callerA (.call (.ref fa) ⟨[.ref a], []⟩) (fun r s' => r = .ok (.ret (.bool true)) ∧ OldK s1.heap s'.heap ∧ s'.os = s1.os ∧ AllBare s'.gens) s1 := by
  have rv := vals_ints hi
  have lv := hi.length
  obtain ⟨oS, esS, nS, hS, dS⟩ := sm
  have anS : a ≠ sysModules := fun z => by
    rw [z, hS] at ha
    cases ha
    cases dS
  have main : ∀ H : Hp, (∀ b, H b = none ∨ ((b = a ∨ b = sysModules) ∧ ∃ o u, H b = some (.frz o u))) → (∃ o u, H sysModules = some (.frz o u)) → FzL K H a (ns.map V.int) → HOk P w H s1.heap → (∀ b, H b ≠ none → K.lookup b = none) →
      codeAny (model P w) callerA (.call (.ref fa) ⟨[.ref a], []⟩) (fun r s' => r = .ok (.ret (.bool true)) ∧ OldK s1.heap s'.heap ∧ s'.os = s1.os ∧ AllBare s'.gens) s1 := by
    intro H one hsm fz ok hk
    have seen : ∀ {b : Addr} {o : Obj}, s1.heap.get? b = some o → H b = none → (hidT s1.heap H).get? b = some o := fun q n => hidT_get q n
    have dic : ∀ {b : Addr} {o : Obj} {es : Array DictEntry} {ep : Nat}, b ≠ sysModules → s1.heap.get? b = some o → o.data = .dict es ep → H b = none := fun {b o es ep} nb q d => by
      rcases one b with z | ⟨rfl | hb, _⟩
      · exact z
      · rw [ha] at q
        cases q
        cases (show Data.seq vs.toArray _ = Data.dict es ep from d)
      · exact absurd hb nb
    have nsK : ∀ {b : Addr} {m : Str → Option Value}, b ≠ sysModules → s1.heap.Ns b m → (hidT s1.heap H).Ns b m := fun {b m} nb ⟨o, es, ep, q, d, r⟩ => ⟨o, es, ep, seen q (dic nb q d), d, r⟩
    have kb : K.In (hidT s1.heap H) := fun b o q => seen (kx b o q) (by
      cases hb : H b with
      | none => rfl
      | some u =>
        rw [hk b (by rw [hb]; simp)] at q
        cases q)
    have md : Mod K mg (hidT s1.heap H) := ⟨kb, nsK (by decide) gm, ⟨mb, nsK (by decide) gb, bb⟩, let ⟨mc, h1, h2⟩ := nl; ⟨mc, nsK (by decide) h1, h2⟩⟩
    have e0 : Env0 P w K mg (hidT s1.heap H) callerA [] s1 H := by
      refine ⟨rfl, md, fun b o q => of_hidT q, Nat.le_of_eq (hidT_size _ _), trivial, fun b z => ?_, ok, .of_eq ge⟩
      cases (show b ∈ ([] : List Addr) from z)
    have sp : spI w K EX g [.ref a] H (fun v _ => v = .bl true) (fun _ _ _ => False) :=
      ⟨[], [], [.ils (ns.map W.int)], .ok (.bl true), st', ⟨rfl, List.nodup_nil, hsm, fun n b o q _ => by simp at q⟩, .cons (.ils fz (ints_rep ns)) .nil, he, fun v _ _ _ _ q => by cases q; rfl⟩
    refine codeAny_mono ((Fn _ kb (nsK (by decide) gm)).run callerA [] s1 H ⟨[.ref a], []⟩ [.ref a] [.ref a] _ _ rfl hr e0 (bd s1 (.ref a)) (.cons rfl .nil) sp) fun r s' z => ?_
    cases r with
    | error u =>
      obtain ⟨_, _, _, _, _, _, _, _, _, _, _, _, q⟩ := z
      exact q.elim
    | ok fl =>
      cases fl with
      | ret u =>
        obtain ⟨v, H', os, ba, un, ok', rr, q⟩ := z
        cases (show v = .bl true from q)
        cases (show u = Value.bool true from rr)
        refine ⟨rfl, OldK.of_keep fun b o hb => ?_, os, ba⟩
        rcases one b with q | ⟨_, ob, u, q⟩
        · exact un.keep b o hb q (fun z => by cases (show b ∈ ([] : List Addr) from z)) (by simp)
        · obtain ⟨e1, _⟩ := ok _ _ q
          obtain ⟨e2, _⟩ := ok' _ _ (un.frzs _ ob _ q)
          rw [hb] at e1
          cases e1
          exact e2
      | next => exact z.elim
      | brk => exact z.elim
      | cont => exact z.elim
  have okS : ∀ H : Hp, ObjOk P w H s1.heap sysModules (.frz oS (.ext fun h => h.get? sysModules = some oS)) := fun H =>
    ⟨hS, hS, ⟨oS, hS⟩, fun h1 h2 z kz => kz _ z⟩
  cases hk : K.lookup a with
  | some o =>
    have q := kx a o hk
    rw [ha] at q
    cases q
    refine main (fun b => if b = sysModules then some (.frz oS (.ext fun h => h.get? sysModules = some oS)) else none) (fun b => ?_) ⟨_, _, if_pos rfl⟩ ⟨anS, .inr ⟨_, vs.toArray, _, hk, rfl, rfl, rfl, by rw [List.size_toArray, lv]; exact hl, by simpa using rv⟩⟩ (fun b u z => ?_) fun b z => ?_
    · by_cases hb : b = sysModules
      · exact .inr ⟨.inr hb, _, _, if_pos hb⟩
      · exact .inl (if_neg hb)
    · by_cases hb : b = sysModules
      · cases (if_pos hb).symm.trans z
        rw [hb]
        exact okS _
      · cases (if_neg hb).symm.trans z
    · by_cases hb : b = sysModules
      · rw [hb]; exact ks
      · exact absurd (if_neg hb) z
  | none =>
    refine main (fun b => if b = a then some (.frz { cls := .type "list", data := .seq vs.toArray } (.lst (ns.map V.int))) else if b = sysModules then some (.frz oS (.ext fun h => h.get? sysModules = some oS)) else none) (fun b => ?_) ⟨_, _, (if_neg (Ne.symm anS)).trans (if_pos rfl)⟩ ⟨anS, .inl ⟨_, if_pos rfl⟩⟩ (fun b u z => ?_) fun b z => ?_
    · by_cases hb : b = a
      · exact .inr ⟨.inl hb, _, _, if_pos hb⟩
      · by_cases hc : b = sysModules
        · exact .inr ⟨.inr hc, _, _, (if_neg hb).trans (if_pos hc)⟩
        · exact .inl ((if_neg hb).trans (if_neg hc))
    · by_cases hb : b = a
      · cases (if_pos hb).symm.trans z
        rw [hb]
        exact ⟨ha, by rw [List.length_map]; exact hl, vs, _, rv, ha⟩
      · have z := (if_neg hb).symm.trans z
        by_cases hc : b = sysModules
        · cases (if_pos hc).symm.trans z
          rw [hc]
          exact okS _
        · cases (if_neg hc).symm.trans z
    · by_cases hb : b = a
      · rw [hb]; exact hk
      · by_cases hc : b = sysModules
        · rw [hc]; exact ks
        · exact absurd ((if_neg hb).trans (if_neg hc)) z
theorem walkG {l : PySem.W.OpenLaw} {n k : Nat} {q : Program} {loose : List Str} {XP : (Str → Option Value) → Heap → Prop} {YP : World → Heap → Prop} {d : DefRec} {EX : PySem.W.Frag → XR} {x : Str} {g : OC}
    (hn : l.most = some n) (hn2 : n ≤ sizeLine) (hdf : d.params.defaults = []) (hr : Room k callerA)
    (Fn : ∀ (w : World) (mg : Str → Option Value) (fa : Addr) (h : Heap), YP w h → h.Ns mainGlobals mg → mg d.name = some (.ref fa) →
      ∃ (K : PySem.W.Frag) (fd : FuncData), K.In h ∧ (∃ o es n, h.get? sysModules = some o ∧ o.data = .dict es n) ∧ K.lookup sysModules = none ∧ (∀ (s : Shared) (u : Value), BindsTo s fd ⟨[u], []⟩ [(x, u)]) ∧ ∀ base : Heap, K.In base → base.Ns mainGlobals mg → FnG l.prog w K mg base k fa fd [x] (spI w K (EX K) g))
    (he : ∀ ns : List Int, ns.length ≤ n → ∃ st', g [.ils (ns.map W.int)] [] = some (.ok (.bl true), st')) :
    PySem.W.WalkO q loose XP YP l.row.toRowW d [] (fun f vs => PySem.call f vs) := by
  refine Att.attach_call hn hdf ?_
  intro w s0 s1 mg mb fa o pm cd doc a vs ns G Y ho hd hcd hmg hobj hints hlen hg
  obtain ⟨K, fd, kx, sm, ks, bd, hF⟩ := Fn w mg fa _ Y G.T.g hmg
  obtain ⟨st', e⟩ := he ns hlen
  exact lawG kx G.T.g G.T.b G.T.builtins G.T.nolimit hg sm ks hobj hints (Nat.le_trans hlen hn2) hr hF bd e

/-! ### constants of the written part -/
def relWs (f : W → Value → Bool) : List W → List Value → Bool
  | [], [] => true
  | w :: ws, u :: us => f w u && relWs f ws us
  | _, _ => false
def relW (K : PySem.W.Frag) : Nat → W → Value → Bool
  | 0, _, _ => false
  | n + 1, w, u => match w, u with
    | .non, .none => true
    | .bl b, .bool c => b == c
    | .int i, .int j _ => decide (i = j)
    | .str x, .str y _ => decide (x = y)
    | .tup ws, .ref a => match K.lookup a with
      | some o => (o.cls == .type "tuple") && (match o.data with
        | .seq its _ => decide (its.size ≤ sizeLine) && relWs (relW K n) ws its.toList
        | _ => false)
      | none => false
    | _, _ => false
theorem relWs_ok {K : PySem.W.Frag} {f : W → Value → Bool} (hf : ∀ w u, f w u = true → ∃ v, RelV v u ∧ ∀ H ρ, Rep K H ρ w v) : ∀ (ws : List W) (us : List Value), relWs f ws us = true → ∃ vs, Vals vs us ∧ ∀ H ρ, RepAll K H ρ ws vs
  | [], [], _ => ⟨[], .nil, fun _ _ => .nil⟩
  | [], _ :: _, h => by cases h
  | _ :: _, [], h => by cases h
  | w :: ws, u :: us, h => by
    unfold relWs at h
    rw [Bool.and_eq_true] at h
    obtain ⟨v, h1, h2⟩ := hf w u h.1
    obtain ⟨vs, h3, h4⟩ := relWs_ok hf ws us h.2
    exact ⟨v :: vs, .cons h1 h3, fun H ρ => .cons (h2 H ρ) (h4 H ρ)⟩
theorem relW_ok {K : PySem.W.Frag} : ∀ (n : Nat) (w : W) (u : Value), relW K n w u = true → ∃ v, RelV v u ∧ ∀ H ρ, Rep K H ρ w v
  | 0, _, _, h => by cases h
  | n + 1, w, u, h => by
    unfold relW at h
    split at h
    · exact ⟨.non, rfl, fun _ _ => .non⟩
    · rename_i b c
      have e : b = c := by simpa using h
      subst e
      exact ⟨.bl b, rfl, fun _ _ => .bl b⟩
    · rename_i i j t
      have e : i = j := of_decide_eq_true h
      subst e
      exact ⟨.int i, ⟨t, rfl⟩, fun _ _ => .int i⟩
    · rename_i x y t
      have e : x = y := of_decide_eq_true h
      subst e
      exact ⟨.str x, ⟨t, rfl⟩, fun _ _ => .str x⟩
    · rename_i ws a
      split at h
      · rename_i o ho
        rw [Bool.and_eq_true] at h
        obtain ⟨hc, h⟩ := h
        have hc : o.cls = .type "tuple" := eq_of_beq hc
        split at h
        · rename_i its m hd
          rw [Bool.and_eq_true] at h
          obtain ⟨vs, h1, h2⟩ := relWs_ok (relW_ok n) ws its.toList h.2
          exact ⟨.ref a, rfl, fun H ρ => .tup (.inr ⟨o, its, m, ho, hc, hd, of_decide_eq_true h.1, h1⟩) (h2 H ρ)⟩
        · cases h
      · cases h
    · cases h
def conW (K : PySem.W.Frag) (x : Str) (w : W) : Bool := match PySem.W.nsIn K mainGlobals x with
  | some (some u) => relW K 8 w u
  | _ => false
theorem conW_ok {K : PySem.W.Frag} {h : Heap} {mg : Str → Option Value} (X : K.In h) (G : h.Ns mainGlobals mg) {x : Str} {w : W} (c : conW K x w = true) : CN K mg x w := by
  unfold conW at c
  split at c
  · rename_i u hu
    obtain ⟨v, h1, h2⟩ := relW_ok 8 w u c
    exact ⟨u, v, PySem.W.mg_of X G hu, h1, h2⟩
  · cases c
def consB (cs : List (Str × W)) (K : PySem.W.Frag) : Bool := cs.all fun c => conW K c.1 c.2
theorem consB_ok {cs : List (Str × W)} {K : PySem.W.Frag} {h : Heap} {mg : Str → Option Value} (X : K.In h) (G : h.Ns mainGlobals mg) (c : consB cs K = true) (i : Nat) {x : Str} {w : W} (e : cs[i]? = some (x, w) := by rfl) : CN K mg x w :=
  conW_ok X G (List.all_eq_true.mp c (x, w) (List.mem_of_getElem? e))
/-! ### the hook: the head's facts, and the start-up table of modules -/
def smB (o : Option Obj) : Bool := match o with
  | some o => (match o.data with
    | .dict _ _ => true
    | _ => false)
  | none => false
theorem smB_ok {o : Option Obj} (h : smB o = true) : ∃ u es n, o = some u ∧ u.data = .dict es n := by
  unfold smB at h
  split at h
  · rename_i u
    split at h
    · rename_i es n hd
      exact ⟨u, es, n, rfl, hd⟩
    · cases h
  · cases h
def hookS (n : Nat) (fa : List He.Fa) (fn : List He.DefD) (ex : PySem.W.Frag → Bool) : PySem.W.Hook where
  α := He.AlX × Bool
  obs := fun s => (He.obsX n fa fn [] [] ex s.heap.get?, smB (s.heap.get? sysModules))
  val := fun w => (He.valX fn [] w, true)
  says := fun w h => (∃ K : PySem.W.Frag, K.In h ∧ He.SaysX fa fn [] [] ex w h K) ∧ ∃ o es n, h.get? sysModules = some o ∧ o.data = .dict es n
  of := fun w s e => ⟨(He.hookX n fa fn [] [] ex).of w s (congrArg Prod.fst e), smB_ok (congrArg Prod.snd e)⟩
  keeps := fun w h h' c k => ⟨(He.hookX n fa fn [] [] ex).keeps w h h' c.1 k, let ⟨o, es, n, q, d⟩ := c.2; ⟨o, es, n, k _ _ q, d⟩⟩
def obsS (n : Nat) (fa : List He.Fa) (fn : List He.DefD) (ex : PySem.W.Frag → Bool) (g : Addr → Option Obj) : He.AlX × Bool := (He.obsX n fa fn [] [] ex g, smB (g sysModules))
theorem obsS_eq {n : Nat} {fa : List He.Fa} {fn : List He.DefD} {ex : PySem.W.Frag → Bool} {g : Addr → Option Obj} {s : Shared} (h : ∀ a, g a = s.heap.get? a) : obsS n fa fn ex g = (hookS n fa fn ex).obs s := by
  have e : g = s.heap.get? := funext h
  rw [e] <;> rfl
end DI

namespace DI
open PySem L2 PySem.Spec PyProof.Rows

abbrev cA (K : PySem.W.Frag) (c : Str) : Addr := He.ga K c
/-- how an exception stands for what it is: its class by name, its dict by number -/
def EXc (K : PySem.W.Frag) : XR := fun x cls d H ρ => cls = .ref (cA K x.cls) ∧ match x.dict with
  | none => d = none
  | some n => ∃ dd, d = some dd ∧ ρ[n]? = some dd
/-! ### making one with a field -/
def oexB (K : PySem.W.Frag) (C : Addr) : Bool := (match K.lookup C with
  | some ⟨.type "type", _, .cls cd, sl⟩ => (match cd.mro, sl.toList with
    | .ref C' :: bm, [_, _, _, _, some (.builtin n), _] => (decide (C' = C) && decide (n = "ValueError.__new__")) && ((!cd.hasDel && cd.hasDict) && PySem.HandSPX.refsVE bm)
    | _, _ => false)
  | _ => false) && ((decide (PySem.W.findIn K (.ref C) "__setattr__" = some (some (.builtin "object.__setattr__"))) && decide (PySem.W.subIn K (.ref C) (.type "BaseException") = some true)) && (decide (PySem.W.typeIn K (.ref C) = some (.type "type")) && PySem.W.keepIn K (.ref C)))
theorem oexB_ok {K : PySem.W.Frag} {C : Addr} (h : oexB K C = true) : OexC K C := by
  unfold oexB at h
  simp only [Bool.and_eq_true] at h
  obtain ⟨h1, ⟨h2, h3⟩, h4, h5⟩ := h
  refine ⟨?_, of_decide_eq_true h2, of_decide_eq_true h3, of_decide_eq_true h4, h5⟩
  split at h1
  · rename_i dd cd sl ho
    split at h1
    · rename_i C' bm k0 k1 k2 k3 n k5 hm hs
      simp only [Bool.and_eq_true] at h1
      obtain ⟨⟨e1, e2⟩, ⟨e3, e4⟩, e5⟩ := h1
      have e1 := of_decide_eq_true e1
      have e2 := of_decide_eq_true e2
      subst e1 e2
      obtain ⟨nm, bs, mro, ns, qn, hd, sn, sub, ab, col, del⟩ := cd
      dsimp only at hm e3 e4
      have e3 : del = false := by simpa using e3
      subst hm e3 e4
      have hsl : sl = #[k0, k1, k2, k3, some (.builtin "ValueError.__new__"), k5] := by
        obtain ⟨l⟩ := sl
        simp only at hs
        rw [hs]
      subst hsl
      exact ⟨nm, qn, ns, bs, bm, sn, sub, ab, col, dd, k0, k1, k2, k3, k5, ho, e5⟩
    · cases h1
  · cases h1
/-- __init__(self, v): self.f = v -/
def spIni (K : PySem.W.Frag) (f : Str) : Sp := fun vs H Q _ => ∃ (a C : Addr) (v : V), vs = [.ref a, v] ∧ OexC K C ∧ PySem.W.findIn K (.ref C) f = some none ∧ H a = some (exo a C none) ∧ ∀ dx, H dx = none → dx ≠ a → Q .non (upd (upd H dx (exd dx [(f, v)])) a (exo a C (some dx)))
structure XMk1 (P : Program) (w : World) (K : PySem.W.Frag) (mg : Str → Option Value) (base : Heap) (c f : Str) (k : Nat) : Prop where
  ex : ∃ (fI : Addr) (fd : FuncData) (ps : List Str), mg c = some (.ref (cA K c)) ∧ OexC K (cA K c) ∧ PySem.W.findIn K (.ref (cA K c)) "__init__" = some (some (.ref fI)) ∧ PySem.W.typeIn K (.ref fI) = some (.type "function") ∧
    PySem.W.findIn K (.ref (cA K c)) f = some none ∧ FnOk P w K mg base (L2.CX P w) k fI fd ps (spIni K f) ∧ Binds K fd ps []
def xmkB (K : PySem.W.Frag) (c f : Str) : Bool := (oexB K (cA K c) && decide (PySem.W.nsIn K mainGlobals c = some (some (.ref (cA K c))))) && ((decide (PySem.W.findIn K (.ref (cA K c)) "__init__" = some (some (.ref (He.fAd K (c, some "__init__"))))) && decide (PySem.W.typeIn K (.ref (He.fAd K (c, some "__init__"))) = some (.type "function"))) && decide (PySem.W.findIn K (.ref (cA K c)) f = some none))
theorem xmk_of {P : Program} {w : World} {K : PySem.W.Frag} {h : Heap} {mg : Str → Option Value} {base : Heap} {c f : Str} {k : Nat} {fd : FuncData} {ps : List Str} (X : K.In h) (G : h.Ns mainGlobals mg) (hb : xmkB K c f = true) (F : FnOk P w K mg base (L2.CX P w) k (He.fAd K (c, some "__init__")) fd ps (spIni K f)) (b : Binds K fd ps []) : XMk1 P w K mg base c f k := by
  unfold xmkB at hb
  simp only [Bool.and_eq_true] at hb
  obtain ⟨⟨h1, h2⟩, ⟨h3, h4⟩, h5⟩ := hb
  exact ⟨_, fd, ps, PySem.W.mg_of X G (of_decide_eq_true h2), oexB_ok h1, of_decide_eq_true h3, of_decide_eq_true h4, of_decide_eq_true h5, F, b⟩
theorem ini_ok {P : Program} {w : World} {K : PySem.W.Frag} {mg : Str → Option Value} {base : Heap} {qual sf v fld : Str} {params : Arguments} {body : List Stmt} {scope : Scope} {kws : List (Str × V)} {f : Addr} {fd : FuncData} (Fn : FunD K "__init__" qual params body scope [] kws f fd) (S : FnScope [sf, v] [sf, v] scope)
    (hb : ∀ (cdv : Value) (A : Around) (ou : List Env) (s : Shared) (H : Hp) (E : XK), ∃ t, PSs (cxOf (L2.CX P w) P w K mg base [sf, v] qual scope f cdv A ou s H E) body t ∧ ∀ D σ H, tOst K fld (tVar 0) (tVar 1) D σ H → t D σ H) : FnOk P w K mg base (L2.CX P w) 1 f fd [sf, v] (spIni K fld) := by
  refine FunD.ok Fn S (fun vs H Q E ⟨a, C, v, e, _⟩ => by rw [e]; rfl) fun cdv A ou s H vs Q E hr ⟨a, C, y, e, T, hno, ha, q⟩ => ?_
  obtain ⟨t, h1, h2⟩ := hb cdv A ou s H E
  refine ⟨t, h1, h2 _ _ _ ?_⟩
  subst e
  exact ⟨y, rfl, .ref a, rfl, a, C, rfl, T, hno, .inl ⟨ha, q⟩⟩
section
variable {X : Cx} {U : WX} {e : Expr} {p pos rpos : Pos} {c f : Str} {k : Nat}
def fRaise1 (c f : Str) (fe : FE) : FS := fun env st => bS (fe env st) env fun w st => some (.exc ⟨c, some st.length⟩, env, st ++ [.xd [(f, w)]])
theorem pds_raise1 {fe : FE} (T : XMk1 X.prog X.w X.K X.mg X.base c f k) (hc : X.calm = true) (tk : Takes X U) (hr : Room (k + 1) X.A) (hg : Gl X c) (he : PD X (EXc X.K) U e fe)
    (hdb : (c == ("__debug__" : Str)) = false := by decide) (h1 : starEach (e :: []) X.env = (false, eval e X.env) :: starEach [] X.env := by rfl) (h2 : (backTo pos (starEach [] X.env)).any (·.1) = false := by rfl) :
    PDS X (EXc X.K) U (.Raise (some (.Call (.Name c p) [e] [] pos)) none rpos) (fRaise1 c f fe) := by
  obtain ⟨fI, fd, ps, hm, T0, iC, tI, hno, F1, hb⟩ := T.ex
  have hx : Passes (L2.CX X.prog X.w) X (fun _ _ _ => False) := fun pins σ H s e s' I z => by
    obtain ⟨_, _, _, _, _, _, _, _, _, _, _, _, q⟩ := z
    exact q.elim
  refine (ps_raise hc tk (pmk_oex T0 iC tI F1 hr hb .nil hx hg hm (pa_cons he pa_nil h1) hdb h1 h2)).imp fun D σ H h => ?_
  refine (tS_bind (r1 := Rep X.K) (g := fun env w st => some (.exc ⟨c, some st.length⟩, env, st ++ [.xd [(f, w)]])) h).imp fun v H1 k1 => ?_
  obtain ⟨ρ, env, st, w, fl, env', st', hR, E, rw', e, q⟩ := k1
  cases e
  refine ⟨by show 1 ≤ 1000; decide, fun a ha => ⟨a, cA X.K c, v, rfl, T0, hno, upd_same, fun dx hdx hne => ?_⟩⟩
  have hd1 : H1 dx = none := by rw [upd_ne hne] at hdx; exact hdx
  refine ⟨rfl, dx, [(f, v)], upd_same, by rw [upd_ne hne]; exact upd_same, hd1, ?_⟩
  have eq : upd (del (upd (upd (upd H1 a (exo a (cA X.K c) none)) dx (exd dx [(f, v)])) a (exo a (cA X.K c) (some dx))) a) dx (.xd [(f, v)]) = upd H1 dx (.xd [(f, v)]) := by
    funext b
    by_cases hb : b = dx
    · rw [hb, upd_same, upd_same]
    · rw [upd_ne hb, upd_ne hb]
      by_cases hba : b = a
      · rw [hba, del_same, ha]
      · rw [del_ne hba, upd_ne hba, upd_ne hb, upd_ne hba]
  rw [eq]
  refine q (.ref (cA X.K c)) (some dx) σ _ (ρ ++ [dx]) (Ext.alloc hd1) (hR.xd hd1 rfl (.cons rw' .nil)) (E.mono hR (Ext.alloc hd1)) ⟨rfl, dx, rfl, ?_⟩
  rw [← hR.len]; simp
end
/-! ### try .. except C as e -/
def fTry (fb : FS) (tab : List (Str × Bool)) (i : Nat) (su : Xc → FS) : FS := fun env st => match fb env st with
  | some (.exc x, env1, st1) => match tab.lookup x.cls with
    | some true => if i < env1.length then (match su x (env1.set i none) st1 with
      | some (.exc _, _, _) => none
      | some (fl, env2, st2) => some (fl, env2.set i none, st2)
      | none => none) else none
    | some false => some (.exc x, env1, st1)
    | none => none
  | o => o
def wX (a : Addr) (d : Option Addr) (x : Xc) : W := match x.dict, d with
  | some n, some dd => .exn a dd n
  | _, _ => .adr a
theorem wX_rep {K : PySem.W.Frag} {H : Hp} {ρ : List Addr} {a : Addr} {d : Option Addr} {x : Xc} {cls : Value} (h : EXc K x cls d H ρ) : Rep K H ρ (wX a d x) (.ref a) := by
  obtain ⟨_, h⟩ := h
  unfold wX
  cases e : x.dict with
  | none => exact .adr a
  | some n =>
    rw [e] at h
    obtain ⟨dd, rfl, hn⟩ := h
    exact .exn hn
def Lifts (i : Nat) (w : W) (su su' : FS) : Prop := ∀ (env : Evn) (st : Sto) (fl : Fl) (env2 : Evn) (st2 : Sto), i < env.length → su (env.set i none) st = some (fl, env2, st2) → ∃ env3, su' (env.set i (some w)) st = some (fl, env3, st2) ∧ env3.set i none = env2.set i none
def LiftE {α : Type} (i : Nat) (w : W) (f f' : Evn → Sto → Out α) : Prop := ∀ (env : Evn) (st : Sto) (o : R α × Sto), i < env.length → f (env.set i none) st = some o → f' (env.set i (some w)) st = some o
def tSu (w0 : World) (K : PySem.W.Frag) (tab : List (Str × Bool)) (i : Nat) (su : Xc → FS) (a : Addr) (cls : Value) (d : Option Addr) : TS := fun D σ H => ∃ (x : Xc) (ρ : List Addr) (env : Evn) (st : Sto) (fl : Fl) (env' : Evn) (st' : Sto) (σ0 : L2.St), HR w0 K H ρ st ∧ EnvR K H ρ env σ0 ∧ σ = σ0.set i (some (.ref a)) ∧ EXc K x cls d H ρ ∧ i < env.length ∧ tab.lookup x.cls = some true ∧
  su x (env.set i none) st = some (fl, env', st') ∧ ∀ env3 : Evn, env3.set i none = env'.set i none → PostS w0 K (EXc K) U0 D H ρ fl env3 st'
section
variable {X : Cx} {U : WX} {x n : Str} {i : Nat} {body suite : List Stmt} {b₀ : Stmt} {np pos pos' : Pos} {tab : List (Str × Bool)} {fb : FS} {su : Xc → FS}
theorem pds_try (hs : X.stack = X.env :: X.outer) (hf : X.env.frame = some X.env.locals) (hN : X.N.Nodup) (hi : X.N[i]? = some n) (hln : X.env.kindOf n = some .local) (hg : Gl X x) (hm : X.mg x = some (.ref (cA X.K x)))
    (ex : ∀ c b, tab.lookup c = some b → PySem.W.exmOne X.K (.ref (cA X.K c)) (.ref (cA X.K x)) = some b) (tk : Takes X U)
    (hb : ∀ (W : WX) (pn : List (Addr × Obj)) (xe : Value → Shared → Prop), Takes (X.tr pn xe) W → PassesOwn (model X.prog X.w) X.A X.env xe → PDB (X.tr pn xe) (EXc X.K) W body fb)
    (hsu : ∀ (a : Addr) (oe : Obj) (d : Option Addr) (pn : List (Addr × Obj)) (xc : Xc), Zc (.ref (cA X.K xc.cls)) d oe → (∃ vs, oe.data = .fields vs) → tab.lookup xc.cls = some true → ((xc.dict = none ∧ d = none) ∨ (∃ n dd, xc.dict = some n ∧ d = some dd)) →
      ∃ su', PDB (X.suite a ((a, oe) :: pn)) (EXc X.K) U0 (b₀ :: suite) su' ∧ Lifts i (wX a d xc) (su xc) su')
    (hdb : (x == ("__debug__" : Str)) = false := by decide) :
    PDS X (EXc X.K) U (.Try body [.ExceptHandler (some (.Name x np)) (some n) (b₀ :: suite) pos'] [] [] pos) (fTry fb tab i su) := by
  refine (ps_try_as hs hf hN hi hln (c := .ref (cA X.K x)) ⟨hg, hdb, .inl hm⟩ tk (tb := fun W => tS X.w X.K (EXc X.K) W fb) (ts := tSu X.w X.K tab i su) hb ?_).imp fun D σ H h => ?_
  · intro a oe cls d pn hz hfd
    refine ⟨fun pins s σ H D I h => ?_⟩
    obtain ⟨xc, ρ, env, st, fl, env', st', σ0, hR, E, rfl, q, hl, ht, e, p⟩ := h
    have ec : cls = .ref (cA X.K xc.cls) := q.1
    obtain ⟨su', P', L⟩ := hsu a oe d pn xc (by rw [← ec]; exact hz) hfd ht (by
      have q2 := q.2
      cases ed : xc.dict with
      | none => rw [ed] at q2; exact .inl ⟨rfl, q2⟩
      | some n => rw [ed] at q2; obtain ⟨dd, h1, _⟩ := q2; exact .inr ⟨n, dd, rfl, h1⟩)
    obtain ⟨env3, e3, eq3⟩ := L env st fl env' st' hl e
    exact P'.run pins s _ H D I ⟨ρ, _, st, fl, env3, st', hR, E.set (wX_rep q) i, e3, p env3 eq3⟩
  · obtain ⟨ρ, env, st, fl, env', st', hR, E, e, p⟩ := h
    unfold fTry at e
    split at e
    · rename_i xc env1 st1 h1
      refine ⟨ρ, env, st, .exc xc, env1, st1, hR, E, h1, fun cls d σ' H' ρ' e' R' E' q => ?_⟩
      have ec : cls = .ref (cA X.K xc.cls) := q.1
      subst ec
      split at e
      · rename_i ht
        refine ⟨true, ex _ _ ht, fun _ a ha => ?_, fun z => by cases z⟩
        split at e
        · rename_i hl
          split at e
          · cases e
          · rename_i fl2 env2 st2 nx h2
            cases e
            refine ⟨xc, ρ', env1, st1, fl, env2, st', σ', R', E', rfl, q, hl, ht, h2, fun env3 h3 => ?_⟩
            have wp : ∀ {σ2 : L2.St} {H2 : Hp} {ρ2 : List Addr}, EnvR X.K H2 ρ2 env3 σ2 → EnvR X.K H2 ρ2 (env2.set i none) (σ2.set i none) := fun E2 => by
              have z := E2.wipe1 i
              rw [h3] at z
              exact z
            cases fl with
            | nx => exact fun σ2 H2 ρ2 e2 R2 E2 => p _ H2 ρ2 (e'.trans e2) R2 (wp E2)
            | bk => exact fun σ2 H2 ρ2 e2 R2 E2 => p _ H2 ρ2 (e'.trans e2) R2 (wp E2)
            | ct => exact fun σ2 H2 ρ2 e2 R2 E2 => p _ H2 ρ2 (e'.trans e2) R2 (wp E2)
            | rt w => exact fun v H2 ρ2 e2 R2 r2 => p v H2 ρ2 (e'.trans e2) R2 r2
            | exc y => exact (nx _ rfl).elim
          · cases e
        · cases e
      · rename_i ht
        cases e
        exact ⟨false, ex _ _ ht, fun z => (by cases z), fun _ => p _ _ _ _ _ e' R' E' q⟩
      · cases e
    · rename_i nx
      refine ⟨ρ, env, st, fl, env', st', hR, E, e, ?_⟩
      cases fl with
      | nx => exact p
      | bk => exact p
      | ct => exact p
      | rt w => exact p
      | exc y => exact absurd e (nx _ _ _)
end
end DI

namespace DI
open PySem L2 PySem.Spec PyProof.Rows
/-! ### the suite: v = e, return e -/
theorem lifts_set {i j : Nat} {w : W} {f f' : FE} (h : LiftE i w f f') (ne : j ≠ i) : Lifts i w (fSet j f) (fSet j f') := by
  intro env st fl env2 st2 hl e
  have e : bS (f (env.set i none) st) (env.set i none) (fun w st => some (.nx, (env.set i none).set j (some w), st)) = some (fl, env2, st2) := e
  cases q : f (env.set i none) st with
  | none => rw [q] at e; cases e
  | some o =>
    obtain ⟨r, s1⟩ := o
    rw [q] at e
    have q' := h env st _ hl q
    show ∃ env3, bS (f' (env.set i (some w)) st) (env.set i (some w)) (fun u st => some (.nx, (env.set i (some w)).set j (some u), st)) = some (fl, env3, st2) ∧ _
    rw [q']
    cases r with
    | ok u =>
      cases e
      refine ⟨_, rfl, ?_⟩
      rw [List.set_comm _ _ ne, List.set_set, List.set_comm _ _ ne, List.set_set]
    | exc y =>
      cases e
      exact ⟨_, rfl, by rw [List.set_set, List.set_set]⟩
theorem lifts_ret {i : Nat} {w : W} {f f' : FE} (h : LiftE i w f f') : Lifts i w (fRet f) (fRet f') := by
  intro env st fl env2 st2 hl e
  have e : bS (f (env.set i none) st) (env.set i none) (fun w st => some (.rt w, env.set i none, st)) = some (fl, env2, st2) := e
  cases q : f (env.set i none) st with
  | none => rw [q] at e; cases e
  | some o =>
    obtain ⟨r, s1⟩ := o
    rw [q] at e
    have q' := h env st _ hl q
    show ∃ env3, bS (f' (env.set i (some w)) st) (env.set i (some w)) (fun u st => some (.rt u, env.set i (some w), st)) = some (fl, env3, st2) ∧ _
    rw [q']
    cases r with
    | ok u => cases e; exact ⟨_, rfl, by rw [List.set_set, List.set_set]⟩
    | exc y => cases e; exact ⟨_, rfl, by rw [List.set_set, List.set_set]⟩
theorem lift_c {i : Nat} {w u : W} : LiftE i w (fC u) (fC u) := fun env st o hl e => e
theorem lift_var {i j : Nat} {w : W} (ne : i ≠ j) : LiftE i w (fVar j) (fVar j) := fun env st o hl e => by
  unfold fVar at e ⊢
  rw [List.getElem?_set_ne ne] at e ⊢
  exact e
theorem lift_nil {i : Nat} {w : W} : LiftE i w fNil fNil := fun env st o hl e => e
theorem lift_bnd {α β : Type} {i : Nat} {w : W} {f f' : Evn → Sto → Out α} {g g' : Evn → α → Sto → Out β} (h : LiftE i w f f') (hg : ∀ a, LiftE i w (fun env st => g env a st) (fun env st => g' env a st)) : LiftE i w (fun env st => bnd (f env st) (g env)) (fun env st => bnd (f' env st) (g' env)) := by
  intro env st o hl e
  have e : bnd (f (env.set i none) st) (g (env.set i none)) = some o := e
  show bnd (f' (env.set i (some w)) st) (g' (env.set i (some w))) = some o
  cases q : f (env.set i none) st with
  | none => rw [q] at e; cases e
  | some z =>
    obtain ⟨r, s1⟩ := z
    rw [q] at e
    rw [h env st _ hl q]
    cases r with
    | ok a => exact hg a env s1 o hl e
    | exc y => exact e
theorem lift_k {α : Type} {i : Nat} {w : W} {g : Sto → Out α} : LiftE i w (fun _ st => g st) (fun _ st => g st) := fun env st o hl e => e
theorem lift_cons {i : Nat} {w : W} {f f' : FE} {g g' : FA} (h : LiftE i w f f') (hg : LiftE i w g g') : LiftE i w (fCons f g) (fCons f' g') :=
  lift_bnd h fun a => lift_bnd hg fun b => lift_k
theorem lift_lst {i : Nat} {w : W} {f f' : FA} (h : LiftE i w f f') : LiftE i w (fLst f) (fLst f') := lift_bnd h fun a => lift_k
theorem lift_test {i : Nat} {w : W} {f f' : FE} (h : LiftE i w f f') : LiftE i w (fTest f) (fTest f') := lift_bnd h fun a => lift_k
theorem lift_not {i : Nat} {w : W} {f f' : FE} (h : LiftE i w f f') : LiftE i w (fNot f) (fNot f') := lift_bnd h fun a => lift_bnd lift_k fun b => lift_k
theorem lift_if {α : Type} {i : Nat} {w : W} {b : Bool} {f f' g g' : Evn → Sto → Out α} (h : LiftE i w f f') (hg : LiftE i w g g') : LiftE i w (fun env st => if b then f env st else g env st) (fun env st => if b then f' env st else g' env st) := by
  cases b with
  | true => exact h
  | false => exact hg
theorem lift_and {i : Nat} {w : W} {f f' g g' : FE} (h : LiftE i w f f') (hg : LiftE i w g g') : LiftE i w (fAnd f g) (fAnd f' g') := lift_bnd h fun a => lift_bnd lift_k fun b => lift_if hg lift_k
/-! ### e.f -/
def fldW (fs : List (Str × W)) (f : Str) (st : Sto) : Out W := match fs.lookup f with
  | some w => ret w st
  | none => none
def fXf (x : Xc) (f : Str) : FE := fun _ st => match x.dict with
  | some n => match st[n]? with
    | some (.xd fs) => fldW fs f st
    | _ => none
  | none => none
def fXf' (i : Nat) (a dd : Addr) (n : Nat) (f : Str) : FE := fun env st => match env[i]? with
  | some (some (.exn a' d' n')) => if a' = a ∧ d' = dd ∧ n' = n then (match st[n]? with
    | some (.xd fs) => fldW fs f st
    | _ => none) else none
  | _ => none
theorem lift_xf {i : Nat} {a dd : Addr} {n : Nat} {x : Xc} {f : Str} (hx : x.dict = some n) : LiftE i (wX a (some dd) x) (fXf x f) (fXf' i a dd n f) := by
  intro env st o hl e
  have ew : wX a (some dd) x = .exn a dd n := by unfold wX; rw [hx]
  unfold fXf at e
  rw [hx] at e
  unfold fXf'
  rw [ew, List.getElem?_set_self hl]
  simp only [and_self, if_true]
  exact e
theorem look_rep {K : PySem.W.Frag} {H : Hp} {ρ : List Addr} {f : Str} : ∀ {fs : List (Str × W)} {us : List (Str × V)} {w : W}, fs.map (·.1) = us.map (·.1) → RepAll K H ρ (fs.map (·.2)) (us.map (·.2)) → fs.lookup f = some w → ∃ v, us.lookup f = some v ∧ Rep K H ρ w v
  | [], _, _, _, _, h => by cases h
  | (g, u) :: fs, [], _, e, _, _ => by cases e
  | (g, u) :: fs, (g', v) :: us, w, e, r, h => by
    have e1 : g = g' := (List.cons.inj e).1
    have e2 := (List.cons.inj e).2
    subst e1
    cases r with
    | cons r1 r2 =>
      rw [List.lookup_cons] at h ⊢
      split at h
      · rename_i hq
        cases h
        exact ⟨v, rfl, r1⟩
      · rename_i hq
        exact look_rep e2 r2 h
section
variable {X : Cx} {n : Str} {i : Nat} {pos np : Pos} {a dd : Addr} {oe : Obj} {pn : List (Addr × Obj)} {c f : Str} {m : Nat}
theorem pd_xf (T : XfC X.K (cA X.K c)) (hno : PySem.W.findIn X.K (.ref (cA X.K c)) f = some none) (hz : Zc (.ref (cA X.K c)) (some dd) oe) (hf : ∃ vs, oe.data = .fields vs) (hN : X.N[i]? = some n) (hv : Vis X.env.scope n)
    (hd : (n == ("__debug__" : Str)) = false := by decide) (hcd : (n == ("__classdict__" : Str)) = false := by decide) (hb : attributeBase (.Name n np) f X.env (eval (.Name n np) X.env) = eval (.Name n np) X.env := by rfl) :
    PD (X.suite a ((a, oe) :: pn)) (EXc X.K) U0 (.Attribute (.Name n np) f pos) (fXf' i a dd m f) := by
  refine (pe_xf T hno hz hf (pe_var (X := X.suite a ((a, oe) :: pn)) (i := i) hN hv hd hcd) hb).imp fun σ H Q h => ?_
  obtain ⟨ρ, env, st, r, st', hR, E, e, p⟩ := h
  unfold fXf' at e
  split at e
  · rename_i a' d' n' he
    split at e
    · rename_i hc
      obtain ⟨rfl, rfl, rfl⟩ := hc
      split at e
      · rename_i fs hfs
        unfold fldW at e
        split at e
        · rename_i w hw
          cases e
          obtain ⟨v, hv1, rv⟩ := E.2 i _ he
          cases rv with
          | exn hn =>
            obtain ⟨us, h1, h2, h3⟩ := hR.ob _ _ _ hn hfs
            obtain ⟨y, hy, ry⟩ := look_rep h2 h3 hw
            exact ⟨_, hv1, rfl, rfl, _, us, y, rfl, h1, hy, p y H ρ (Ext.refl _ _) hR ry⟩
        · cases e
      · cases e
    · cases e
  · cases e
/-! ### isinstance(e, C) -/
def excCB (K : PySem.W.Frag) (D : Addr) : Bool := ((PySem.W.clsIn K D).isSome && xfB K D) && ((decide (PySem.W.findIn K (.ref D) "__class__" = some (some (.builtin "object.__class__"))) && decide (PySem.W.specialIn K (.builtin "object.__class__") "__get__" = some (some (.builtin "getset_descriptor.__get__")))) && (decide (PySem.W.takesIn K (.builtin "object.__class__") = some true) && decide (PySem.W.mroIn K D (.type "object") = some true)))
/-- what the class of a caught exception must say -/
structure CaC (K : PySem.W.Frag) (D : Addr) : Prop where
  cl : (PySem.W.clsIn K D).isSome = true
  xf : XfC K D
  ha : PySem.W.findIn K (.ref D) "__class__" = some (some (.builtin "object.__class__"))
  hn : PySem.W.specialIn K (.builtin "object.__class__") "__get__" = some (some (.builtin "getset_descriptor.__get__"))
  ht : PySem.W.takesIn K (.builtin "object.__class__") = some true
  hm : PySem.W.mroIn K D (.type "object") = some true
theorem excCB_ok {K : PySem.W.Frag} {D : Addr} (h : excCB K D = true) : CaC K D := by
  unfold excCB at h
  simp only [Bool.and_eq_true] at h
  obtain ⟨⟨h1, h2⟩, ⟨h3, h4⟩, h5, h6⟩ := h
  exact ⟨h1, xfB_ok h2, of_decide_eq_true h3, of_decide_eq_true h4, of_decide_eq_true h5, of_decide_eq_true h6⟩
def rIsE2 (K : PySem.W.Frag) (D a : Addr) (d : Option Addr) : List V → Hp → VK → Prop := fun xs H Q => ∃ (c : V) (cv : Value) (b : Bool), xs = [.ref a, c] ∧ ClsV c cv ∧ PySem.W.kitOne K (.ref D) cv = some b ∧ (∀ dd, d = some dd → ∃ fs, H dd = some (.xd fs)) ∧ Q (.bl b) H
theorem call_isE2 {D : Addr} {d : Option Addr} (C : CaC X.K D) (hz : Zc (.ref D) d oe) (hf : ∃ vs, oe.data = .fields vs) : CallR (X.suite a ((a, oe) :: pn)) (.builtin "isinstance") (rIsE2 X.K D a d) := by
  intro pins s σ H xs us Q I r h
  obtain ⟨c, cv, b, rfl, hcv, e, hdd, q⟩ := h
  obtain ⟨u1, u2, rfl, r1, r2⟩ := vals2 r
  have ec := hcv.eq r2
  subst ec
  cases (show u1 = Value.ref a from r1)
  obtain ⟨hget, _⟩ := I.pin (a, oe) (List.mem_append.mpr (.inl List.mem_cons_self))
  obtain ⟨vs, hv⟩ := hf
  have J : ∃ od, PySem.W.InstAt s.heap a oe D od := by
    cases hd : d with
    | none =>
      refine ⟨none, hget, hz.1, by unfold PySem.W.notCls; rw [hv] <;> rfl, ?_⟩
      rw [hz.2, hd]
      trivial
    | some dd =>
      obtain ⟨fs, hfs⟩ := hdd dd hd
      have hx : ObjOk X.prog X.w H s.heap dd (.xd fs) := I.hok dd _ hfs
      obtain ⟨mA, hns, hr⟩ := hx
      obtain ⟨od, ho, hl⟩ := lookIn_ns hns
      refine ⟨some od, hget, hz.1, by unfold PySem.W.notCls; rw [hv] <;> rfl, ?_⟩
      rw [hz.2, hd]
      exact ho
  obtain ⟨od, J⟩ := J
  exact PySem.W.kia_one (PySem.W.kitx_exc C.cl C.xf.ga C.xf.gg C.xf.exC C.ha C.hn C.ht C.hm) I.kIn J e (fun z => nomatch z) fun tk => ⟨.bl b, H, I.kept (t' := tk) fun _ _ z => z, rfl, q⟩
def fIsE (x : Xc) (tb : Option Bool) : FE := fun _ st => match tb with
  | some b => (match x.dict with
    | none => ret (.bl b) st
    | some n => (match st[n]? with
      | some (.xd _) => ret (.bl b) st
      | _ => none))
  | none => none
def wIsE (a : Addr) (x : Xc) (d : Option Addr) (w : W) (st : Sto) : Bool := match w, x.dict, d with
  | .adr a', none, none => decide (a' = a)
  | .exn a' d' n', some n, some dd => decide (a' = a) && (decide (d' = dd) && (decide (n' = n) && (match st[n]? with
    | some (.xd _) => true
    | _ => false)))
  | _, _, _ => false
def fIsE' (i : Nat) (a : Addr) (d : Option Addr) (x : Xc) (tb : Option Bool) : FE := fun env st => match tb, env[i]? with
  | some b, some (some w) => if wIsE a x d w st then ret (.bl b) st else none
  | _, _ => none
theorem lift_isE {i : Nat} {a : Addr} {d : Option Addr} {x : Xc} {tb : Option Bool} (hd : (x.dict = none ∧ d = none) ∨ ∃ n dd, x.dict = some n ∧ d = some dd) : LiftE i (wX a d x) (fIsE x tb) (fIsE' i a d x tb) := by
  intro env st o hl e
  unfold fIsE at e
  unfold fIsE'
  rw [List.getElem?_set_self hl]
  cases tb with
  | none => cases e
  | some b =>
    show (if wIsE a x d (wX a d x) st then ret (.bl b) st else none) = some o
    rcases hd with ⟨h1, h2⟩ | ⟨n, dd, h1, h2⟩
    · have e : (match x.dict with | none => ret (W.bl b) st | some n => (match st[n]? with | some (.xd _) => ret (W.bl b) st | _ => none)) = some o := e
      rw [h1] at e
      have hw : wIsE a x d (wX a d x) st = true := by
        unfold wX wIsE
        rw [h1, h2]
        simp
      rw [hw]
      exact e
    · have e : (match x.dict with | none => ret (W.bl b) st | some n => (match st[n]? with | some (.xd _) => ret (W.bl b) st | _ => none)) = some o := e
      rw [h1] at e
      have e : (match st[n]? with | some (.xd _) => ret (W.bl b) st | _ => none) = some o := e
      split at e
      · rename_i fs hs
        have hw : wIsE a x d (wX a d x) st = true := by
          unfold wX wIsE
          rw [h1, h2]
          simp [hs]
        rw [hw]
        exact e
      · cases e
theorem pd_isE {d : Option Addr} {x : Xc} {tb : Option Bool} {cn : Str} {cw : V} {cv : Value} {p p2 : Pos} (C : CaC X.K (cA X.K x.cls)) (hz : Zc (.ref (cA X.K x.cls)) d oe) (hf : ∃ vs, oe.data = .fields vs) (hk : ∀ b, tb = some b → PySem.W.kitOne X.K (.ref (cA X.K x.cls)) cv = some b) (hcv : ClsV cw cv)
    (hN : X.N[i]? = some n) (hv : Vis X.env.scope n) (hg : Gl X "isinstance") (hm : X.mg "isinstance" = none) (hc : PE (X.suite a ((a, oe) :: pn)) (.Name cn p2) (tC cw))
    (hd : (n == ("__debug__" : Str)) = false := by decide) (hcd : (n == ("__classdict__" : Str)) = false := by decide)
    (h1 : starEach (.Name n np :: [.Name cn p2]) X.env = (false, eval (.Name n np) X.env) :: starEach [.Name cn p2] X.env := by rfl) (h2 : starEach [.Name cn p2] X.env = (false, eval (.Name cn p2) X.env) :: starEach [] X.env := by rfl)
    (hpl : (backTo pos (starEach [.Name cn p2] X.env)).any (·.1) = false := by rfl) :
    PD (X.suite a ((a, oe) :: pn)) (EXc X.K) U0 (.Call (.Name "isinstance" p) [.Name n np, .Name cn p2] [] pos) (fIsE' i a d x tb) := by
  refine (pe_callB (X := X.suite a ((a, oe) :: pn)) (call_isE2 C hz hf) hg hm PyProof.Rows.boot_isinstance (pa_cons (pe_var (X := X.suite a ((a, oe) :: pn)) (i := i) hN hv hd hcd) (pa_cons hc pa_nil h2) h1) (by decide) (by decide) h1 hpl).imp fun σ H Q h => ?_
  obtain ⟨ρ, env, st, r, st', hR, E, e, q⟩ := h
  unfold fIsE' at e
  split at e
  · rename_i b w he
    split at e
    · rename_i hw
      cases e
      obtain ⟨v, hv1, rv⟩ := E.2 i _ he
      unfold wIsE at hw
      split at hw
      · rename_i a' hx
        have ea := of_decide_eq_true hw
        subst ea
        cases rv
        exact ⟨_, hv1, cw, cv, b, rfl, hcv, hk b rfl, fun dd z => (by cases z), q _ H ρ (Ext.refl _ _) hR (.bl b)⟩
      · rename_i a' d' n' n2 dd hx
        simp only [Bool.and_eq_true] at hw
        obtain ⟨w1, w2, w3, w4⟩ := hw
        have w1 := of_decide_eq_true w1
        have w2 := of_decide_eq_true w2
        have w3 := of_decide_eq_true w3
        subst w1 w2 w3
        cases rv with
        | exn hn =>
          split at w4
          · rename_i fs hs
            obtain ⟨us, h1, _⟩ := hR.ob _ _ _ hn hs
            exact ⟨_, hv1, cw, cv, b, rfl, hcv, hk b rfl, fun dd z => ⟨us, by cases z; exact h1⟩, q _ H ρ (Ext.refl _ _) hR (.bl b)⟩
          · cases w4
      · cases hw
    · cases e
  · cases e
end
end DI

namespace DI
open PySem L2 PySem.Spec PyProof.Rows
/-! ### [e for x in range(..) if t] -/
section
variable {X : Cx} {EX : XR} {U : WX} {elt : Expr} {ifs : List Expr} {scope : Scope} {pos px p0 p1 : Pos} {x : Str} {j : Nat} {a b : Expr}
theorem lcR_go {K : PySem.W.Frag} {rg : List W → Option (Int × Nat)} {ft : FT} {fe : FE} {vs : List V} {σ : L2.St} {H : Hp} {Q : VK}
    (k : tK w0 K EX U (RepAll K) (Rep K) (fun env ws st => match rg ws with | some (lo, n) => bnd (lcLoop (gRng lo n) j ft fe (env.set j none) (n + 1) 0 [] st) addL | none => none) vs σ H Q) :
    ∃ lo n ws ρ, rg ws = some (lo, n) ∧ RepAll K H ρ ws vs ∧ ∀ D, H D = none → ∃ Wd : Nat → Nat → Hp → Prop, (∃ m, Wd 0 m (upd H D (.lst []))) ∧ ∀ i m H, Wd i m H → ((Itr lo n).stop i H ∧ Q (.ref D) H) ∨ ((Itr lo n).go i H ∧ ∃ Nx : Hp → Prop, (∀ H', Nx H' → ∃ m', m' < m ∧ Wd (i + 1) m' H') ∧
      ∀ x H', (Itr lo n).yld i H x H' → gName j x (wipe σ [j]) H' fun σ2 H2 => wipe σ2 [j] = wipe σ [j] ∧ tT w0 K EX U0 ft σ2 H2 fun b H3 =>
        if b = true then tI w0 K EX U0 fe σ2 H3 fun y H4 => ∃ acc, H4 D = some (.lst acc) ∧ acc.length < sizeLine ∧ Nx (upd H4 D (.lst (acc ++ [y]))) else Nx H3) := by
  obtain ⟨ρ, env, st, ws, r, st', hR, E, rw', e, p⟩ := k
  have e : (match rg ws with | some (lo, n) => bnd (lcLoop (gRng lo n) j ft fe (env.set j none) (n + 1) 0 [] st) addL | none => none) = some (r, st') := e
  split at e
  · rename_i lo n hn
    obtain ⟨us, s2, hl, rfl, rfl⟩ := lcB (K := K) e
    exact ⟨lo, n, ws, ρ, hn, rw', fun D hD => lc_go itr_rng hR E hl p D hD⟩
  · cases e
theorem lcR1_main {fa : FA} {ft : FT} {fe : FE} {σ : L2.St} {H : Hp} {Q : VK} (h : tI X.w X.K EX U (fLcR rng1 fa j ft fe) σ H Q) :
    tLc (iRng1 (tA X.w X.K EX U fa)) (gName j) (tT X.w X.K EX U0 ft) (tI X.w X.K EX U0 fe) [j] σ H Q := by
  refine (tG_bind (r1 := RepAll X.K) (g := fun env ws st => match rng1 ws with | some (lo, n) => bnd (lcLoop (gRng lo n) j ft fe (env.set j none) (n + 1) 0 [] st) addL | none => none) h).imp fun vs H1 k => ?_
  obtain ⟨lo, n, ws, ρ, hn, rw', kk⟩ := lcR_go k
  unfold rng1 at hn
  split at hn
  · split at hn
    · rename_i hz
      rw [Bool.and_eq_true] at hz
      cases hn
      obtain ⟨v, rfl, rv⟩ := all1 rw'
      cases rv
      exact ⟨_, rfl, of_decide_eq_true hz.1, of_decide_eq_true hz.2, kk⟩
    · cases hn
  · cases hn
theorem lcR2_main {fa : FA} {ft : FT} {fe : FE} {σ : L2.St} {H : Hp} {Q : VK} (h : tI X.w X.K EX U (fLcR rng2 fa j ft fe) σ H Q) :
    tLc (iRng2 (tA X.w X.K EX U fa)) (gName j) (tT X.w X.K EX U0 ft) (tI X.w X.K EX U0 fe) [j] σ H Q := by
  refine (tG_bind (r1 := RepAll X.K) (g := fun env ws st => match rng2 ws with | some (lo, n) => bnd (lcLoop (gRng lo n) j ft fe (env.set j none) (n + 1) 0 [] st) addL | none => none) h).imp fun vs H1 k => ?_
  obtain ⟨lo, n, ws, ρ, hn, rw', kk⟩ := lcR_go k
  unfold rng2 at hn
  split at hn
  · split at hn
    · rename_i hz
      rw [Bool.and_eq_true, Bool.and_eq_true, Bool.and_eq_true] at hz
      cases hn
      obtain ⟨v, v2, rfl, rv, rv2⟩ := all2 rw'
      cases rv
      cases rv2
      exact ⟨_, _, rfl, ⟨of_decide_eq_true hz.1.1, of_decide_eq_true hz.1.2, of_decide_eq_true hz.2.1, of_decide_eq_true hz.2.2⟩, kk⟩
    · cases hn
  · cases hn
theorem pd_lcR1 {fa : FA} {ft : FT} {fe : FE} (hc : X.calm = true) (hN : X.N.Nodup) (ok : BlkOk X.N X.env.scope scope [(x, j)]) (hrg : Gl X "range") (hm : X.mg "range" = none) (hi : PDA X EX U [a] fa)
    (hg : ∀ (s : Shared) (H : Hp) (C : Addr) (cl : List (Str × Addr)) (fp : List Addr), PG (X.blk s H scope (compEnvC scope cl C X.env) fp) (.Name x px) (gName j))
    (ht : ∀ (s : Shared) (H : Hp) (C : Addr) (cl : List (Str × Addr)) (fp : List Addr), PTs (X.blk s H scope (compEnvC scope cl C X.env) fp) ifs (tT X.w X.K EX U0 ft))
    (he : ∀ (s : Shared) (H : Hp) (C : Addr) (cl : List (Str × Addr)) (fp : List Addr), PE (X.blk s H scope (compEnvC scope cl C X.env) fp) elt (tI X.w X.K EX U0 fe))
    (hst : starEach [a] X.env = [(false, eval a X.env)] := by rfl)
    (hs : ∀ y, foldedSetIterable (.Call (.Name "range" p0) [a] [] p1) X.env y = pure y := by intro _; rfl) :
    PD X EX U (.ListComp elt [⟨.Name x px, .Call (.Name "range" p0) [a] [] p1, ifs, 0⟩] scope pos) (fLcR rng1 fa j ft fe) :=
  (pe_lc (own := [(x, j)]) hc hN (pi_range1 hrg hm hi hst) ok hg ht he hs).imp fun _ _ _ h => lcR1_main h
theorem pd_lcR2 {fa : FA} {ft : FT} {fe : FE} (hc : X.calm = true) (hN : X.N.Nodup) (ok : BlkOk X.N X.env.scope scope [(x, j)]) (hrg : Gl X "range") (hm : X.mg "range" = none) (hi : PDA X EX U [a, b] fa)
    (hg : ∀ (s : Shared) (H : Hp) (C : Addr) (cl : List (Str × Addr)) (fp : List Addr), PG (X.blk s H scope (compEnvC scope cl C X.env) fp) (.Name x px) (gName j))
    (ht : ∀ (s : Shared) (H : Hp) (C : Addr) (cl : List (Str × Addr)) (fp : List Addr), PTs (X.blk s H scope (compEnvC scope cl C X.env) fp) ifs (tT X.w X.K EX U0 ft))
    (he : ∀ (s : Shared) (H : Hp) (C : Addr) (cl : List (Str × Addr)) (fp : List Addr), PE (X.blk s H scope (compEnvC scope cl C X.env) fp) elt (tI X.w X.K EX U0 fe))
    (hst : starEach [a, b] X.env = [(false, eval a X.env), (false, eval b X.env)] := by rfl) (hst2 : starEach [b] X.env = [(false, eval b X.env)] := by rfl)
    (hs : ∀ y, foldedSetIterable (.Call (.Name "range" p0) [a, b] [] p1) X.env y = pure y := by intro _; rfl) :
    PD X EX U (.ListComp elt [⟨.Name x px, .Call (.Name "range" p0) [a, b] [] p1, ifs, 0⟩] scope pos) (fLcR rng2 fa j ft fe) :=
  (pe_lc (own := [(x, j)]) hc hN (pi_range2 hrg hm hi hst hst2) ok hg ht he hs).imp fun _ _ _ h => lcR2_main h
theorem pds_setLcR1 {i : Nat} {y : Str} {py spos : Pos} {fa : FA} {ft : FT} {fe : FE} (hc : X.calm = true) (hN : X.N.Nodup) (hy : X.N[i]? = some y) (hyl : X.env.scope.names.lookup y = some .local)
    (hsw : swapsWith (.ListComp elt [⟨.Name x px, .Call (.Name "range" p0) [a] [] p1, ifs, 0⟩] scope pos) (some (.Name y py)) spos.line X.env = pure true) (ok : BlkOk X.N X.env.scope scope [(x, j)]) (hrg : Gl X "range") (hm : X.mg "range" = none) (hi : PDA X EX U [a] fa)
    (hg : ∀ (s : Shared) (H : Hp) (C : Addr) (cl : List (Str × Addr)) (fp : List Addr), PG (X.blk s H scope (compEnvC scope cl C X.env) fp) (.Name x px) (gName j))
    (ht : ∀ (s : Shared) (H : Hp) (C : Addr) (cl : List (Str × Addr)) (fp : List Addr), PTs (X.blk s H scope (compEnvC scope cl C X.env) fp) ifs (tT X.w X.K EX U0 ft))
    (he : ∀ (s : Shared) (H : Hp) (C : Addr) (cl : List (Str × Addr)) (fp : List Addr), PE (X.blk s H scope (compEnvC scope cl C X.env) fp) elt (tI X.w X.K EX U0 fe))
    (hst : starEach [a] X.env = [(false, eval a X.env)] := by rfl)
    (hs : ∀ y, foldedSetIterable (.Call (.Name "range" p0) [a] [] p1) X.env y = pure y := by intro _; rfl) :
    PDS X EX U (.Assign [.Name y py] (.ListComp elt [⟨.Name x px, .Call (.Name "range" p0) [a] [] p1, ifs, 0⟩] scope pos) spos) (fSet i (fLcR rng1 fa j ft fe)) := by
  refine (ps_setLc (own := [(x, j)]) hc hN hy hyl hsw (pi_range1 hrg hm hi hst) ok hg ht he hs).imp fun D σ H h => ?_
  refine lcR1_main (X := X) ((tS_bind (r1 := Rep X.K) (g := fun env w st => some (.nx, env.set i (some w), st)) h).imp fun v H1 h1 => ?_)
  obtain ⟨ρ, env, st, w, fl, env', st', hR, E, rw', e, p⟩ := h1
  cases e
  exact p _ H1 ρ (Ext.refl _ _) hR (E.set rw' i)
end
/-! ### facts of the exception classes, by looks at the written part -/
theorem all_at {l : List Bool} (h : l.all id = true) (i : Nat) {b : Bool} (e : l[i]? = some b := by rfl) : b = true := List.all_eq_true.mp h b (List.mem_of_getElem? e)
def nsB (K : PySem.W.Frag) (c : Str) : Bool := decide (PySem.W.nsIn K mainGlobals c = some (some (.ref (cA K c))))
theorem nsB_ok {K : PySem.W.Frag} {h : Heap} {mg : Str → Option Value} (X : K.In h) (G : h.Ns mainGlobals mg) {c : Str} (e : nsB K c = true) : mg c = some (.ref (cA K c)) := PySem.W.mg_of X G (of_decide_eq_true e)
def nfB (K : PySem.W.Frag) (c f : Str) : Bool := decide (PySem.W.findIn K (.ref (cA K c)) f = some none)
def kiB (K : PySem.W.Frag) (c : Str) (cv : Value) (b : Bool) : Bool := decide (PySem.W.kitOne K (.ref (cA K c)) cv = some b)
def tabB (K : PySem.W.Frag) (x : Str) (tab : List (Str × Bool)) : Bool := tab.all fun p => decide (PySem.W.exmOne K (.ref (cA K p.1)) (.ref (cA K x)) = some p.2)
theorem look_mem {α : Type} {c : Str} {b : α} : ∀ {tab : List (Str × α)}, tab.lookup c = some b → (c, b) ∈ tab
  | [], h => by cases h
  | (d, e) :: t, h => by
    rw [List.lookup_cons] at h
    split at h
    · rename_i hq
      have : c = d := by simpa using hq
      subst this
      cases h
      exact List.mem_cons_self
    · exact List.mem_cons_of_mem _ (look_mem h)
theorem tabB_ok {K : PySem.W.Frag} {x : Str} {tab : List (Str × Bool)} (h : tabB K x tab = true) : ∀ c b, tab.lookup c = some b → PySem.W.exmOne K (.ref (cA K c)) (.ref (cA K x)) = some b := fun c b e =>
  of_decide_eq_true (List.all_eq_true.mp h (c, b) (look_mem e))
theorem tab_one {c d : Str} {tab : List (Str × Bool)} (h : tab.lookup c = some true) (e : (tab.filter (·.2)).map (·.1) = [d]) : c = d := by
  have m := look_mem h
  have : c ∈ (tab.filter (·.2)).map (·.1) := List.mem_map.mpr ⟨(c, true), List.mem_filter.mpr ⟨m, rfl⟩, rfl⟩
  rw [e] at this
  simpa using this
def fNone : FS := fun _ _ => none
theorem pdb_none {X : Cx} {EX : XR} {U : WX} {s : Stmt} {ss : List Stmt} : PDB X EX U (s :: ss) fNone := ⟨fun pins s σ H D I h => by
  obtain ⟨_, _, _, _, _, _, _, _, e, _⟩ := h
  cases e⟩
theorem lifts_none {i : Nat} {w : W} {su : FS} (h : ∀ env st, su env st = none) : Lifts i w su fNone := fun env st fl env2 st2 _ e => by rw [h] at e; cases e
/-- what an except-suite does, where the class has fields -/
def suF (b : FS) (x : Xc) : FS := match x.dict with
  | some _ => b
  | none => fNone
def suN (b : FS) (x : Xc) : FS := match x.dict with
  | some _ => fNone
  | none => b
def clsFn (s : Stmt) (j : Nat) : Stmt := match s with
  | .ClassDef _ _ _ body .. => body.getD j (.Pass ⟨0, 0, 0, 0⟩)
  | _ => .Pass ⟨0, 0, 0, 0⟩
end DI

namespace DI
open PySem L2 PySem.Spec PyProof.Rows
/-! ### raise C(), C without fields -/
section
variable {X : Cx} {U : WX} {p pos rpos : Pos} {c : Str}
theorem pmk_own0 {C : Addr} {bmB : List Value} {B newId initId : String} {x : Str} (F : ExcBaseFacts B newId initId bmB) (q : PySem.W.excIn X.K C bmB newId = true) (gC : X.mg x = some (.ref C)) (kC : PySem.W.keepIn X.K (.ref C) = true) (r : Raises X (.ref C)) (hg : Gl X x) (hdb : (x == ("__debug__" : Str)) = false := by decide) :
    PMk X (.Call (.Name x p) [] [] pos) (fun _ H Q => Q (.ref C) none H) := by
  intro pins s σ H Q I h
  refine wpAny_Call_Name_kw (ld_glob I hg gC ?_ hdb)
  refine PySem.W.callWith_K0 I.kIn kC ?_
  obtain ⟨bm, N, nm, qn, bs, hdct, sn, sub, ab, col, dd, k0, k1, k2, k3, k5, mN, hC, hN, hni, T⟩ := exc_obj I.kIn q
  show wpAny _ _ (call (.ref C) []) _ _ _
  refine wpAny_call_exc_subT F T hC hN hni (fun h' e hm => ?_) (Nat.zero_le _)
  exact mk_of I hm r h (I.hok.gone hm.new)
/-- what the written part says of such a class -/
structure XM0 (K : PySem.W.Frag) (mg : Str → Option Value) (c : Str) : Prop where
  ex : ∃ (B newId initId : String) (bmB : List Value), ExcBaseFacts B newId initId bmB ∧ PySem.W.excIn K (cA K c) bmB newId = true
  g : mg c = some (.ref (cA K c))
  k : PySem.W.keepIn K (.ref (cA K c)) = true
  s : PySem.W.subIn K (.ref (cA K c)) (.type "BaseException") = some true
  t : PySem.W.typeIn K (.ref (cA K c)) = some (.type "type")
def fRaise0 (c : Str) : FS := fun env st => some (.exc ⟨c, none⟩, env, st)
theorem pds_raise0 (T : XM0 X.K X.mg c) (hc : X.calm = true) (tk : Takes X U) (hg : Gl X c) (hdb : (c == ("__debug__" : Str)) = false := by decide) : PDS X (EXc X.K) U (.Raise (some (.Call (.Name c p) [] [] pos)) none rpos) (fRaise0 c) := by
  obtain ⟨B, newId, initId, bmB, F, q⟩ := T.ex
  refine (ps_raise hc tk (pmk_own0 F q T.g T.k (raises_own T.s T.t) hg hdb)).imp fun D σ H h => ?_
  obtain ⟨ρ, env, st, fl, env', st', hR, E, e, p⟩ := h
  cases e
  exact p (.ref (cA X.K c)) none σ H ρ (Ext.refl _ _) hR E ⟨rfl, rfl⟩
end
end DI

namespace DI
open PySem L2 PySem.Spec PyProof.Rows
/-! ### dicts whose keys are tuples -/
section
variable {X : Cx} {pins : List (Addr × Obj)} {σ : L2.St} {H : Hp} {s : Shared} {ρ : List Addr} {st : Sto}
mutual
/-- a key in the heap -/
theorem nk_is (I : Inv X pins σ H s) : ∀ {w : W} {v : V} {u : Value} {k : NestedKey}, Rep X.K H ρ w v → RelV v u → nkW w = some k → NestedIs s.heap k u
  | .non, _, _, _, .non, rv, e => by cases e; cases rv; exact .none
  | .bl b, _, _, _, .bl _, rv, e => by cases e; cases rv; exact .bool rfl
  | .int i, _, _, _, .int _, rv, e => by cases e; obtain ⟨t, rfl⟩ := rv; exact .int i t
  | .str x, _, _, _, .str _, rv, e => by cases e; obtain ⟨t, rfl⟩ := rv; exact .text x t
  | .tup ws, _, _, k, .tup (a := a) h1 h2, rv, e => by
    unfold nkW at e
    cases q : nkWs ws with
    | none => rw [q] at e; cases e
    | some ks =>
      rw [q] at e; cases e
      cases (show _ = Value.ref a from rv)
      obtain ⟨its, vv, p, _⟩ := I.tuple h1
      obtain ⟨o, ho, hc, n, hd⟩ := p
      exact .tup ho hc hd (by simpa using nks_is I h2 vv q)
  | .ils _, _, _, _, _, _, e => by cases e
  | .ref _, _, _, _, _, _, e => by cases e
  | .adr _, _, _, _, _, _, e => by cases e
  | .exn _ _ _, _, _, _, _, _, e => by cases e
theorem nks_is (I : Inv X pins σ H s) : ∀ {ws : List W} {vs : List V} {us : List Value} {ks : List NestedKey}, RepAll X.K H ρ ws vs → Vals vs us → nkWs ws = some ks → NestedAll s.heap ks us
  | [], _, _, _, .nil, .nil, e => by cases e; exact .nil
  | w :: ws, _, _, ks, .cons r1 r2, .cons v1 v2, e => by
    unfold nkWs at e
    split at e
    · rename_i k ks' e1 e2
      cases e
      exact .cons (nk_is I r1 v1 e1) (nks_is I r2 v2 e2)
    · cases e
end
theorem keys_is (I : Inv X pins σ H s) : ∀ {kvs : List (W × W)} {ys : List (NestedKey × Addr × Value)}, kvs.map (fun p => nkW p.1) = ys.map (fun y => some y.1) → RepAll X.K H ρ (kvs.map (·.1)) (ys.map fun y => V.ref y.2.1) → ∀ y ∈ ys, NestedIs s.heap y.1 (.ref y.2.1)
  | [], [], _, _, y, hy => by cases hy
  | [], _ :: _, e, _, _, _ => by cases e
  | _ :: _, [], e, _, _, _ => by cases e
  | p :: kvs, z :: ys, e, r, y, hy => by
    have e1 : nkW p.1 = some z.1 := (List.cons.inj e).1
    have e2 := (List.cons.inj e).2
    cases r with
    | cons r1 r2 =>
      rcases List.mem_cons.mp hy with rfl | hy
      · exact nk_is I r1 rfl e1
      · exact keys_is I e2 r2 y hy
/-- what a numbered dict is in the heap -/
theorem dct_heap (I : Inv X pins σ H s) (R : HR X.w X.K H ρ st) {n : Nat} {a : Addr} {kvs : List (W × W)} (hn : ρ[n]? = some a) (hs : st[n]? = some (.dct kvs)) :
    ∃ (ys : List (NestedKey × Addr × Value)) (vs : List V), s.heap.DictOfH (nestedKind X.prog X.w) a ys ∧ (a == sysModules) = false ∧ H a = some (DctO X.w a ys) ∧ kvs.map (fun p => nkW p.1) = ys.map (fun y => some y.1) ∧ (∀ y ∈ ys, y.1.depth ≤ 8) ∧ RepAll X.K H ρ (kvs.map (·.1)) (ys.map fun y => .ref y.2.1) ∧ RepAll X.K H ρ (kvs.map (·.2)) vs ∧ Vals vs (ys.map fun y => y.2.2) := by
  obtain ⟨ys, vs, h1, h2, h3, h4, h5, h6⟩ := R.ob n a _ hn hs
  obtain ⟨⟨hsm, o, es, ep, ho, hx, hd, he, hnd⟩, _⟩ := I.hok a _ h1
  exact ⟨ys, vs, ⟨o, es, ep, ho, hx, hd, he, fun y hy => ⟨keys_is I h2 h4 y hy, h3 y hy⟩, hnd⟩, hsm, h1, h2, h3, h4, h5, h6⟩
theorem emp_heap (I : Inv X pins σ H s) (R : HR X.w X.K H ρ st) {n : Nat} {a : Addr} (hn : ρ[n]? = some a) (hs : st[n]? = some .emp) : s.heap.DictOfH (nestedKind X.prog X.w) a [] ∧ (a == sysModules) = false ∧ H a = some (.dK []) := by
  have h1 : H a = some (.dK []) := R.ob n a _ hn hs
  obtain ⟨_, hsm, vs, kv, o, es, ep, ho, hx, hd, hes, hp, _⟩ := I.hok a _ h1
  cases kv
  have he : es.toList = [] := by
    cases q : es.toList with
    | nil => rfl
    | cons x xs => rw [q] at hp; exact absurd hp (by intro z; cases z)
  exact ⟨⟨o, es, ep, ho, hx, hd, by rw [he]; rfl, fun y hy => (by cases hy), .nil⟩, hsm, h1⟩
end
/-- the value of a key -/
def lookW : List (W × W) → NestedKey → Option W
  | [], _ => none
  | p :: kvs, k => if nkW p.1 = some k then some p.2 else lookW kvs k
/-- the entries of a numbered dict -/
def dctOf (w : W) (st : Sto) : Option (List (W × W)) := match w with
  | .ref n => (match st[n]? with
    | some (.dct kvs) => some kvs
    | some .emp => some []
    | _ => none)
  | _ => none
/-- a tuple as a key -/
def keyW (w : W) : Option NestedKey := match w with
  | .tup _ => (match nkW w with
    | some k => if k.depth ≤ 8 then some k else none
    | none => none)
  | _ => none
section
variable {X : Cx} {pins : List (Addr × Obj)} {σ : L2.St} {H : Hp} {s : Shared} {ρ : List Addr} {st : Sto}
theorem look_val {K : PySem.W.Frag} {H : Hp} {ρ : List Addr} : ∀ {kvs : List (W × W)} {ys : List (NestedKey × Addr × Value)} {vs : List V} {k : NestedKey}, kvs.map (fun p => nkW p.1) = ys.map (fun y => some y.1) → RepAll K H ρ (kvs.map (·.2)) vs → Vals vs (ys.map fun y => y.2.2) →
    (lookW kvs k = none ∧ valueAt (pairsH ys) k = none) ∨ ∃ w v u, lookW kvs k = some w ∧ valueAt (pairsH ys) k = some u ∧ Rep K H ρ w v ∧ RelV v u
  | [], [], _, k, _, _, _ => .inl ⟨rfl, rfl⟩
  | [], _ :: _, _, _, e, _, _ => by cases e
  | _ :: _, [], _, _, e, _, _ => by cases e
  | p :: kvs, y :: ys, vs, k, e, r, rv => by
    have e1 : nkW p.1 = some y.1 := (List.cons.inj e).1
    have e2 := (List.cons.inj e).2
    cases r with
    | cons r1 r2 =>
      cases rv with
      | cons v1 v2 =>
        by_cases q : y.1 = k
        · refine .inr ⟨p.2, _, y.2.2, ?_, ?_, r1, v1⟩
          · unfold lookW; rw [if_pos (by rw [e1, q])]
          · unfold valueAt pairsH; simp [q]
        · have ih := look_val (k := k) e2 r2 v2
          have l1 : lookW (p :: kvs) k = lookW kvs k := by show (if _ then _ else _) = _; rw [if_neg (by rw [e1]; intro z; exact q (Option.some.inj z))]
          have l2 : valueAt (pairsH (y :: ys)) k = valueAt (pairsH ys) k := by unfold valueAt pairsH; simp [q]
          rw [l1, l2]
          exact ih
/-- a dict and a key, in the heap -/
theorem dk_heap (I : Inv X pins σ H s) (R : HR X.w X.K H ρ st) {d k : W} {dv kv : V} {du ku : Value} {kvs : List (W × W)} {key : NestedKey} (rd : Rep X.K H ρ d dv) (rk : Rep X.K H ρ k kv) (vd : RelV dv du) (vk : RelV kv ku) (hd : dctOf d st = some kvs) (hk : keyW k = some key) :
    ∃ (n : Nat) (a b : Addr) (ys : List (NestedKey × Addr × Value)) (vs : List V), d = .ref n ∧ ρ[n]? = some a ∧ dv = .ref a ∧ du = .ref a ∧ kv = .ref b ∧ ku = .ref b ∧ s.heap.DictOfH (nestedKind X.prog X.w) a ys ∧ (a == sysModules) = false ∧ (nestedKind X.prog X.w).is s.heap key b ∧
      kvs.map (fun p => nkW p.1) = ys.map (fun y => some y.1) ∧ (∀ y ∈ ys, y.1.depth ≤ 8) ∧ RepAll X.K H ρ (kvs.map (·.1)) (ys.map fun y => .ref y.2.1) ∧ RepAll X.K H ρ (kvs.map (·.2)) vs ∧ Vals vs (ys.map fun y => y.2.2) ∧ (H a = some (DctO X.w a ys) ∨ H a = some (.dK [])) := by
  unfold keyW at hk
  split at hk
  · rename_i ws
    split at hk
    · rename_i k0 hk0
      split at hk
      · rename_i hdep
        cases hk
        have is := nk_is I rk vk hk0
        cases rk with
        | @tup b xs _ t1 t2 =>
          cases (show ku = Value.ref b from vk)
          unfold dctOf at hd
          cases rd with
          | @ref n a hn =>
            cases (show du = Value.ref a from vd)
            simp only at hd
            split at hd
            · rename_i kvs' hs
              cases hd
              obtain ⟨ys, vs, h1, h2, h3, h4, h5, h6, h7, h8⟩ := dct_heap I R hn hs
              exact ⟨n, a, b, ys, vs, rfl, hn, rfl, rfl, rfl, rfl, h1, h2, ⟨is, hdep⟩, h4, h5, h6, h7, h8, .inl h3⟩
            · rename_i hs
              cases hd
              obtain ⟨h1, h2, h3⟩ := emp_heap I R hn hs
              exact ⟨n, a, b, [], [], rfl, hn, rfl, rfl, rfl, rfl, h1, h2, ⟨is, hdep⟩, rfl, fun y hy => (by cases hy), .nil, .nil, .nil, .inr h3⟩
            · cases hd
          | _ => cases hd
      · cases hk
    · cases hk
  · cases hk
end
/-! ### k in d, d[k] -/
def opInD : O2 := fun a b st => match keyW a, dctOf b st with
  | some k, some kvs => ret (.bl (lookW kvs k).isSome) st
  | _, _ => opIn a b st
def opNotInD : O2 := fun a b st => match keyW a, dctOf b st with
  | some k, some kvs => ret (.bl (!(lookW kvs k).isSome)) st
  | _, _ => opNotIn a b st
def rInD (w0 : World) (K : PySem.W.Frag) (f : Bool → Bool) : R2 := fun x y H Q => ∃ (ρ : List Addr) (st : Sto) (a b : W) (kvs : List (W × W)) (k : NestedKey), HR w0 K H ρ st ∧ Rep K H ρ a x ∧ Rep K H ρ b y ∧ keyW a = some k ∧ dctOf b st = some kvs ∧ Q (.bl (f (lookW kvs k).isSome)) H
theorem isSome_look {K : PySem.W.Frag} {H : Hp} {ρ : List Addr} {kvs : List (W × W)} {ys : List (NestedKey × Addr × Value)} {vs : List V} {k : NestedKey} (h1 : kvs.map (fun p => nkW p.1) = ys.map (fun y => some y.1)) (h2 : RepAll K H ρ (kvs.map (·.2)) vs) (h3 : Vals vs (ys.map fun y => y.2.2)) : (valueAt (pairsH ys) k).isSome = (lookW kvs k).isSome := by
  rcases look_val (k := k) h1 h2 h3 with ⟨a, b⟩ | ⟨w, v, u, a, b, _⟩ <;> rw [a, b] <;> rfl
section
variable {X : Cx}
theorem op_inD (hu : X.A.units + 65 < cLine) : OpR X (compareOp .In) (rInD X.w X.K id) := by
  intro pins s σ H x y v u Q I rx ry h
  obtain ⟨ρ, st, a, b, kvs, k, R, ra, rb, hk, hd, q⟩ := h
  obtain ⟨n, da, kb, ys, vs, rfl, hn, rfl, rfl, rfl, rfl, h1, h2, h3, h4, h5, h6, h7, h8, h9⟩ := dk_heap I R rb ra ry rx hd hk
  refine in_keyed (knd := nestedKind X.prog X.w) (kvs := pairsH ys) (by show X.A.units + 1 + 8 < cLine; omega) h3 h2 ⟨ys, h1, rfl⟩ ?_
  rw [isSome_look h4 h7 h8]
  exact ⟨.bl _, H, I.tok _, rfl, q⟩
theorem op_notInD (hu : X.A.units + 65 < cLine) : OpR X (compareOp .NotIn) (rInD X.w X.K not) := by
  intro pins s σ H x y v u Q I rx ry h
  obtain ⟨ρ, st, a, b, kvs, k, R, ra, rb, hk, hd, q⟩ := h
  obtain ⟨n, da, kb, ys, vs, rfl, hn, rfl, rfl, rfl, rfl, h1, h2, h3, h4, h5, h6, h7, h8, h9⟩ := dk_heap I R rb ra ry rx hd hk
  refine notIn_keyed (knd := nestedKind X.prog X.w) (kvs := pairsH ys) (by show X.A.units + 1 + 8 < cLine; omega) h3 h2 ⟨ys, h1, rfl⟩ ?_
  rw [isSome_look h4 h7 h8]
  exact ⟨.bl _, H, I.tok _, rfl, q⟩
end
end DI

namespace DI
open PySem L2 PySem.Spec PyProof.Rows
section
variable {X : Cx}
/-! ### d[k] -/
def rIxD (w0 : World) (K : PySem.W.Frag) : R2 := fun x y H Q => ∃ (ρ : List Addr) (st : Sto) (a b w : W) (kvs : List (W × W)) (k : NestedKey), HR w0 K H ρ st ∧ Rep K H ρ a x ∧ Rep K H ρ b y ∧ dctOf a st = some kvs ∧ keyW b = some k ∧ lookW kvs k = some w ∧ ∀ v, Rep K H ρ w v → Q v H
theorem ix_dct (hu : X.A.units + 65 < cLine) : IxR X (rIxD X.w X.K) := by
  intro value slice pins s σ H x y v u Q I rx ry h hs
  obtain ⟨ρ, st, a, b, w, kvs, k, R, ra, rb, hd, hk, hl, q⟩ := h
  obtain ⟨n, da, kb, ys, vs, rfl, hn, rfl, rfl, rfl, rfl, h1, h2, h3, h4, h5, h6, h7, h8, h9⟩ := dk_heap I R ra rb rx ry hd hk
  rcases look_val (k := k) h4 h7 h8 with ⟨e1, _⟩ | ⟨w', v', u', e1, e2, r1, r2⟩
  · rw [hl] at e1; cases e1
  · rw [hl] at e1; cases e1
    refine subscriptTail_builtinR (x := u') h1.typeIs PySem.F.slot_dict_getitem.lookup (getItem_keyed (knd := nestedKind X.prog X.w) (kvs := pairsH ys) (Q := fun r s' => r = u' ∧ EP X pins σ Q r s') (by show X.A.units + 1 + 8 < cLine; omega) h3 ⟨ys, h1, rfl⟩ e2 ⟨rfl, v', H, I.tok _, r2, q v' r1⟩) hs
def opIxD : O2 := fun a b st => match dctOf a st, keyW b with
  | some kvs, some k => (match lookW kvs k with
    | some w => ret w st
    | none => none)
  | _, _ => opIx a b st
theorem opr_ixD {w0 : World} {K : PySem.W.Frag} : OPR w0 K (fun x y H Q => rIxD w0 K x y H Q ∨ rIx K x y H Q) opIxD := by
  intro x y H Q ρ st st' a b w hR ra rb e q
  unfold opIxD at e
  split at e
  · rename_i kvs k hd hk
    split at e
    · rename_i w' hw
      cases e
      exact .inl ⟨ρ, _, a, b, _, kvs, k, hR, ra, rb, hd, hk, hw, fun v r => q v H ρ (Ext.refl _ _) hR r⟩
    · cases e
  · exact .inr (opr_ix hR ra rb e q)
theorem nox_ixD (a b : W) (st : Sto) : NoX (opIxD a b st) := fun x st' e => by
  unfold opIxD at e
  split at e
  · split at e <;> cases e
  · exact nox_ix _ _ _ _ _ e
theorem pd_ixD {EX : XR} {U : WX} {a b : Expr} {pos : Pos} {fa fb : FE} (hu : X.A.units + 65 < cLine) (ha : PD X EX U a fa) (hb : PD X EX U b fb) (hs : PlainIx b := by exact fun _ _ => rfl) : PD X EX U (.Subscript a b pos) (fOp opIxD fa fb) :=
  (pe_ix ((ix_dct hu).or ix_seq) ha hb hs).imp fun _ _ _ h => op_go opr_ixD nox_ixD h
/-! ### in -/
theorem opr_inD {w0 : World} {K : PySem.W.Frag} : OPR w0 K (rOr (rInD w0 K id) (rOr (rSign id) (rData w0 K dIn))) opInD := by
  intro x y H Q ρ st st' a b w hR ra rb e q
  unfold opInD at e
  split at e
  · rename_i k kvs hk hd
    cases e
    exact .inl ⟨ρ, st, a, b, kvs, k, hR, ra, rb, hk, hd, q _ H ρ (Ext.refl _ _) hR (.bl _)⟩
  · exact .inr (opr_in hR ra rb e q)
theorem opr_notInD {w0 : World} {K : PySem.W.Frag} : OPR w0 K (rOr (rInD w0 K not) (rOr (rSign not) (rData w0 K dNotIn))) opNotInD := by
  intro x y H Q ρ st st' a b w hR ra rb e q
  unfold opNotInD at e
  split at e
  · rename_i k kvs hk hd
    cases e
    exact .inl ⟨ρ, st, a, b, kvs, k, hR, ra, rb, hk, hd, q _ H ρ (Ext.refl _ _) hR (.bl _)⟩
  · exact .inr (opr_notIn hR ra rb e q)
theorem nox_inD (a b : W) (st : Sto) : NoX (opInD a b st) := fun x st' e => by
  unfold opInD at e
  split at e
  · cases e
  · exact nox_in _ _ _ _ _ e
theorem nox_notInD (a b : W) (st : Sto) : NoX (opNotInD a b st) := fun x st' e => by
  unfold opNotInD at e
  split at e
  · cases e
  · exact nox_notIn _ _ _ _ _ e
theorem op_in3 (hu : X.A.units + 65 < cLine) : OpR X (compareOp .In) (rOr (rInD X.w X.K id) (rOr (rSign id) (rData X.w X.K dIn))) := op_or2 (op_inD hu) (op_in2 hu)
theorem op_notIn3 (hu : X.A.units + 65 < cLine) : OpR X (compareOp .NotIn) (rOr (rInD X.w X.K not) (rOr (rSign not) (rData X.w X.K dNotIn))) := op_or2 (op_notInD hu) (op_notIn2 hu)
end
/-! ### d[k] = v -/
def putW (k : NestedKey) (w : W) (p : W × W) : W × W := if nkW p.1 = some k then (p.1, w) else p
def storeW (kvs : List (W × W)) (kw : W) (k : NestedKey) (w : W) : List (W × W) := if (lookW kvs k).isSome then kvs.map (putW k w) else kvs ++ [(kw, w)]
theorem put_rel {K : PySem.W.Frag} {H : Hp} {ρ : List Addr} {w : W} {k : NestedKey} {v : V} {u : Value} (rv : Rep K H ρ w v) (ru : RelV v u) :
    ∀ {kvs : List (W × W)} {ys : List (NestedKey × Addr × Value)} {vs : List V}, kvs.map (fun p => nkW p.1) = ys.map (fun y => some y.1) → RepAll K H ρ (kvs.map (·.1)) (ys.map fun y => .ref y.2.1) → RepAll K H ρ (kvs.map (·.2)) vs → Vals vs (ys.map fun y => y.2.2) →
    ∃ vs', (kvs.map (putW k w)).map (fun p => nkW p.1) = (ys.map (putAt k u)).map (fun y => some y.1) ∧ RepAll K H ρ ((kvs.map (putW k w)).map (·.1)) ((ys.map (putAt k u)).map fun y => .ref y.2.1) ∧ RepAll K H ρ ((kvs.map (putW k w)).map (·.2)) vs' ∧ Vals vs' ((ys.map (putAt k u)).map fun y => y.2.2)
  | [], [], vs, _, _, _, _ => ⟨[], rfl, .nil, .nil, .nil⟩
  | [], _ :: _, _, e, _, _, _ => by cases e
  | _ :: _, [], _, e, _, _, _ => by cases e
  | p :: kvs, y :: ys, vs, e, r1, r2, r3 => by
    have e1 : nkW p.1 = some y.1 := (List.cons.inj e).1
    have e2 := (List.cons.inj e).2
    cases r1 with
    | cons a1 a2 =>
      cases r2 with
      | @cons _ _ v0 vs0 b1 b2 =>
        cases r3 with
        | cons c1 c2 =>
          obtain ⟨vs', i1, i2, i3, i4⟩ := put_rel (k := k) rv ru e2 a2 b2 c2
          obtain ⟨yk, ya, yv⟩ := y
          by_cases q : yk = k
          · have f1 : putW k w p = (p.1, w) := by unfold putW; rw [if_pos (by rw [e1, q])]
            have f2 : putAt k u (yk, ya, yv) = (yk, ya, u) := by simp [putAt, q]
            refine ⟨v :: vs', ?_, ?_, ?_, ?_⟩
            · simp only [List.map_cons, f1, f2, e1]; rw [← i1]
            · simp only [List.map_cons, f1, f2]; exact .cons a1 i2
            · simp only [List.map_cons, f1]; exact .cons rv i3
            · simp only [List.map_cons, f2]; exact .cons ru i4
          · have f1 : putW k w p = p := by unfold putW; rw [if_neg (by rw [e1]; intro z; exact q (Option.some.inj z))]
            have f2 : putAt k u (yk, ya, yv) = (yk, ya, yv) := by simp [putAt, q]
            refine ⟨v0 :: vs', ?_, ?_, ?_, ?_⟩
            · simp only [List.map_cons, f1, f2, e1]; rw [← i1]
            · simp only [List.map_cons, f1, f2]; exact .cons a1 i2
            · simp only [List.map_cons, f1]; exact .cons b1 i3
            · simp only [List.map_cons, f2]; exact .cons c1 i4
theorem store_rel {K : PySem.W.Frag} {H : Hp} {ρ : List Addr} {kw w : W} {b : Addr} {k : NestedKey} {v : V} {u : Value} (hk : nkW kw = some k) (rk : Rep K H ρ kw (.ref b)) (rv : Rep K H ρ w v) (ru : RelV v u)
    {kvs : List (W × W)} {ys : List (NestedKey × Addr × Value)} {vs : List V} (h1 : kvs.map (fun p => nkW p.1) = ys.map (fun y => some y.1)) (h2 : RepAll K H ρ (kvs.map (·.1)) (ys.map fun y => .ref y.2.1)) (h3 : RepAll K H ρ (kvs.map (·.2)) vs) (h4 : Vals vs (ys.map fun y => y.2.2)) :
    ∃ vs', (storeW kvs kw k w).map (fun p => nkW p.1) = (storedH ys k b u).map (fun y => some y.1) ∧ RepAll K H ρ ((storeW kvs kw k w).map (·.1)) ((storedH ys k b u).map fun y => .ref y.2.1) ∧ RepAll K H ρ ((storeW kvs kw k w).map (·.2)) vs' ∧ Vals vs' ((storedH ys k b u).map fun y => y.2.2) := by
  have iso : (atKey ys k).isSome = (lookW kvs k).isSome := by
    rw [← isSome_look (k := k) h1 h3 h4, valueAt_pairsH, Option.isSome_map]
  unfold storeW storedH
  rw [iso]
  cases q : (lookW kvs k).isSome with
  | true => simpa only [if_true] using put_rel (k := k) rv ru h1 h2 h3 h4
  | false =>
    simp only [Bool.false_eq_true, if_false]
    refine ⟨vs ++ [v], ?_, ?_, ?_, ?_⟩
    · rw [List.map_append, List.map_append, h1]; simp [hk]
    · rw [List.map_append, List.map_append]; exact h2.append (.cons rk .nil)
    · rw [List.map_append]; exact h3.append (.cons rv .nil)
    · rw [List.map_append]; exact h4.append (.cons ru .nil)
def putD (o i w : W) (st : Sto) : Option Sto := match o, dctOf o st, keyW i with
  | .ref n, some kvs, some k => if szW (kvs.length + 1) then some (st.set n (.dct (storeW kvs i k w))) else none
  | _, _, _ => none
def rSetW (w0 : World) (K : PySem.W.Frag) : TSet := fun o i v H Q => ∃ (ρ : List Addr) (st st' : Sto) (ow iw w : W), HR w0 K H ρ st ∧ Rep K H ρ ow o ∧ Rep K H ρ iw i ∧ Rep K H ρ w v ∧ putD ow iw w st = some st' ∧ ∀ H', Ext H ρ H' ρ → HR w0 K H' ρ st' → Q H'
theorem keyW_nk {w : W} {k : NestedKey} (h : keyW w = some k) : nkW w = some k ∧ k.depth ≤ 8 := by
  unfold keyW at h
  split at h
  · split at h
    · rename_i k0 hk
      split at h
      · rename_i hd; cases h; exact ⟨hk, hd⟩
      · cases h
    · cases h
  · cases h
section
variable {X : Cx}
theorem set_dct (hu : X.A.units + 65 < cLine) : PSet X (rSetW X.w X.K) := by
  intro pins s σ H o i v ov iv u Q I ro ri rv h
  obtain ⟨ρ, st, st', ow, iw, w, R, r1, r2, r3, e, q⟩ := h
  unfold putD at e
  split at e
  · rename_i n kvs k hk hd
    split at e
    · rename_i hz
      cases e
      obtain ⟨n', da, kb, ys, vs, e0, hn, rfl, rfl, rfl, rfl, h1, h2, h3, h4, h5, h6, h7, h8, h9⟩ := dk_heap I R r1 r2 ro ri hd hk
      cases e0
      obtain ⟨nk, dep⟩ := keyW_nk hk
      have hlen : ys.length = kvs.length := by have := congrArg List.length h4; simpa using this.symm
      have hsz : ys.length ≤ sizeLine := by rw [hlen]; exact Nat.le_trans (Nat.le_succ _) (sz_ok hz)
      refine wpAny_setItem_heap (knd := nestedKind X.prog X.w) (hsz := hsz) (by show X.A.units + 1 + 8 < cLine; omega) h3 h1 fun h' hm' hs' => ?_
      obtain ⟨o, es, ep, ho, hx, hdt, he, his, hnd⟩ := hm'
      have mu : Mut (H da) := by rcases h9 with z | z <;> rw [z] <;> trivial
      obtain ⟨vs', i1, i2, i3, i4⟩ := store_rel (w := w) nk r2 r3 rv h4 h6 h7 h8
      have dep' : ∀ y ∈ storedH ys k kb u, y.1.depth ≤ 8 := fun y hy => (his y hy).2
      have new : ObjOk X.prog X.w (upd H da (DctO X.w da (storedH ys k kb u))) h' da (DctO X.w da (storedH ys k kb u)) :=
        ⟨⟨h2, o, es, ep, ho, hx, hdt, he, hnd⟩, ⟨o, ho⟩, fun a1 a2 ⟨q1, o', es', ep', q2, q3⟩ k' => ⟨q1, o', es', ep', k' _ q2, q3⟩⟩
      have I' := I.write (o := DctO X.w da (storedH ys k kb u)) (t' := s.toks + k.draws) mu (.inl rfl) (fun b ob hb q => (hs'.2 b hb).trans q) ⟨o, ho⟩ new
      have mem : da ∈ ρ := List.mem_of_getElem? hn
      refine ⟨_, I', q _ (Ext.mut mem) (R.putO hn ⟨storedH ys k kb u, vs', upd_same, i1, dep', i2.mono R (Ext.mut mem), i3.mono R (Ext.mut mem), i4⟩)⟩
    · cases e
  · cases e
end
end DI

namespace DI
open PySem L2 PySem.Spec PyProof.Rows
/-! ### o[i] = e, a list or a dict -/
def putA (o i w : W) (st : Sto) : Option Sto := match putD o i w st with
  | some st' => some st'
  | none => putL o i w st
def rSetA (w0 : World) (K : PySem.W.Frag) : TSet := fun o i v H Q => rSetW w0 K o i v H Q ∨ rSetL o i v H Q
section
variable {X : Cx} {EX : XR} {U : WX} {e : Expr} {pos : Pos}
theorem set_any (hu : X.A.units + 65 < cLine) : PSet X (rSetA X.w X.K) := fun pins s σ H o i v ov iv u Q I ro ri rv h => h.elim (set_dct hu pins s σ H o i v ov iv u Q I ro ri rv) (set_list pins s σ H o i v ov iv u Q I ro ri rv)
def fPutA (fo fi fe : FE) : FS := fun env st => bS (fe env st) env fun w st => bS (fo env st) env fun o st => bS (fi env st) env fun i st => (putA o i w st).map fun st => (.nx, env, st)
theorem putA_go {K : PySem.W.Frag} {w0 : World} {o i w : W} {ov iv v : V} {H : Hp} {ρ : List Addr} {st st' : Sto} (hR : HR w0 K H ρ st) (ro : Rep K H ρ o ov) (ri : Rep K H ρ i iv) (rv : Rep K H ρ w v) (e : putA o i w st = some st') {Q : Hp → Prop} (q : ∀ H', Ext H ρ H' ρ → HR w0 K H' ρ st' → Q H') : rSetA w0 K ov iv v H Q := by
  unfold putA at e
  split at e
  · rename_i s1 hp
    cases e
    exact .inl ⟨ρ, st, st', o, i, w, hR, ro, ri, rv, hp, q⟩
  · exact .inr (put_go hR ro ri rv e q)
theorem pds_putA {o i : Expr} {fo fi fe : FE} {p1 : Pos} (he : PD X EX U e fe) (ho : PD X EX U o fo) (hi : PD X EX U i fi) (hg : ∀ to ti, PE X o to → PE X i ti → PG X (.Subscript o i p1) (gSub to ti (rSetA X.w X.K)))
    (hs : swapsWithSole [.Subscript o i p1] e pos.line X.env = pure false := by rfl) (hw : swappedStores [.Subscript o i p1] e X.env = pure none := by rfl)
    (h1 : (assignEach [.Subscript o i p1] X.env).map (·.2) = [assign (.Subscript o i p1) X.env] := by rfl) : PDS X EX U (.Assign [.Subscript o i p1] e pos) (fPutA fo fi fe) := by
  refine (ps_asg he (hg _ _ ho hi) hs hw h1).imp fun D σ H h => ?_
  refine (tS_bind (r1 := Rep X.K) (g := fun env w st => bS (fo env st) env fun o st => bS (fi env st) env fun i st => (putA o i w st).map fun st => (.nx, env, st)) h).imp fun x H1 k1 => ?_
  refine (tK_tG (tKS_bind (r1 := Rep X.K) (f := fun env _ st => fo env st) (g := fun env w o st => bS (fi env st) env fun i st => (putA o i w st).map fun st => (.nx, env, st)) mono_rep k1)).imp fun y H2 k2 => ?_
  refine (tK_tG (tKS_bind (r1 := Rep X.K) (f := fun env _ st => fi env st) (g := fun env (c : W × W) i st => (putA c.2 i c.1 st).map fun st => (.nx, env, st)) (fun _ _ _ _ _ _ _ R e h => ⟨h.1.mono R e, h.2.mono R e⟩) k2)).imp fun z H3 k3 => ?_
  obtain ⟨ρ, env, st, ⟨⟨w, o'⟩, i'⟩, fl, env', st', hR, E, ⟨⟨rw', ro⟩, ri⟩, e, p⟩ := k3
  have e : (putA o' i' w st).map (fun st => (Fl.nx, env, st)) = some (fl, env', st') := e
  cases q : putA o' i' w st with
  | none => rw [q] at e; cases e
  | some s1 =>
    rw [q] at e; cases e
    exact putA_go hR ro ri rw' q fun H' e' R' => p σ H' ρ e' R' (E.mono hR e')
end
end DI

namespace DI
open PySem L2 PySem.Spec PyProof.Rows
/-! ### methods of dicts -/
def isDc (w0 : World) (x : V) (H : Hp) : Prop := ∃ a, x = .ref a ∧ ((∃ ys, H a = some (DctO w0 a ys)) ∨ H a = some (.dK []))
theorem isDc_ty {X : Cx} {pins : List (Addr × Obj)} {σ : L2.St} {H : Hp} {s : Shared} {x : V} {v : Value} (I : Inv X pins σ H s) (r : RelV x v) (h : isDc X.w x H) : s.TypeIs v "dict" ∧ ∀ a, v = .ref a → ∃ ob, s.heap.get? a = some ob ∧ ob.dict = none := by
  obtain ⟨a, rfl, h⟩ := h
  cases (show v = Value.ref a from r)
  have key : ∃ o, s.heap.get? a = some o ∧ o.ExactDict := by
    rcases h with ⟨ys, h⟩ | h
    · obtain ⟨⟨_, o, es, ep, ho, hx, _⟩, _⟩ := I.hok a _ h
      exact ⟨o, ho, hx⟩
    · obtain ⟨_, _, _, _, o, es, ep, ho, hx, _⟩ := I.hok a _ h
      exact ⟨o, ho, hx⟩
  obtain ⟨o, ho, hx⟩ := key
  exact ⟨⟨o, ho, hx.1⟩, fun b e => by cases e; exact ⟨o, ho, hx.2.1⟩⟩
def tBMD (w0 : World) (r : V → List V → Hp → VK → Prop) (to : TE) (ta : TA) : TE := fun σ H Q => to σ H fun x H1 => isDc w0 x H1 ∧ ta σ H1 fun vs H2 => r x vs H2 Q
section
variable {X : Cx} {o e : Expr} {es : List Expr} {apos cpos : Pos}
theorem pe_bmD {name : Str} {id : String} {r : V → List V → Hp → VK → Prop} {to : TE} {t : TA} (slot : Slot "dict" name id) (hty : typeOf (.builtin id) = pure (.type "method_descriptor")) (hm : MtR X id r) (ho : PE X o to) (ha : PA X (e :: es) t) (h1 : attributeBase o name X.env (eval o X.env) = eval o X.env := by rfl)
    (h2 : ((backTo cpos (starEach (e :: es) X.env)).all (fun x => !x.1) && (backToKw cpos (keywordEach [] X.env)).all (fun x => x.1.isSome) && decide ((e :: es).length + ([] : List Keyword).length + (if ([] : List Keyword).isEmpty then 0 else 1) < 30)) = true := by rfl)
    (h3 : (apos.endLine == cpos.line) = true := by rfl) (h4 : starEach (e :: es) X.env = (false, eval e X.env) :: starEach es X.env := by rfl) (h5 : (backTo cpos (starEach es X.env)).any (·.1) = false := by rfl) : PE X (.Call (.Attribute o name apos) (e :: es) [] cpos) (tBMD X.w r to t) := by
  refine ⟨fun pins s σ H Q I h => wpAny_Call_method_late h1 h2 h3 rfl (thn (ho.run pins s σ H _ I h) fun v s1 z => ?_)⟩
  obtain ⟨x, H1, I1, r1, ty, q1⟩ := z
  obtain ⟨t1, t2⟩ := isDc_ty I1 r1 ty
  refine ⟨"dict", id, PySem.F.plainAttrs_dict, slot, hty, t1, t2, ?_⟩
  have run := ha.run cpos pins s1 σ H1 _ I1 q1
  rw [h4] at run ⊢
  have plain : ((false : Bool) || ((backTo cpos (starEach es X.env)).any fun x => x.1)) = false := by rw [h5]; rfl
  refine Calls.callWith_builtin plain (Calls.evalArgs_plain (thn run fun us s2 y => ?_))
  obtain ⟨vs, H2, I2, r2, q2⟩ := y
  exact hm pins s2 σ H2 x vs v us Q I2 r1 r2 q2
end
/-- an operation of a dict and arguments -/
abbrev OD := W → List W → Sto → Out W
def DMR (w0 : World) (K : PySem.W.Frag) (r : V → List V → Hp → VK → Prop) (op : OD) : Prop := ∀ {x : V} {vs : List V} {H : Hp} {Q : VK} {ρ : List Addr} {st st' : Sto} {o w : W} {ws : List W}, HR w0 K H ρ st → Rep K H ρ o x → RepAll K H ρ ws vs → op o ws st = some (.ok w, st') → (∀ v H' ρ', Ext H ρ H' ρ' → HR w0 K H' ρ' st' → Rep K H' ρ' w v → Q v H') → r x vs H Q
def fDM (op : OD) (fo : FE) (fa : FA) : FE := fun env st => bnd (fo env st) fun o st => if (dctOf o st).isSome then bnd (fa env st) fun ws st => op o ws st else none
theorem dctOf_is {w0 : World} {K : PySem.W.Frag} {H : Hp} {ρ : List Addr} {st : Sto} {o : W} {v : V} (hR : HR w0 K H ρ st) (r : Rep K H ρ o v) (h : (dctOf o st).isSome = true) : isDc w0 v H := by
  unfold dctOf at h
  split at h
  · rename_i n
    cases r with
    | @ref _ a hn =>
      split at h
      · rename_i kvs hs
        obtain ⟨ys, vs, e, _⟩ := hR.ob n a _ hn hs
        exact ⟨a, rfl, .inl ⟨ys, e⟩⟩
      · rename_i hs
        exact ⟨a, rfl, .inr (hR.ob n a _ hn hs)⟩
      · cases h
  · cases h
section
variable {X : Cx} {EX : XR} {U : WX} {o e : Expr} {es : List Expr} {apos cpos : Pos}
theorem pd_dm {name : Str} {r : V → List V → Hp → VK → Prop} {op : OD} {fo : FE} {fa : FA} (ho : PD X EX U o fo) (ha : PDA X EX U (e :: es) fa) (hop : DMR X.w X.K r op) (hx : ∀ o ws st, NoX (op o ws st)) (hm : ∀ to ta, PE X o to → PA X (e :: es) ta → PE X (.Call (.Attribute o name apos) (e :: es) [] cpos) (tBMD X.w r to ta)) :
    PD X EX U (.Call (.Attribute o name apos) (e :: es) [] cpos) (fDM op fo fa) := by
  refine (hm _ _ ho ha).imp fun σ H Q h => ?_
  refine (tG_bind (r1 := Rep X.K) (g := fun env o st => if (dctOf o st).isSome then bnd (fa env st) fun ws st => op o ws st else none) h).imp fun x H1 k1 => ?_
  obtain ⟨ρ, env, st, w, r', st', hR, E, rw', e1, p⟩ := k1
  have e1 : (if (dctOf w st).isSome then bnd (fa env st) fun ws st => op w ws st else none) = some (r', st') := e1
  split at e1
  · rename_i hl
    refine ⟨dctOf_is hR rw' hl, ?_⟩
    have k2 : tK X.w X.K EX U (Rep X.K) (Rep X.K) (fun env w st => bnd (fa env st) fun ws st => op w ws st) x σ H1 Q := ⟨ρ, env, st, w, r', st', hR, E, rw', e1, p⟩
    refine (tK_tG (tK_bind (r1 := RepAll X.K) (f := fun env _ st => fa env st) (g := fun env w ws st => op w ws st) mono_rep k2)).imp fun vs H2 k3 => ?_
    obtain ⟨ρ2, env2, st2, ⟨w2, ws2⟩, r2, st2', hR2, E2, ⟨rw2, ry2⟩, e2, p2⟩ := k3
    have e2 : op w2 ws2 st2 = some (r2, st2') := e2
    cases r2 with
    | exc y => exact absurd e2 (hx _ _ _ _ _)
    | ok w3 => exact hop hR2 rw2 ry2 e2 p2
  · cases e1
end
/-! d.get(k), d.get(k, x) -/
def opGet : OD := fun o ws st => match dctOf o st, ws with
  | some kvs, [k] => (match keyW k with
    | some key => ret ((lookW kvs key).getD .non) st
    | none => none)
  | some kvs, [k, x] => (match keyW k with
    | some key => ret ((lookW kvs key).getD x) st
    | none => none)
  | _, _ => none
def rGet (w0 : World) (K : PySem.W.Frag) : V → List V → Hp → VK → Prop := fun x vs H Q => ∃ (ρ : List Addr) (st : Sto) (o k : W) (kvs : List (W × W)) (key : NestedKey) (kv : V), HR w0 K H ρ st ∧ Rep K H ρ o x ∧ Rep K H ρ k kv ∧ dctOf o st = some kvs ∧ keyW k = some key ∧
  ((vs = [kv] ∧ ∀ v, Rep K H ρ ((lookW kvs key).getD .non) v → Q v H) ∨ ∃ d dv, vs = [kv, dv] ∧ Rep K H ρ d dv ∧ ∀ v, Rep K H ρ ((lookW kvs key).getD d) v → Q v H)
theorem dmr_get {w0 : World} {K : PySem.W.Frag} : DMR w0 K (rGet w0 K) opGet := by
  intro x vs H Q ρ st st' o w ws hR ro rs e q
  unfold opGet at e
  split at e
  · rename_i kvs k hd
    split at e
    · rename_i key hk
      cases e
      obtain ⟨kv, rfl, rk⟩ := all1 rs
      exact ⟨ρ, _, o, k, kvs, key, kv, hR, ro, rk, hd, hk, .inl ⟨rfl, fun v r => q v H ρ (Ext.refl _ _) hR r⟩⟩
    · cases e
  · rename_i kvs k d hd
    split at e
    · rename_i key hk
      cases e
      obtain ⟨kv, dv, rfl, rk, rd⟩ := all2 rs
      exact ⟨ρ, _, o, k, kvs, key, kv, hR, ro, rk, hd, hk, .inr ⟨d, dv, rfl, rd, fun v r => q v H ρ (Ext.refl _ _) hR r⟩⟩
    · cases e
  · cases e
theorem nox_get (o : W) (ws : List W) (st : Sto) : NoX (opGet o ws st) := fun x st' e => by
  unfold opGet at e
  split at e
  · split at e <;> cases e
  · split at e <;> cases e
  · cases e
theorem mt_getD {X : Cx} (hu : X.A.units + 65 < cLine) : MtR X "dict.get" (rGet X.w X.K) := by
  intro pins s σ H x vs v us Q I rx rvs h
  obtain ⟨ρ, st, o, k, kvs, key, kv, R, ro, rk, hd, hk, h⟩ := h
  have room : (nestedKind X.prog X.w).room X.A.in1 := by show X.A.units + 1 + 8 < cLine; omega
  rcases h with ⟨rfl, q⟩ | ⟨d, dv, rfl, rd, q⟩
  · obtain ⟨ku, rfl, rku⟩ := vals1 rvs
    obtain ⟨n, da, kb, ys, vs', rfl, hn, rfl, rfl, rfl, rfl, h1, h2, h3, h4, h5, h6, h7, h8, h9⟩ := dk_heap I R ro rk rx rku hd hk
    refine get_keyed (knd := nestedKind X.prog X.w) (kvs := pairsH ys) room h3 h2 ⟨ys, h1, rfl⟩ ?_
    rcases look_val (k := key) h4 h7 h8 with ⟨e1, e2⟩ | ⟨w', v', u', e1, e2, r1, r2⟩
    · rw [e2]; rw [e1] at q; exact ⟨.non, H, I.tok _, rfl, q _ .non⟩
    · rw [e2]; rw [e1] at q; exact ⟨v', H, I.tok _, r2, q _ r1⟩
  · obtain ⟨ku, du, rfl, rku, rdu⟩ := vals2 rvs
    obtain ⟨n, da, kb, ys, vs', rfl, hn, rfl, rfl, rfl, rfl, h1, h2, h3, h4, h5, h6, h7, h8, h9⟩ := dk_heap I R ro rk rx rku hd hk
    refine getOr_keyed (knd := nestedKind X.prog X.w) (kvs := pairsH ys) room h3 h2 ⟨ys, h1, rfl⟩ ?_
    rcases look_val (k := key) h4 h7 h8 with ⟨e1, e2⟩ | ⟨w', v', u', e1, e2, r1, r2⟩
    · rw [e2]; rw [e1] at q; exact ⟨dv, H, I.tok _, rdu, q _ rd⟩
    · rw [e2]; rw [e1] at q; exact ⟨v', H, I.tok _, r2, q _ r1⟩
end DI

namespace DI
open PySem L2 PySem.Spec PyProof.Rows
/-! ### d.setdefault(k, x) -/
def opSdf : OD := fun o ws st => match o, dctOf o st, ws with
  | .ref n, some kvs, [k, x] => (match keyW k with
    | some key => if szW (kvs.length + 1) then (match lookW kvs key with
      | some w => ret w st
      | none => ret x (st.set n (.dct (storeW kvs k key x)))) else none
    | none => none)
  | _, _, _ => none
def rSdf (w0 : World) (K : PySem.W.Frag) : V → List V → Hp → VK → Prop := fun x vs H Q => ∃ (ρ : List Addr) (st st' : Sto) (n : Nat) (k d w : W) (kv dv : V), HR w0 K H ρ st ∧ Rep K H ρ (.ref n) x ∧ Rep K H ρ k kv ∧ Rep K H ρ d dv ∧ vs = [kv, dv] ∧ opSdf (.ref n) [k, d] st = some (.ok w, st') ∧ ∀ v H' ρ', Ext H ρ H' ρ' → HR w0 K H' ρ' st' → Rep K H' ρ' w v → Q v H'
theorem dmr_sdf {w0 : World} {K : PySem.W.Frag} : DMR w0 K (rSdf w0 K) opSdf := by
  intro x vs H Q ρ st st' o w ws hR ro rs e q
  have e0 := e
  unfold opSdf at e
  split at e
  · rename_i n kvs k d hd
    obtain ⟨kv, dv, rfl, rk, rd⟩ := all2 rs
    exact ⟨ρ, st, st', n, k, d, w, kv, dv, hR, ro, rk, rd, rfl, e0, q⟩
  · cases e
theorem nox_sdf (o : W) (ws : List W) (st : Sto) : NoX (opSdf o ws st) := fun x st' e => by
  unfold opSdf at e
  split at e
  · split at e
    · split at e
      · split at e <;> cases e
      · cases e
    · cases e
  · cases e
/-- behind a store -/
theorem stored_inv {X : Cx} {pins : List (Addr × Obj)} {σ : L2.St} {H : Hp} {s : Shared} {ρ : List Addr} {st : Sto} {n : Nat} {da kb : Addr} {kvs : List (W × W)} {ys : List (NestedKey × Addr × Value)} {vs : List V} {iw w : W} {v : V} {u : Value} {k : NestedKey} {h' : Heap} {t' : Nat} (I : Inv X pins σ H s) (R : HR X.w X.K H ρ st) (hn : ρ[n]? = some da) (hk : keyW iw = some k) (r2 : Rep X.K H ρ iw (.ref kb)) (r3 : Rep X.K H ρ w v) (rv : RelV v u)
    (h2 : (da == sysModules) = false) (h4 : kvs.map (fun p => nkW p.1) = ys.map (fun y => some y.1)) (h6 : RepAll X.K H ρ (kvs.map (·.1)) (ys.map fun y => .ref y.2.1)) (h7 : RepAll X.K H ρ (kvs.map (·.2)) vs) (h8 : Vals vs (ys.map fun y => y.2.2)) (h9 : H da = some (DctO X.w da ys) ∨ H da = some (.dK []))
    (hm' : h'.DictOfH (nestedKind X.prog X.w) da (storedH ys k kb u)) (hs' : Heap.SameBut da s.heap h') : ∃ H', Inv X pins σ H' { s with heap := h', toks := t' } ∧ Ext H ρ H' ρ ∧ HR X.w X.K H' ρ (st.set n (.dct (storeW kvs iw k w))) := by
  obtain ⟨nk, dep⟩ := keyW_nk hk
  obtain ⟨o, es, ep, ho, hx, hdt, he, his, hnd⟩ := hm'
  have mu : Mut (H da) := by rcases h9 with z | z <;> rw [z] <;> trivial
  obtain ⟨vs', i1, i2, i3, i4⟩ := store_rel (w := w) nk r2 r3 rv h4 h6 h7 h8
  have dep' : ∀ y ∈ storedH ys k kb u, y.1.depth ≤ 8 := fun y hy => (his y hy).2
  have new : ObjOk X.prog X.w (upd H da (DctO X.w da (storedH ys k kb u))) h' da (DctO X.w da (storedH ys k kb u)) :=
    ⟨⟨h2, o, es, ep, ho, hx, hdt, he, hnd⟩, ⟨o, ho⟩, fun a1 a2 ⟨q1, o', es', ep', q2, q3⟩ k' => ⟨q1, o', es', ep', k' _ q2, q3⟩⟩
  have mem : da ∈ ρ := List.mem_of_getElem? hn
  exact ⟨_, I.write mu (.inl rfl) (fun b ob hb q => (hs'.2 b hb).trans q) ⟨o, ho⟩ new, Ext.mut mem, R.putO hn ⟨storedH ys k kb u, vs', upd_same, i1, dep', i2.mono R (Ext.mut mem), i3.mono R (Ext.mut mem), i4⟩⟩
theorem mt_sdf {X : Cx} (hu : X.A.units + 65 < cLine) : MtR X "dict.setdefault" (rSdf X.w X.K) := by
  intro pins s σ H x vs v us Q I rx rvs h
  obtain ⟨ρ, st, st', n, k, d, w, kv, dv, R, ro, rk, rd, rfl, e, q⟩ := h
  have room : (nestedKind X.prog X.w).room X.A.in1 := by show X.A.units + 1 + 8 < cLine; omega
  obtain ⟨ku, du, rfl, rku, rdu⟩ := vals2 rvs
  unfold opSdf at e
  split at e
  · rename_i n' kvs k' d' e1 hd e2
    cases e1; cases e2
    split at e
    · rename_i key hk
      obtain ⟨n', da, kb, ys, vs', e0, hn, rfl, rfl, rfl, rfl, h1, h2, h3, h4, h5, h6, h7, h8, h9⟩ := dk_heap I R ro rk rx rku hd hk
      cases e0
      obtain ⟨nk, dep⟩ := keyW_nk hk
      have hlen : ys.length = kvs.length := by have := congrArg List.length h4; simpa using this.symm
      have lv := look_val (k := key) h4 h7 h8
      split at e
      · rename_i hz
        have hsz : ys.length ≤ sizeLine := by rw [hlen]; exact Nat.le_trans (Nat.le_succ _) (sz_ok hz)
        refine call_setdefault_heap (knd := nestedKind X.prog X.w) (hsz := hsz) room h3 h2 h1 (fun p hp => ?_) (fun hnone h' hm' hs' => ?_)
        · have e2 : valueAt (pairsH ys) key = some p.2 := by rw [valueAt_pairsH, hp]; rfl
          rcases lv with ⟨_, z⟩ | ⟨w2, v', u', e1, e3, r1, r2⟩
          · rw [e2] at z; cases z
          · rw [e2] at e3; cases e3
            rw [e1] at e; cases e
            exact ⟨v', H, I.tok _, r2, q _ H ρ (Ext.refl _ _) R r1⟩
        · have e2 : valueAt (pairsH ys) key = none := by rw [valueAt_pairsH, hnone]; rfl
          rcases lv with ⟨z, _⟩ | ⟨w2, v', u', e1, e3, r1, r2⟩
          · rw [z] at e; cases e
            obtain ⟨H', I', x1, x2⟩ := stored_inv (t' := s.toks + key.draws) I R hn hk rk rd rdu h2 h4 h6 h7 h8 h9 hm' hs'
            exact ⟨dv, H', I', rdu, q _ H' ρ x1 x2 (rd.mono R x1)⟩
          · rw [e2] at e3; cases e3
      · cases e
    · cases e
  · cases e
end DI

namespace DI
open PySem L2 PySem.Spec PyProof.Rows
def xm0B (K : PySem.W.Frag) (c : Str) (bm : List Value) (newId : String) : Bool := PySem.W.excIn K (cA K c) bm newId && (PySem.W.keepIn K (.ref (cA K c)) && (decide (PySem.W.subIn K (.ref (cA K c)) (.type "BaseException") = some true) && decide (PySem.W.typeIn K (.ref (cA K c)) = some (.type "type"))))
theorem xm0_of {K : PySem.W.Frag} {mg : Str → Option Value} {c : Str} {bm : List Value} {B newId initId : String} (F : ExcBaseFacts B newId initId bm) (g : mg c = some (.ref (cA K c))) (h : xm0B K c bm newId = true) : XM0 K mg c := by
  unfold xm0B at h
  simp only [Bool.and_eq_true, decide_eq_true_eq] at h
  exact ⟨⟨B, newId, initId, bm, F, h.1⟩, g, h.2.1, h.2.2.1, h.2.2.2⟩
abbrev bmV : List Value := [.type "ValueError", .type "Exception", .type "BaseException", .type "object"]
abbrev bmL : List Value := [.type "LookupError", .type "Exception", .type "BaseException", .type "object"]
end DI

namespace DI
open PySem L2 PySem.Spec PyProof.Rows
section
variable {X : Cx} {EX : XR} {U : WX} {pos : Pos}
/-! ### a, b = e1, e2 -/
def set2 (i j : Nat) (env : Evn) (ws : List W) (st : Sto) : OutS := match ws with
  | [a, b] => some (.nx, (env.set i (some a)).set j (some b), st)
  | _ => none
def fPar (i j : Nat) (fa : FA) : FS := fun env st => bS (fa env st) env fun ws st => set2 i j env ws st
theorem set2_some {i j : Nat} {env : Evn} {ws : List W} {st : Sto} {o : Fl × Evn × Sto} (h : set2 i j env ws st = some o) : ∃ a b, ws = [a, b] ∧ o = (.nx, (env.set i (some a)).set j (some b), st) := by
  unfold set2 at h
  split at h
  · cases h; exact ⟨_, _, rfl, rfl⟩
  · cases h
theorem pds_par {i j : Nat} {x y : Str} {a b : Expr} {px py pt pt2 : Pos} {kt k2 : Nat} {fa : FA} (hc : X.calm = true) (hN : X.N.Nodup) (hi : X.N[i]? = some x) (hj : X.N[j]? = some y) (hij : i ≠ j) (hx : X.env.scope.names.lookup x = some .local) (hy : X.env.scope.names.lookup y = some .local) (ha : PDA X EX U [a, b] fa)
    (hw : swappedStores [.Tuple [.Name x px, .Name y py] kt pt] (.Tuple [a, b] k2 pt2) X.env = pure (some [x, y]) := by rfl) :
    PDS X EX U (.Assign [.Tuple [.Name x px, .Name y py] kt pt] (.Tuple [a, b] k2 pt2) pos) (fPar i j fa) := by
  refine (ps_par hc hN hi hj hij hx hy ha hw).imp fun D σ H h => ?_
  refine (tS_bind (r1 := RepAll X.K) (g := fun env ws st => set2 i j env ws st) h).imp fun vs H1 k1 => ?_
  obtain ⟨ρ, env, st, ws, fl, env', st', hR, E, rw', e, p⟩ := k1
  obtain ⟨a, b, rfl, e⟩ := set2_some e
  cases e
  obtain ⟨v, w, rfl, r1, r2⟩ := all2 rw'
  exact ⟨v, w, rfl, p _ H1 ρ (Ext.refl _ _) hR ((E.set r1 i).set r2 j)⟩
/-! ### a, b = e, e a tuple -/
def fUnp (i j : Nat) (f : FE) : FS := fun env st => bS (f env st) env fun w st => match w with
  | .tup ws => set2 i j env ws st
  | _ => none
end
end DI

namespace DI
open PySem L2 PySem.Spec PyProof.Rows
/-! ### sorted -/
def insO {α : Type} (le : α → α → Bool) (a : α) : List α → List α
  | [] => [a]
  | b :: t => if le a b then a :: b :: t else b :: insO le a t
def isort {α : Type} (le : α → α → Bool) : List α → List α
  | [] => []
  | a :: l => insO le a (isort le l)
section
variable {α : Type} {le : α → α → Bool}
theorem insO_mid (a : α) : ∀ (l₁ l₂ : List α), (∀ b ∈ l₁, (!le a b) = true) → (∀ b ∈ l₂, le a b = true) → insO le a (l₁ ++ l₂) = l₁ ++ a :: l₂
  | [], [], _, _ => rfl
  | [], b :: l₂, _, h => by show (if le a b then _ else _) = _; rw [if_pos (h b List.mem_cons_self)]; rfl
  | b :: l₁, l₂, h1, h2 => by
    have hb : le a b = false := by simpa using h1 b List.mem_cons_self
    show (if le a b then _ else _) = _
    rw [hb]
    show b :: insO le a (l₁ ++ l₂) = _
    rw [insO_mid a l₁ l₂ (fun c hc => h1 c (List.mem_cons_of_mem _ hc)) h2]; rfl
theorem isort_eq (tr : ∀ a b c : α, le a b = true → le b c = true → le a c = true) (to : ∀ a b : α, (le a b || le b a) = true) : ∀ l : List α, l.mergeSort le = isort le l
  | [] => by simp [isort]
  | a :: l => by
    obtain ⟨l₁, l₂, e1, e2, h1⟩ := List.mergeSort_cons tr to a l
    have pw := List.pairwise_mergeSort tr to (a :: l)
    rw [e1] at pw ⊢
    have h2 : ∀ b ∈ l₂, le a b = true := (List.pairwise_cons.mp (List.pairwise_append.mp pw).2.1).1
    show _ = insO le a (isort le l)
    rw [← isort_eq tr to l, e2, insO_mid a l₁ l₂ h1 h2]
theorem isort_perm : ∀ l : List α, (isort le l).Perm l
  | [] => .nil
  | a :: l => by
    have key : ∀ m : List α, (insO le a m).Perm (a :: m) := fun m => by
      induction m with
      | nil => exact .refl _
      | cons b t ih =>
        show (if le a b then a :: b :: t else b :: insO le a t).Perm _
        split
        · exact .refl _
        · exact (ih.cons b).trans (.swap a b t)
    exact (key _).trans ((isort_perm l).cons a)
end
abbrev leW (p q : W × PyData) : Bool := !PySem.W.dataLt q.2 p.2
theorem dlt_tr {a b c : PyData} (h1 : PySem.W.dataLt a b = false) (h2 : PySem.W.dataLt b c = false) : PySem.W.dataLt a c = false := by
  unfold PySem.W.dataLt at *
  cases q : PyProof.Rows.lexLt PyProof.Rows.itemOrd (PySem.W.keyToks a) (PySem.W.keyToks c) with
  | false => rfl
  | true =>
    cases r : PyProof.Rows.lexLt PyProof.Rows.itemOrd (PySem.W.keyToks c) (PySem.W.keyToks b) with
    | true => have := PyProof.Rows.lex_trans _ _ _ q r; rw [h1] at this; cases this
    | false =>
      have e := PyProof.Rows.lex_total _ _ h2 r
      rw [e, q] at h1; cases h1
theorem leW_tr (a b c : W × PyData) (h1 : leW a b = true) (h2 : leW b c = true) : leW a c = true := by
  have h1 : PySem.W.dataLt b.2 a.2 = false := by simpa [leW] using h1
  have h2 : PySem.W.dataLt c.2 b.2 = false := by simpa [leW] using h2
  show (!PySem.W.dataLt c.2 a.2) = true
  rw [dlt_tr h2 h1]; rfl
theorem leW_to (a b : W × PyData) : (leW a b || leW b a) = true := by
  show ((!PySem.W.dataLt b.2 a.2) || (!PySem.W.dataLt a.2 b.2)) = true
  cases q : PySem.W.dataLt b.2 a.2 with
  | false => rfl
  | true =>
    cases r : PySem.W.dataLt a.2 b.2 with
    | false => rfl
    | true =>
      have := PyProof.Rows.lex_trans (O := PyProof.Rows.itemOrd) _ _ _ q r
      rw [PyProof.Rows.lex_irrefl] at this; cases this
def isTup1 : PyData → Bool
  | .tuple (_ :: _) => true
  | _ => false
def noTup : PyData → Bool
  | .tuple _ => false
  | .none => false
  | _ => true
def sortOk (ds : List PyData) : Bool := ((ds.all fun d => ds.all fun e => PySem.W.alike d e) && (ds.all isTup1 || ds.all noTup)) && ds.all fun d => decide (d.depth ≤ 20)
theorem sortOk_ok {ds : List PyData} (h : sortOk ds = true) : PySem.W.AllAlike ds ∧ PySem.W.Sortable ds ∧ ∀ d ∈ ds, d.depth ≤ 20 := by
  unfold sortOk at h
  simp only [Bool.and_eq_true, Bool.or_eq_true, List.all_eq_true, decide_eq_true_eq] at h
  obtain ⟨⟨h1, h2⟩, h3⟩ := h
  refine ⟨fun d hd e he => h1 d hd e he, ?_, h3⟩
  rcases h2 with h2 | h2
  · refine .inl fun d hd => ?_
    have := h2 d hd
    unfold isTup1 at this
    split at this
    · exact ⟨_, _, rfl⟩
    · cases this
  · refine .inr fun d hd => ?_
    have := h2 d hd
    unfold noTup at this
    split at this
    · cases this
    · cases this
    · rename_i n1 n2; exact ⟨fun z => n2 z, fun xs z => n1 xs z⟩
/-- what a list or a dict holds -/
def elsOf (w : W) (st : Sto) : Option (List W) := match w with
  | .ils ws => some ws
  | .ref k => (match st[k]? with
    | some (.lst ws) => some ws
    | some .emp => some []
    | some (.dct kvs) => some (kvs.map (·.1))
    | _ => none)
  | _ => none
def opSorted : OC := fun ws st => match ws with
  | [w] => (match elsOf w st with
    | some es => (match allD (toD st 22) es with
      | some ds => if sortOk ds && szW es.length then some (.ok (.ref st.length), st ++ [.lst ((isort leW (es.zip ds)).map (·.1))]) else none
      | none => none)
    | none => none)
  | _ => none
mutual
theorem reads_lt {h : Heap} : ∀ {v : Value} {d : PyData} {as : List Addr}, Reads h v d as → ∀ a ∈ as, a < h.objs.size
  | _, _, _, .none, a, m => by cases m
  | _, _, _, .bool _, a, m => by cases m
  | _, _, _, .int _ _, a, m => by cases m
  | _, _, _, .str _ _, a, m => by cases m
  | _, _, _, .list h1 _ _ h4, a, m => by
    rcases List.mem_cons.mp m with rfl | m
    · exact Heap.lt_size h1
    · exact readsAll_lt h4 a m
  | _, _, _, .tuple _ _ _ h4, a, m => readsAll_lt h4 a m
  | _, _, _, .dict h1 _ _ h4 h5, a, m => by
    rcases List.mem_append.mp m with m | m
    · rcases List.mem_cons.mp m with rfl | m
      · exact Heap.lt_size h1
      · exact readsAll_lt h4 a m
    · exact readsAll_lt h5 a m
theorem readsAll_lt {h : Heap} : ∀ {vs : List Value} {ds : List PyData} {as : List Addr}, ReadsAll h vs ds as → ∀ a ∈ as, a < h.objs.size
  | _, _, _, .nil, a, m => by cases m
  | _, _, _, .cons h1 h2, a, m => by
    rcases List.mem_append.mp m with m | m
    · exact reads_lt h1 a m
    · exact readsAll_lt h2 a m
end
/-- items and what they stand for -/
theorem each_of {X : Cx} {pins : List (Addr × Obj)} {σ : L2.St} {H : Hp} {s : Shared} {ρ : List Addr} {st : Sto} {n : Nat} (I : Inv X pins σ H s) (R : HR X.w X.K H ρ st) : ∀ {es : List W} {xs : List V} {us : List Value} {ds : List PyData}, RepAll X.K H ρ es xs → Vals xs us → allD (toD st n) es = some ds →
    PySem.W.EachIs (fun v (b : W × PyData) => (∃ x, RelV x v ∧ Rep X.K H ρ b.1 x) ∧ ∃ as, Reads s.heap v b.2 as) us (es.zip ds)
  | [], _, _, _, .nil, .nil, e => by cases e; exact .nil
  | w :: es, _, _, ds, .cons r1 r2, .cons v1 v2, e => by
    unfold allD at e
    split at e
    · rename_i d ds' e1 e2
      cases e
      obtain ⟨as, rd, _⟩ := reads_of I R _ _ _ _ _ r1 v1 e1
      exact .cons ⟨⟨_, v1, r1⟩, as, rd⟩ (each_of I R r2 v2 e2)
    · cases e
theorem each_vals {K : PySem.W.Frag} {H : Hp} {ρ : List Addr} : ∀ {out : List Value} {bs : List (W × PyData)}, PySem.W.EachIs (fun v (b : W × PyData) => ∃ x, RelV x v ∧ Rep K H ρ b.1 x) out bs → ∃ ys, Vals ys out ∧ RepAll K H ρ (bs.map (·.1)) ys
  | _, _, .nil => ⟨[], .nil, .nil⟩
  | _, _, .cons h t => by
    obtain ⟨x, h1, h2⟩ := h
    obtain ⟨ys, h3, h4⟩ := each_vals t
    exact ⟨x :: ys, .cons h1 h3, .cons h2 h4⟩
theorem zip_snd_len {es : List W} {ds : List PyData} (h : es.length = ds.length) : (es.zip ds).map (·.2) = ds := List.map_snd_zip (Nat.le_of_eq h.symm)
def rSortD (w0 : World) (K : PySem.W.Frag) : List V → Hp → VK → Prop := fun vs H Q => ∃ (x : V) (ρ : List Addr) (st : Sto) (w : W) (es : List W) (ds : List PyData), vs = [x] ∧ HR w0 K H ρ st ∧ Rep K H ρ w x ∧ elsOf w st = some es ∧ allD (toD st 22) es = some ds ∧ sortOk ds = true ∧ szW es.length = true ∧
  ∀ ys p, RepAll K H ρ ((isort leW (es.zip ds)).map (·.1)) ys → H p = none → Q (.ref p) (upd H p (.lst ys))
section
variable {X : Cx}
/-- the end: a new list -/
theorem sort_end {pins : List (Addr × Obj)} {σ : L2.St} {H : Hp} {s s' : Shared} {ρ : List Addr} {bs : List (W × PyData)} {out : List Value} {p : Addr} {Q : VK} {n : Nat} (I : Inv X pins σ H s) (hk : ∀ b o, s.heap.get? b = some o → s'.heap.get? b = some o) (es : s' = { s with heap := s'.heap, toks := s'.toks }) (hp : s.heap.objs.size ≤ p)
    (ho : s'.heap.get? p = some (seqObj "list" out.toArray n)) (hz : bs.length ≤ sizeLine) (e : PySem.W.EachIs (fun v (b : W × PyData) => ∃ x, RelV x v ∧ Rep X.K H ρ b.1 x) out (bs.mergeSort (PySem.W.dataLe false (·.2))))
    (q : ∀ ys p, RepAll X.K H ρ ((isort leW bs).map (·.1)) ys → H p = none → Q (.ref p) (upd H p (.lst ys))) : EP X pins σ Q (.ref p) s' := by
  have em : bs.mergeSort (PySem.W.dataLe false (·.2)) = isort leW bs := isort_eq leW_tr leW_to bs
  rw [em] at e
  obtain ⟨ys, h1, h2⟩ := each_vals e
  have hl : ys.length ≤ sizeLine := by
    have := h2.length
    rw [List.length_map, (isort_perm bs).length_eq] at this
    omega
  refine ⟨.ref p, upd H p (.lst ys), ?_, rfl, q ys p h2 (I.hok.fresh hp)⟩
  rw [es]
  exact I.laid hk hp ⟨hl, out, n, h1, ho⟩
theorem call_sort (hc : X.calm = true) (hu : X.A.units + 64 < cLine) : CallR X (.builtin "sorted") (rSortD X.w X.K) := by
  intro pins s σ H xs us Q I r h
  obtain ⟨x, ρ, st, w, es, ds, rfl, hR, rw', he, hd, hok, hz, q⟩ := h
  obtain ⟨hal, hsb, hdp⟩ := sortOk_ok hok
  have hlen : es.length = ds.length := allD_len hd
  have hzL : (es.zip ds).length ≤ sizeLine := by rw [List.length_zip, ← hlen, Nat.min_self]; exact sz_ok hz
  have em : (es.zip ds).map (fun b : W × PyData => b.2) = ds := zip_snd_len hlen
  have hu' : ∀ b ∈ es.zip ds, X.A.units + 2 + (b : W × PyData).2.depth < cLine := fun b hb => by
    have : b.2 ∈ ds := by rw [← em]; exact List.mem_map.mpr ⟨b, hb, rfl⟩
    have := hdp _ this
    omega
  obtain ⟨u, rfl, ru⟩ := vals1 r
  have lst : ∀ (a : Addr) (ys : List V), SqL X.K H a ys → u = .ref a → RepAll X.K H ρ es ys → wpAny (model X.prog X.w) X.A (call (.builtin "sorted") [u]) (EP X pins σ Q) X.xe s := fun a ys h1 eu h2 => by
    subst eu
    obtain ⟨its, rv, p', _⟩ := I.list h1
    have ea := each_of I hR h2 rv hd
    refine PySem.W.sorted_data (R := fun v (b : W × PyData) => ∃ x, RelV x v ∧ Rep X.K H ρ b.1 x) (enc := fun b : W × PyData => b.2) (bs := es.zip ds) (vs := its) p'.isList (ea.mono fun _ _ z => z.1) (ea.mono fun _ _ z => z.2) (by rw [em]; exact hal) (by rw [em]; exact hsb) hzL hu' fun out hl e => ?_
    obtain ⟨n, hn⟩ := PyProof.Rows.sortedAll_at s.heap its out.toArray
    exact sort_end (s' := { s with heap := PyProof.Rows.sortedAll s.heap its out.toArray }) I (fun b o z => PyProof.Rows.sortedAll_old z) rfl (Nat.le_succ _) hn hzL e q
  have dct : ∀ (a : Addr) (zs : List (NestedKey × Addr × Value)), s.heap.DictOfH (nestedKind X.prog X.w) a zs → (a == sysModules) = false → u = .ref a → RepAll X.K H ρ es (zs.map fun y => V.ref y.2.1) → wpAny (model X.prog X.w) X.A (call (.builtin "sorted") [u]) (EP X pins σ Q) X.xe s := fun a zs h1 hsm eu h2 => by
    subst eu
    obtain ⟨o, ents, ep, ho, hx, hdt, hes, his, hnd⟩ := h1
    have raw : s.heap.DictRaw a ents ep := ⟨o, ho, hx, hdt⟩
    have hsz : ents.size = es.length := by
      have e1 : ents.toList.length = zs.length := by rw [hes, List.length_map]
      rw [Array.length_toList] at e1
      have e2 := h2.length
      rw [List.length_map] at e2
      omega
    refine Calls.call_function_entry PyProof.Rows.kind_sorted PyProof.Rows.plain_sorted PyProof.Rows.entry_sorted (PyProof.Rows.args_sorted1 _) ?_
    unfold Builtin.«sorted»
    refine wpAny_bind (m := checkCount "sorted" 1 1 _) (wpAny_pure ?_)
    refine wpAny_bind (PySem.W.kdu_collect (A := X.A.in1) (PySem.KdlSrc.rawDict (es := ents) (ep := ep) hsm) (I.ok.hd hc) raw (by rw [hsz]; exact sz_ok hz) fun h' tk acc hk hacc => ?_)
    have hacl : acc.toList = zs.map fun y => Value.ref y.2.1 := by
      apply List.ext_getElem?
      intro j
      have e2 : ents.toList.map (fun e : DictEntry => e.key) = zs.map fun y => Value.ref y.2.1 := by rw [hes, List.map_map]; rfl
      rw [← e2, List.getElem?_map]
      cases q1 : acc.toList[j]? with
      | none =>
        have l1 : acc.size ≤ j := by rw [List.getElem?_eq_none_iff, Array.length_toList] at q1; exact q1
        rw [hacc.1] at l1
        rw [List.getElem?_eq_none_iff.mpr (by rw [Array.length_toList]; exact l1)]; rfl
      | some v =>
        obtain ⟨hi, rfl⟩ := hacc.2 j v (by rw [← Array.getElem?_toList]; exact q1)
        rw [Array.getElem?_toList, Array.getElem?_eq_getElem hi]; rfl
    have I1 : Inv X pins σ H { s with heap := h', toks := tk } := I.kept hk
    have ea := each_of I1 hR h2 (vals_refs zs) hd
    rw [← hacl] at ea
    have hal' : acc.toList.length ≤ sizeLine := by rw [ea.length]; exact hzL
    refine wpAny_bind (wpAny_newList ?_ hal')
    have hoL : (h'.push (seqObj "list" acc.toList.toArray 0)).get? h'.objs.size = some (seqObj "list" acc.toList.toArray 0) := Heap.get?_push_size _ rfl
    show wpAny _ _ _ _ _ { s with heap := h'.push (seqObj "list" acc.toList.toArray 0), toks := tk }
    have er : PySem.W.EachIs (fun v (b : W × PyData) => ∃ as, Reads (h'.push (seqObj "list" acc.toList.toArray 0)) v b.2 as ∧ h'.objs.size ∉ as) acc.toList (es.zip ds) := ea.mono fun v b z => by
      obtain ⟨as, rd⟩ := z.2
      exact ⟨as, PyProof.Rows.Reads.keeps (fun _ _ z => Heap.get?_push_of_some _ z) rd, fun m => Nat.lt_irrefl _ (reads_lt rd _ m)⟩
    refine wpAny_bind (wpAny_holding (PySem.W.list_sort_data (R := fun v (b : W × PyData) => ∃ x, RelV x v ∧ Rep X.K H ρ b.1 x) (enc := fun b : W × PyData => b.2) (s := { s with heap := h'.push (seqObj "list" acc.toList.toArray 0), toks := tk }) hoL (ea.mono fun _ _ z => z.1) er (by rw [em]; exact hal) (by rw [em]; exact hsb) hzL (fun b hb => by have := hu' b hb; show X.A.units + 1 + 1 + b.2.depth < cLine; omega) fun out hl e => ?_))
    obtain ⟨n, hn⟩ := PyProof.Rows.sortedHeap_at (vs := acc.toList) (out := out.toArray) hoL
    refine wpAny_pure ⟨_, rfl, ?_⟩
    refine sort_end (s := { s with heap := h', toks := tk }) (s' := { s with heap := PyProof.Rows.sortedHeap (h'.push (seqObj "list" acc.toList.toArray 0)) h'.objs.size acc.toList out.toArray, toks := tk }) I1 (fun b o z => ?_) rfl (Nat.le_refl _) hn hzL e q
    have hb : b < h'.objs.size := Heap.lt_size z
    show (PyProof.Rows.sortedHeap _ _ _ _).get? b = some o
    rw [PyProof.Rows.sortedHeap_old (Nat.ne_of_lt hb) (by rw [size_push']; exact Nat.lt_succ_of_lt hb)]
    exact Heap.get?_push_of_some _ z
  unfold elsOf at he
  split at he
  · cases he
    cases rw' with
    | ils h1 h2 => exact lst _ _ h1.sq ru h2
  · rename_i k
    cases rw' with
    | @ref _ a hk =>
      split at he
      · rename_i ws hw
        cases he
        obtain ⟨xs, e1, e2⟩ := hR.ob k a _ hk hw
        exact lst a xs (.inl (.inl e1)) ru e2
      · rename_i hw
        cases he
        obtain ⟨h1, h2, h3⟩ := emp_heap I hR hk hw
        exact dct a [] h1 h2 ru .nil
      · rename_i kvs hw
        cases he
        obtain ⟨zs, vs, h1, h2, h3, h4, h5, h6, _⟩ := dct_heap I hR hk hw
        exact dct a zs h1 h2 ru h6
      · cases he
  · cases he
end
theorem clr_sorted {w0 : World} {K : PySem.W.Frag} : CLR w0 K (rSortD w0 K) opSorted := by
  intro vs H Q ρ st st' ws w hR rs e p
  unfold opSorted at e
  split at e
  · rename_i w'
    split at e
    · rename_i es he
      split at e
      · rename_i ds hd
        split at e
        · rename_i hz
          rw [Bool.and_eq_true] at hz
          cases e
          obtain ⟨x, rfl, rx⟩ := all1 rs
          refine ⟨x, ρ, st, w', es, ds, rfl, hR, rx, he, hd, hz.1, hz.2, fun ys q hy hq => ?_⟩
          refine p _ _ (ρ ++ [q]) (Ext.alloc hq) (hR.lst hq hy) (.ref ?_)
          rw [← hR.len]; simp
        · cases e
      · cases e
    · cases e
  · cases e
theorem nox_sorted (ws : List W) (st : Sto) : NoX (opSorted ws st) := fun x st' e => by
  unfold opSorted at e
  split at e
  · split at e
    · split at e
      · split at e <;> cases e
      · cases e
    · cases e
  · cases e
end DI

namespace DI
open PySem L2 PySem.Spec PyProof.Rows
/-! ### targets -/
abbrev Tg := W → Evn → Option Evn
abbrev Tgs := List W → Evn → Option Evn
def tgN (j : Nat) : Tg := fun w env => some (env.set j (some w))
def tg0 : Tgs := fun ws env => match ws with
  | [] => some env
  | _ => none
def tgC (t : Tg) (u : Tgs) : Tgs := fun ws env => match ws with
  | w :: r => (match t w env with
    | some env' => u r env'
    | none => none)
  | [] => none
def tgT (n : Nat) (u : Tgs) : Tg := fun w env => match w with
  | .tup ws => if ws.length = n then u ws env else none
  | _ => none
/-- a target's reading does what t says, and writes the variables of js alone -/
def TgR (K : PySem.W.Frag) (js : List Nat) (g : TG) (t : Tg) : Prop := ∀ {H : Hp} {ρ : List Addr} {env env' : Evn} {σ : L2.St} {w : W} {x : V} {Q : L2.St → Hp → Prop}, EnvR K H ρ env σ → Rep K H ρ w x → t w env = some env' → (∀ σ', EnvR K H ρ env' σ' → wipe σ' js = wipe σ js → Q σ' H) → g x σ H Q
def TgsR (K : PySem.W.Frag) (js : List Nat) (g : TGs) (t : Tgs) : Prop := ∀ {H : Hp} {ρ : List Addr} {env env' : Evn} {σ : L2.St} {ws : List W} {xs : List V} {Q : L2.St → Hp → Prop}, EnvR K H ρ env σ → RepAll K H ρ ws xs → t ws env = some env' → (∀ σ', EnvR K H ρ env' σ' → wipe σ' js = wipe σ js → Q σ' H) → g xs σ H Q
theorem wipe_in {σ : L2.St} {j : Nat} {o : Option V} : ∀ {js : List Nat}, j ∈ js → wipe (σ.set j o) js = wipe σ js
  | [], h => by cases h
  | k :: js, h => by
    show (wipe (σ.set j o) js).set k none = (wipe σ js).set k none
    by_cases e : j ∈ js
    · rw [wipe_in e]
    · have jk : j = k := by
        rcases List.mem_cons.mp h with z | z
        · exact z
        · exact absurd z e
      subst jk
      apply List.ext_getElem?
      intro i
      by_cases q : j = i
      · subst q
        by_cases l : j < σ.length
        · rw [List.getElem?_set_self (by rw [wipe_length]; simpa using l), List.getElem?_set_self (by rw [wipe_length]; exact l)]
        · rw [List.getElem?_eq_none (by rw [List.length_set, wipe_length]; simp; omega), List.getElem?_eq_none (by rw [List.length_set, wipe_length]; omega)]
      · rw [List.getElem?_set_ne q, List.getElem?_set_ne q]
        by_cases z : i ∈ js
        · have key : ∀ τ : L2.St, τ.length = σ.length → (wipe τ js)[i]? = if i < σ.length then some none else none := fun τ ht => by
            by_cases l : i < σ.length
            · rw [if_pos l]
              have hl : i < (wipe τ js).length := by rw [wipe_length, ht]; exact l
              rw [List.getElem?_eq_getElem hl]
              cases y : (wipe τ js)[i] with
              | none => rfl
              | some v =>
                have := wipe_some (σ := τ) (i := i) (x := v) (vs := js) (by rw [List.getElem?_eq_getElem hl, y])
                exact absurd z this.2
            · rw [if_neg l, List.getElem?_eq_none (by rw [wipe_length, ht]; omega)]
          rw [key _ (by simp), key _ rfl]
        · rw [wipe_out z, wipe_out z, List.getElem?_set_ne q]
theorem tgr_name {K : PySem.W.Frag} {js : List Nat} {j : Nat} (hj : j ∈ js) : TgR K js (gName j) (tgN j) := by
  intro H ρ env env' σ w x Q E r e q
  cases e
  exact q _ (E.set r j) (wipe_in hj)
theorem tgsr_nil {K : PySem.W.Frag} {js : List Nat} : TgsR K js gNil tg0 := by
  intro H ρ env env' σ ws xs Q E r e q
  unfold tg0 at e
  split at e
  · cases e; cases r; exact ⟨rfl, q _ E rfl⟩
  · cases e
theorem tgsr_cons {K : PySem.W.Frag} {js : List Nat} {g : TG} {gs : TGs} {t : Tg} {u : Tgs} (h : TgR K js g t) (hs : TgsR K js gs u) : TgsR K js (gCons g gs) (tgC t u) := by
  intro H ρ env env' σ ws xs Q E r e q
  unfold tgC at e
  split at e
  · split at e
    · rename_i w r' env1 e1
      cases r with
      | cons r1 r2 => exact ⟨_, _, rfl, h E r1 e1 fun σ1 E1 k1 => hs E1 r2 e fun σ2 E2 k2 => q σ2 E2 (k2.trans k1)⟩
    · cases e
  · cases e
theorem tgr_tup {K : PySem.W.Frag} {js : List Nat} {n : Nat} {gs : TGs} {u : Tgs} (h : TgsR K js gs u) : TgR K js (gTup K n gs) (tgT n u) := by
  intro H ρ env env' σ w x Q E r e q
  unfold tgT at e
  split at e
  · split at e
    · rename_i ws hn
      cases r with
      | tup h1 h2 => exact ⟨_, _, rfl, h1, by rw [← h2.length]; exact hn, h E h2 e q⟩
    · cases e
  · cases e
/-! ### what is walked -/
def ItG (w0 : World) (K : PySem.W.Frag) (J : It) (G : Gt) (H0 : Hp) (ρ0 : List Addr) : Prop := ∀ (H : Hp) (ρ : List Addr) (st : Sto) (i : Nat), Ext H0 ρ0 H ρ → HR w0 K H ρ st →
  (G st i = some none → J.stop i H) ∧ ∀ w, G st i = some (some w) → J.go i H ∧ ∀ x H', J.yld i H x H' → Ext H ρ H' ρ ∧ HR w0 K H' ρ st ∧ Rep K H' ρ w x
theorem itg_of {w0 : World} {K : PySem.W.Frag} {J : It} {G : Gt} {H0 : Hp} {ρ0 : List Addr} (h : ItR w0 K J G H0 ρ0) : ItG w0 K J G H0 ρ0 := fun H ρ st i e R => by
  obtain ⟨a, b⟩ := h H ρ st i e R
  refine ⟨a, fun w q => ⟨(b w q).1, fun x H' y => ?_⟩⟩
  obtain ⟨rfl, r⟩ := (b w q).2 x H' y
  exact ⟨Ext.refl _ _, R, r⟩
def enG (G : Gt) : Gt := fun st i => match G st i with
  | none => none
  | some none => some none
  | some (some w) => some (some (.tup [.int (i : Nat), w]))
theorem itg_en {w0 : World} {K : PySem.W.Frag} {J : It} {G : Gt} {H0 : Hp} {ρ0 : List Addr} (h : ItR2 w0 K J G H0 ρ0) : ItG w0 K J (enG G) H0 ρ0 := fun H ρ st i e R => by
  obtain ⟨a, b⟩ := h H ρ st i e R
  unfold enG
  refine ⟨fun q => ?_, fun w q => ?_⟩
  · split at q
    · cases q
    · rename_i hg; exact a hg
    · cases q
  · split at q
    · cases q
    · cases q
    · rename_i w0' hg
      cases q
      refine ⟨(b _ hg).1, fun x H' y => ?_⟩
      obtain ⟨T, v, rfl, hT, rfl, r⟩ := (b _ hg).2 x H' y
      exact ⟨Ext.tup hT, R.tup hT, .tup (SqT.of upd_same) (.cons (.int _) (.cons (r.mono R (Ext.tup hT)) .nil))⟩
/-- an iterator: what it yields, and how often at most -/
abbrev FI := Evn → Sto → Out (Gt × Nat)
def rI (w0 : World) (K : PySem.W.Frag) : Rl (Gt × Nat) It := fun H ρ g J => ItG w0 K J g.1 H ρ
abbrev PDI (X : Cx) (EX : XR) (U : WX) (tg it : Expr) (f : FI) : Prop := PI X tg it (tG X.w X.K EX U (rI X.w X.K) f)
theorem _root_.L2.PI.imp {X : Cx} {tg it : Expr} {w1 w2 : TI} (h : PI X tg it w1) (w : ∀ σ H R, w2 σ H R → w1 σ H R) : PI X tg it w2 := ⟨fun pins s σ H R I q => h.run pins s σ H R I (w σ H R q)⟩
def fiV (f : FE) : FI := fun env st => bnd (f env st) fun w st => match cnt w st with
  | some n => ret (gOf w, n) st
  | none => none
def enOf (w : W) (st : Sto) : Out (Gt × Nat) := match w with
  | .str _ | .ils _ => none
  | _ => (match cnt w st with
    | some n => ret (enG (gOf w), n) st
    | none => none)
def fiE (f : FE) : FI := fun env st => bnd (f env st) enOf
section
variable {X : Cx} {EX : XR} {U : WX} {tg it : Expr} {pos tpos : Pos} {body : List Stmt}
theorem pdi_val {f : FE} (hi : PD X EX U it f) : PDI X EX U tg it (fiV f) := by
  refine ((pi_list hi).or ((pi_tup hi).or (pi_str hi))).imp fun σ H R h => ?_
  obtain ⟨ρ, env, st, r, st', hR, E, e, p⟩ := h
  have e : bnd (f env st) (fun w st => match cnt w st with | some n => ret (gOf w, n) st | none => none) = some (r, st') := e
  cases q : f env st with
  | none => rw [q] at e; cases e
  | some o =>
    obtain ⟨ro, s1⟩ := o
    rw [q] at e
    cases ro with
    | exc x => cases e; exact .inl ⟨ρ, env, st, .exc x, st', hR, E, q, p⟩
    | ok w =>
      have e : (match cnt w s1 with | some n => ret (gOf w, n) s1 | none => none) = some (r, st') := e
      split at e
      · rename_i n hn
        cases e
        cases w with
        | ref k =>
          refine .inl ⟨ρ, env, st, .ok (.ref k), _, hR, E, q, fun x H1 ρ1 e1 R1 rx => ?_⟩
          cases rx with
          | @ref _ a hk => exact ⟨a, rfl, cnt_ref R1 hk hn, p _ H1 ρ1 e1 R1 (itg_of (itr_lst hk))⟩
        | tup ws =>
          refine .inr (.inl ⟨ρ, env, st, .ok (.tup ws), _, hR, E, q, fun x H1 ρ1 e1 R1 rx => ?_⟩)
          cases rx with
          | @tup a xs _ h1 h2 => exact ⟨a, rfl, ⟨xs, h1⟩, p _ H1 ρ1 e1 R1 (itg_of (itr_tup R1 h1 h2))⟩
        | ils ws =>
          refine .inl ⟨ρ, env, st, .ok (.ils ws), _, hR, E, q, fun x H1 ρ1 e1 R1 rx => ?_⟩
          cases rx with
          | @ils a xs _ h1 h2 => exact ⟨a, rfl, ⟨xs, h1.sq⟩, p _ H1 ρ1 e1 R1 (itg_of (itr_ils R1 h1 h2))⟩
        | str z =>
          refine .inr (.inr ⟨ρ, env, st, .ok (.str z), _, hR, E, q, fun x H1 ρ1 e1 R1 rx => ?_⟩)
          cases rx with
          | str _ => exact ⟨z, rfl, p _ H1 ρ1 e1 R1 (itg_of itr_str)⟩
        | non => cases hn
        | bl b => cases hn
        | int i => cases hn
        | adr a => cases hn
        | exn a d n => cases hn
      · cases e
theorem pdi_enum {p0 p1 : Pos} {a : Expr} {elts : List Expr} {kk : Nat} {f : FE} (hg : Gl X "enumerate") (hm : X.mg "enumerate" = none) (hi : PD X EX U a f) (hst : starEach [a] X.env = [(false, eval a X.env)] := by rfl) (hst' : starEach (a :: []) X.env = (false, eval a X.env) :: starEach [] X.env := by rfl) :
    PDI X EX U (.Tuple elts kk tpos) (.Call (.Name "enumerate" p0) [a] [] p1) (fiE f) := by
  have ha := pa_cons hi pa_nil hst'
  refine ((pi_enum hg hm ha hst).or (pi_enumT hg hm ha hst)).imp fun σ H R h => ?_
  obtain ⟨ρ, env, st, r, st', hR, E, e, p⟩ := h
  have e : bnd (f env st) enOf = some (r, st') := e
  cases q : f env st with
  | none => rw [q] at e; cases e
  | some o =>
    obtain ⟨ro, s1⟩ := o
    rw [q] at e
    cases ro with
    | exc x => cases e; exact .inl ⟨ρ, env, st, .exc x, st', hR, E, q, p⟩
    | ok w =>
      cases w with
      | ref k =>
        have e : (match cnt (.ref k) s1 with | some n => ret (enG (gOf (.ref k)), n) s1 | none => none) = some (r, st') := e
        split at e
        · rename_i n hn
          cases e
          refine .inl ⟨ρ, env, st, .ok (.ref k), _, hR, E, q, fun x H1 ρ1 e1 R1 rx => ?_⟩
          cases rx with
          | @ref _ a hk =>
            obtain ⟨xs, hx⟩ := cnt_ref R1 hk hn
            exact ⟨a, xs, rfl, hx, p _ H1 ρ1 e1 R1 (itg_en (itr2_lst hk))⟩
        · cases e
      | tup ws =>
        have e : (ret (enG (gOf (.tup ws)), ws.length) s1 : Out (Gt × Nat)) = some (r, st') := e
        cases e
        refine .inr ⟨ρ, env, st, .ok (.tup ws), _, hR, E, q, fun x H1 ρ1 e1 R1 rx => ?_⟩
        cases rx with
        | @tup a xs _ h1 h2 => exact ⟨a, xs, rfl, h1, p _ H1 ρ1 e1 R1 (itg_en (itr2_tup R1 h1 h2))⟩
      | non => cases e
      | bl b => cases e
      | int i => cases e
      | str x => cases e
      | ils ws => cases e
      | adr a => cases e
      | exn a d n => cases e
end
/-! ### for target in iterator -/
def loopG (G : Gt) (t : Tg) (body : FS) : Nat → Nat → Evn → Sto → OutS
  | 0, _, _, _ => none
  | m + 1, i, env, st => match G st i with
    | none => none
    | some none => some (.nx, env, st)
    | some (some w) => match t w env with
      | none => none
      | some env0 => match body env0 st with
        | some (.nx, env1, st1) => loopG G t body m (i + 1) env1 st1
        | some (.ct, env1, st1) => loopG G t body m (i + 1) env1 st1
        | some (.bk, env1, st1) => some (.nx, env1, st1)
        | o => o
section
variable {EX : XR} {U : WX} {w0 : World}
theorem loopG_go {K : PySem.W.Frag} {J : It} {G : Gt} {H0 : Hp} {ρ0 : List Addr} {js : List Nat} {g : TG} {t : Tg} {fb : FS} (hJ : ItG w0 K J G H0 ρ0) (ht : TgR K js g t) {D : Ends} {σ0 : L2.St} {m0 : Nat} {env0 : Evn} {st0 : Sto} {fl : Fl} {env' : Evn} {st' : Sto}
    (hR : HR w0 K H0 ρ0 st0) (E : EnvR K H0 ρ0 env0 σ0) (h : loopG G t fb m0 0 env0 st0 = some (fl, env', st')) (p : PostS w0 K EX U D H0 ρ0 fl env' st') :
    ∃ Wd : Nat → Nat → L2.St → Hp → Prop, (∃ m, Wd 0 m σ0 H0) ∧ ∀ i m σ H, Wd i m σ H →
      (J.stop i H ∧ D.nx σ H) ∨ (J.go i H ∧ ∃ Nn : L2.St → Hp → Prop, (∀ σ' H', Nn σ' H' → ∃ m', m' < m ∧ Wd (i + 1) m' σ' H') ∧ ∀ x H', J.yld i H x H' → g x σ H' fun σ2 H2 => tS w0 K EX U fb { D with nx := Nn, ct := Nn, bk := D.nx } σ2 H2) := by
  refine ⟨fun i m σ H => ∃ ρ env st, Ext H0 ρ0 H ρ ∧ HR w0 K H ρ st ∧ EnvR K H ρ env σ ∧ loopG G t fb m i env st = some (fl, env', st'), ⟨m0, ρ0, env0, st0, Ext.refl _ _, hR, E, h⟩, ?_⟩
  rintro i m σ H ⟨ρ, env, st, e1, R1, E1, h1⟩
  have p1 := p.ext e1
  cases m with
  | zero => cases h1
  | succ m =>
    unfold loopG at h1
    obtain ⟨jst, jg⟩ := hJ H ρ st i e1 R1
    split at h1
    · cases h1
    · rename_i hg
      cases h1
      exact .inl ⟨jst hg, p1 σ H ρ (Ext.refl _ _) R1 E1⟩
    · rename_i w hg
      split at h1
      · cases h1
      · rename_i env2 htg
        obtain ⟨go, gy⟩ := jg w hg
        refine .inr ⟨go, fun σ' H' => ∃ ρ env st, Ext H0 ρ0 H' ρ ∧ HR w0 K H' ρ st ∧ EnvR K H' ρ env σ' ∧ loopG G t fb m (i + 1) env st = some (fl, env', st'), fun σ' H' q => ⟨m, Nat.lt_succ_self m, q⟩, fun x H' y => ?_⟩
        obtain ⟨ex, R2, rx⟩ := gy x H' y
        have p2 := p1.ext ex
        refine ht (E1.mono R1 ex) rx htg fun σ2 E2 _ => ?_
        split at h1
        · rename_i env1 st1 hb
          exact ⟨ρ, _, st, .nx, env1, st1, R2, E2, hb, fun σ2 H2 ρ2 e2 R2 E2 => ⟨ρ2, env1, st1, (e1.trans ex).trans e2, R2, E2, h1⟩⟩
        · rename_i env1 st1 hb
          exact ⟨ρ, _, st, .ct, env1, st1, R2, E2, hb, fun σ2 H2 ρ2 e2 R2 E2 => ⟨ρ2, env1, st1, (e1.trans ex).trans e2, R2, E2, h1⟩⟩
        · rename_i env1 st1 hb
          cases h1
          exact ⟨ρ, _, st, .bk, env', st', R2, E2, hb, p2⟩
        · rename_i n1 n2 n3
          refine ⟨ρ, _, st, fl, env', st', R2, E2, h1, ?_⟩
          cases fl with
          | nx => exact absurd h1 (n1 _ _)
          | ct => exact absurd h1 (n2 _ _)
          | bk => exact absurd h1 (n3 _ _)
          | rt w => exact p2
          | exc x => exact p2
end
def fForG (fi : FI) (t : Tg) (fb : FS) : FS := fun env st => bS (fi env st) env fun g st => loopG g.1 t fb (g.2 + 1) 0 env st
section
variable {X : Cx} {EX : XR} {U : WX} {tg it : Expr} {pos tpos : Pos} {body : List Stmt}
theorem pds_forG {js : List Nat} {g : TG} {t : Tg} {fi : FI} {fb : FS} (hp : PassesOwn (model X.prog X.w) X.A X.env X.xe) (hc : X.calm = true) (hi : PDI X EX U tg it fi) (hg : PG X tg g) (ht : TgR X.K js g t) (hb : PDB X EX U body fb)
    (hs : ∀ x, foldedSetIterable it X.env x = pure x := by intro _; rfl) : PDS X EX U (.For tg it body [] pos) (fForG fi t fb) := by
  refine (ps_for hp hc hi hg hb hs).imp fun D σ H h => ?_
  obtain ⟨ρ, env, st, fl, env', st', hR, E, e, p⟩ := h
  have e : bS (fi env st) env (fun g st => loopG g.1 t fb (g.2 + 1) 0 env st) = some (fl, env', st') := e
  cases q : fi env st with
  | none => rw [q] at e; cases e
  | some o =>
    obtain ⟨ro, s1⟩ := o
    rw [q] at e
    cases ro with
    | exc x =>
      cases e
      exact ⟨ρ, env, st, .exc x, st', hR, E, q, fun c d H' ρ' e' R' q' => p c d σ H' ρ' e' R' (E.mono hR e') q'⟩
    | ok gn => exact ⟨ρ, env, st, .ok gn, s1, hR, E, q, fun J H1 ρ1 e1 R1 hJ => loopG_go hJ ht R1 (E.mono hR e1) e (p.ext e1)⟩
/-! ### a, b = e -/
def fUnpG (f : FE) (t : Tg) : FS := fun env st => bS (f env st) env fun w st => (t w env).map fun env' => (.nx, env', st)
theorem pds_unp {e : Expr} {js : List Nat} {g : TG} {t : Tg} {f : FE} (he : PD X EX U e f) (hg : PG X tg g) (ht : TgR X.K js g t) (hs : swapsWithSole [tg] e pos.line X.env = pure false := by rfl) (hw : swappedStores [tg] e X.env = pure none := by rfl)
    (h1 : (assignEach [tg] X.env).map (·.2) = [assign tg X.env] := by rfl) : PDS X EX U (.Assign [tg] e pos) (fUnpG f t) := by
  refine (ps_asg he hg hs hw h1).imp fun D σ H h => ?_
  refine (tS_bind (r1 := Rep X.K) (g := fun env w st => (t w env).map fun env' => (.nx, env', st)) h).imp fun x H1 k1 => ?_
  obtain ⟨ρ, env, st, w, fl, env', st', hR, E, rw', e, p⟩ := k1
  have e : (t w env).map (fun env' => (Fl.nx, env', st)) = some (fl, env', st') := e
  cases q : t w env with
  | none => rw [q] at e; cases e
  | some env1 =>
    rw [q] at e; cases e
    exact ht E rw' q fun σ' E' _ => p σ' H1 ρ (Ext.refl _ _) hR E'
end
/-! ### [e for target in iterator if t] -/
def lcLoopG (G : Gt) (tg : Tg) (t : FT) (f : FE) (env : Evn) : Nat → Nat → List W → Sto → Out (List W)
  | 0, _, _, _ => none
  | m + 1, i, acc, st => match G st i with
    | none => none
    | some none => if szW acc.length then ret acc st else none
    | some (some w) => match tg w env with
      | none => none
      | some env0 => match t env0 st with
        | some (.ok true, st1) => match f env0 st1 with
          | some (.ok y, st2) => if szW acc.length then lcLoopG G tg t f env m (i + 1) (acc ++ [y]) st2 else none
          | _ => none
        | some (.ok false, st1) => lcLoopG G tg t f env m (i + 1) acc st1
        | _ => none
def wipeE (env : Evn) : List Nat → Evn
  | [] => env
  | j :: js => (wipeE env js).set j none
theorem EnvR.wipes {K : PySem.W.Frag} {H : Hp} {ρ : List Addr} {env : Evn} {σ : L2.St} (h : EnvR K H ρ env σ) : ∀ js : List Nat, EnvR K H ρ (wipeE env js) (wipe σ js)
  | [] => h
  | j :: js => (h.wipes js).wipe1 j
def fLcG (fi : FI) (tg : Tg) (js : List Nat) (t : FT) (f : FE) : FE := fun env st => bnd (fi env st) fun g st => bnd (lcLoopG g.1 tg t f (wipeE env js) (g.2 + 1) 0 [] st) addL
theorem lcLoopG_nox {G : Gt} {tg : Tg} {t : FT} {f : FE} {env : Evn} : ∀ (m i : Nat) (acc : List W) (st : Sto), NoX (lcLoopG G tg t f env m i acc st)
  | 0, _, _, _ => fun x s h => by cases h
  | m + 1, i, acc, st => fun x s h => by
    unfold lcLoopG at h
    split at h
    · cases h
    · split at h <;> cases h
    · split at h
      · cases h
      · split at h
        · split at h
          · split at h
            · exact lcLoopG_nox m _ _ _ x s h
            · cases h
          · cases h
        · exact lcLoopG_nox m _ _ _ x s h
        · cases h
theorem wipe_wipe {σ : L2.St} : ∀ {js : List Nat}, wipe (wipe σ js) js = wipe σ js := by
  intro js
  have key : ∀ (ks : List Nat) (τ : L2.St), (∀ k ∈ ks, k ∈ js) → wipe (wipe τ ks) js = wipe τ js := by
    intro ks
    induction ks with
    | nil => intro τ _; rfl
    | cons k ks ih =>
      intro τ h
      show wipe ((wipe τ ks).set k none) js = _
      rw [wipe_in (h k List.mem_cons_self), ih τ fun x hx => h x (List.mem_cons_of_mem _ hx)]
  exact key js σ fun _ h => h
section
variable {EX : XR} {w0 : World}
theorem lcG_go {K : PySem.W.Frag} {J : It} {G : Gt} {H0 : Hp} {ρ0 : List Addr} {js : List Nat} {g : TG} {tg : Tg} {ft : FT} {fe : FE} (hJ : ItG w0 K J G H0 ρ0) (htg : TgR K js g tg) {σ : L2.St} {env : Evn} {m0 : Nat} {st0 st' : Sto} {ws : List W} {Q : VK}
    (hR : HR w0 K H0 ρ0 st0) (E : EnvR K H0 ρ0 env σ) (h : lcLoopG G tg ft fe (wipeE env js) m0 0 [] st0 = some (.ok ws, st'))
    (p : ∀ v H' ρ', Ext H0 ρ0 H' ρ' → HR w0 K H' ρ' (st' ++ [.lst ws]) → Rep K H' ρ' (.ref st'.length) v → Q v H') (D : Addr) (hD : H0 D = none) :
    ∃ Wd : Nat → Nat → Hp → Prop, (∃ m, Wd 0 m (upd H0 D (.lst []))) ∧ ∀ i m H, Wd i m H → (J.stop i H ∧ Q (.ref D) H) ∨ (J.go i H ∧ ∃ Nx : Hp → Prop, (∀ H', Nx H' → ∃ m', m' < m ∧ Wd (i + 1) m' H') ∧
      ∀ x H', J.yld i H x H' → g x (wipe σ js) H' fun σ2 H2 => wipe σ2 js = wipe σ js ∧ tT w0 K EX U0 ft σ2 H2 fun b H3 =>
        if b = true then tI w0 K EX U0 fe σ2 H3 fun y H4 => ∃ acc, H4 D = some (.lst acc) ∧ acc.length < sizeLine ∧ Nx (upd H4 D (.lst (acc ++ [y]))) else Nx H3) := by
  have nD0 := hR.fresh hD
  let Wd : Nat → Nat → Hp → Prop := fun i m H => ∃ ρ st acc xs, Ext H0 ρ0 H ρ ∧ HR w0 K H ρ st ∧ D ∉ ρ ∧ H D = some (.lst xs) ∧ RepAll K H ρ acc xs ∧ lcLoopG G tg ft fe (wipeE env js) m i acc st = some (.ok ws, st')
  refine ⟨Wd, ⟨m0, ρ0, st0, [], [], Ext.tup hD, hR.tup hD, nD0, upd_same, .nil, h⟩, ?_⟩
  rintro i m H ⟨ρ, st, acc, xs, e1, R1, nD, eD, ra, h1⟩
  cases m with
  | zero => cases h1
  | succ m =>
    unfold lcLoopG at h1
    obtain ⟨jst, jg⟩ := hJ H ρ st i e1 R1
    split at h1
    · cases h1
    · rename_i hg
      split at h1
      · cases h1
        refine .inl ⟨jst hg, p _ H (ρ ++ [D]) ?_ (R1.adopt eD nD ra) (.ref ?_)⟩
        · obtain ⟨⟨l, rfl⟩, k1, n1⟩ := e1
          refine ⟨⟨l ++ [D], by simp⟩, k1, fun a ha => ?_⟩
          rcases List.mem_append.mp ha with z | z
          · exact n1 a z
          · rw [List.mem_singleton.mp z]; exact .inr hD
        · rw [← R1.len]; simp
      · cases h1
    · rename_i w hg
      split at h1
      · cases h1
      · rename_i env0 ht0
        obtain ⟨go, gy⟩ := jg w hg
        refine .inr ⟨go, Wd (i + 1) m, fun H' q => ⟨m, Nat.lt_succ_self m, q⟩, fun x H' y => ?_⟩
        obtain ⟨ex, Rx, rx⟩ := gy x H' y
        have eDx : H' D = some (.lst xs) := ex.keep D _ eD nD
        have rax := ra.mono R1 ex
        refine htg ((E.mono hR (e1.trans ex)).wipes js) rx ht0 fun σ2 E2 kw => ⟨kw.trans wipe_wipe, ?_⟩
        split at h1
        · rename_i st1 ht
          refine ⟨ρ, _, st, .ok true, st1, Rx, E2, ht, fun b H3 ρ3 e3 R3 hb => ?_⟩
          obtain rfl : true = b := hb
          rw [if_pos rfl]
          split at h1
          · rename_i yw st2 hf
            split at h1
            · rename_i hz
              refine ⟨ρ3, _, st1, .ok yw, st2, R3, E2.mono Rx e3, hf, fun y4 H4 ρ4 e4 R4 r4 => ?_⟩
              have e34 := e3.trans e4
              have eD4 : H4 D = some (.lst xs) := e34.keep D _ eDx nD
              have nD4 : D ∉ ρ4 := fun z => by
                rcases e34.new D z with z | z
                · exact nD z
                · rw [eDx] at z; cases z
              have hz := sz_ok hz
              refine ⟨xs, eD4, ?_, ρ4, st2, acc ++ [yw], xs ++ [y4], ?_, R4.other eD4 nD4, nD4, upd_same, ?_, h1⟩
              · rw [← ra.length]
                exact Nat.lt_of_le_of_lt (of_decide_eq_true (by assumption)) (by decide)
              · obtain ⟨p4, k4, n4⟩ := (e1.trans ex).trans e34
                exact ⟨p4, fun a o ha hn => by rw [upd_ne (ne_of_none ha hD)]; exact k4 a o ha hn, n4⟩
              · exact ((rax.mono Rx e34).append (.cons r4 .nil)).other eD4
            · cases h1
          · cases h1
        · rename_i st1 ht
          refine ⟨ρ, _, st, .ok false, st1, Rx, E2, ht, fun b H3 ρ3 e3 R3 hb => ?_⟩
          obtain rfl : false = b := hb
          rw [if_neg Bool.false_ne_true]
          have nD3 : D ∉ ρ3 := fun z => by
            rcases e3.new D z with z | z
            · exact nD z
            · rw [eDx] at z; cases z
          exact ⟨ρ3, st1, acc, xs, (e1.trans ex).trans e3, R3, nD3, e3.keep D _ eDx nD, rax.mono Rx e3, h1⟩
        · cases h1
end
section
variable {X : Cx} {EX : XR} {U : WX} {tg it elt : Expr} {ifs : List Expr} {scope : Scope} {pos px : Pos} {own : List (Str × Nat)} {js : List Nat} {g : TG} {t : Tg}
theorem lcBG {G : Gt} {ft : FT} {fe : FE} {env : Evn} {m : Nat} {st st' : Sto} {r : R W} (e : bnd (lcLoopG G t ft fe env m 0 [] st) addL = some (r, st')) : ∃ ws s1, lcLoopG G t ft fe env m 0 [] st = some (.ok ws, s1) ∧ r = .ok (.ref s1.length) ∧ st' = s1 ++ [.lst ws] := by
  cases q : lcLoopG G t ft fe env m 0 [] st with
  | none => rw [q] at e; cases e
  | some o =>
    obtain ⟨ro, s1⟩ := o
    cases ro with
    | exc x => exact absurd q (lcLoopG_nox _ _ _ _ _ _)
    | ok ws => rw [q] at e; cases e; exact ⟨ws, s1, rfl, rfl, rfl⟩
theorem lcG_main {fi : FI} {ft : FT} {fe : FE} {σ : L2.St} {H : Hp} {Q : VK} (ht : TgR X.K js g t) (h : tI X.w X.K EX U (fLcG fi t js ft fe) σ H Q) : tLc (tG X.w X.K EX U (rI X.w X.K) fi) g (tT X.w X.K EX U0 ft) (tI X.w X.K EX U0 fe) js σ H Q := by
  obtain ⟨ρ, env, st, r, st', hR, E, e, p⟩ := h
  have e : bnd (fi env st) (fun g st => bnd (lcLoopG g.1 t ft fe (wipeE env js) (g.2 + 1) 0 [] st) addL) = some (r, st') := e
  cases q : fi env st with
  | none => rw [q] at e; cases e
  | some o =>
    obtain ⟨ro, s1⟩ := o
    rw [q] at e
    cases ro with
    | exc x => cases e; exact ⟨ρ, env, st, .exc x, st', hR, E, q, p⟩
    | ok gn =>
      have e : bnd (lcLoopG gn.1 t ft fe (wipeE env js) (gn.2 + 1) 0 [] s1) addL = some (r, st') := e
      obtain ⟨ws, s2, hl, rfl, rfl⟩ := lcBG e
      exact ⟨ρ, env, st, .ok gn, s1, hR, E, q, fun J H1 ρ1 e1 R1 hJ D hD => lcG_go hJ ht R1 (E.mono hR e1) hl (fun v H' ρ' e' => p v H' ρ' (e1.trans e')) D hD⟩
theorem pd_lcG {fi : FI} {ft : FT} {fe : FE} (hc : X.calm = true) (hN : X.N.Nodup) (ok : BlkOk X.N X.env.scope scope own) (hjs : own.map (·.2) = js) (hi : PDI X EX U tg it fi) (htr : TgR X.K js g t)
    (hg : ∀ (s : Shared) (H : Hp) (C : Addr) (cl : List (Str × Addr)) (fp : List Addr), PG (X.blk s H scope (compEnvC scope cl C X.env) fp) tg g)
    (ht : ∀ (s : Shared) (H : Hp) (C : Addr) (cl : List (Str × Addr)) (fp : List Addr), PTs (X.blk s H scope (compEnvC scope cl C X.env) fp) ifs (tT X.w X.K EX U0 ft))
    (he : ∀ (s : Shared) (H : Hp) (C : Addr) (cl : List (Str × Addr)) (fp : List Addr), PE (X.blk s H scope (compEnvC scope cl C X.env) fp) elt (tI X.w X.K EX U0 fe))
    (hs : ∀ x, foldedSetIterable it X.env x = pure x := by intro _; rfl) :
    PD X EX U (.ListComp elt [⟨tg, it, ifs, 0⟩] scope pos) (fLcG fi t js ft fe) := by
  subst hjs
  exact (pe_lc (own := own) hc hN hi ok hg ht he hs).imp fun _ _ _ h => lcG_main htr h
theorem pds_setLcG {i : Nat} {y : Str} {py spos : Pos} {fi : FI} {ft : FT} {fe : FE} (hc : X.calm = true) (hN : X.N.Nodup) (hy : X.N[i]? = some y) (hyl : X.env.scope.names.lookup y = some .local)
    (hsw : swapsWith (.ListComp elt [⟨tg, it, ifs, 0⟩] scope pos) (some (.Name y py)) spos.line X.env = pure true) (ok : BlkOk X.N X.env.scope scope own) (hjs : own.map (·.2) = js) (hi : PDI X EX U tg it fi) (htr : TgR X.K js g t)
    (hg : ∀ (s : Shared) (H : Hp) (C : Addr) (cl : List (Str × Addr)) (fp : List Addr), PG (X.blk s H scope (compEnvC scope cl C X.env) fp) tg g)
    (ht : ∀ (s : Shared) (H : Hp) (C : Addr) (cl : List (Str × Addr)) (fp : List Addr), PTs (X.blk s H scope (compEnvC scope cl C X.env) fp) ifs (tT X.w X.K EX U0 ft))
    (he : ∀ (s : Shared) (H : Hp) (C : Addr) (cl : List (Str × Addr)) (fp : List Addr), PE (X.blk s H scope (compEnvC scope cl C X.env) fp) elt (tI X.w X.K EX U0 fe))
    (hs : ∀ x, foldedSetIterable it X.env x = pure x := by intro _; rfl) :
    PDS X EX U (.Assign [.Name y py] (.ListComp elt [⟨tg, it, ifs, 0⟩] scope pos) spos) (fSet i (fLcG fi t js ft fe)) := by
  subst hjs
  refine (ps_setLc (own := own) hc hN hy hyl hsw hi ok hg ht he hs).imp fun D σ H h => ?_
  refine lcG_main htr ((tS_bind (r1 := Rep X.K) (g := fun env w st => some (.nx, env.set i (some w), st)) h).imp fun v H1 h1 => ?_)
  obtain ⟨ρ, env, st, w, fl, env', st', hR, E, rw', e, p⟩ := h1
  cases e
  exact p _ H1 ρ (Ext.refl _ _) hR (E.set rw' i)
end
end DI

namespace DI
open PySem L2 PySem.Spec PyProof.Rows
/-! ### calls with keywords -/
/-- the values at these places -/
def pick {α : Type} (l : List α) : List Nat → List α
  | [] => []
  | i :: ix => match l[i]? with
    | some a => a :: pick l ix
    | none => pick l ix
theorem RepAll.none' {K : PySem.W.Frag} {H : Hp} {ρ : List Addr} {ws : List W} {vs : List V} {i : Nat} (h : RepAll K H ρ ws vs) (e : ws[i]? = none) : vs[i]? = none := by
  rw [List.getElem?_eq_none_iff] at e ⊢; rw [← h.length]; exact e
theorem RepAll.pick {K : PySem.W.Frag} {H : Hp} {ρ : List Addr} {ws : List W} {vs : List V} (h : RepAll K H ρ ws vs) : ∀ ix : List Nat, RepAll K H ρ (DI.pick ws ix) (DI.pick vs ix)
  | [] => .nil
  | i :: ix => by
    unfold DI.pick
    cases q : ws[i]? with
    | none => rw [h.none' q]; exact h.pick ix
    | some w =>
      obtain ⟨v, e, r⟩ := h.get q
      rw [e]; exact .cons r (h.pick ix)
theorem vals_get : ∀ {vs : List V} {us : List Value} {i : Nat} {v : V}, Vals vs us → vs[i]? = some v → ∃ u, us[i]? = some u ∧ RelV v u
  | _, _, _, _, .nil, e => by simp at e
  | _, _, 0, _, .cons r _, e => by simp at e; subst e; exact ⟨_, rfl, r⟩
  | _, _, i + 1, _, .cons _ t, e => by
    obtain ⟨u, h1, h2⟩ := vals_get (i := i) t (by simpa using e)
    exact ⟨u, by simpa using h1, h2⟩
theorem vals_pick {vs : List V} {us : List Value} (h : Vals vs us) : ∀ ix : List Nat, Vals (pick vs ix) (pick us ix)
  | [] => .nil
  | i :: ix => by
    unfold pick
    cases q : vs[i]? with
    | none =>
      have : us[i]? = none := by rw [List.getElem?_eq_none_iff] at q ⊢; rw [← h.length]; exact q
      rw [this]; exact vals_pick h ix
    | some v =>
      obtain ⟨u, e, r⟩ := vals_get h q
      rw [e]; exact .cons r (vals_pick h ix)
/-- a def called with n values and keywords ks: its parameters get the values at the places ix -/
def KnK (P : Program) (w : World) (K : PySem.W.Frag) (mg : Str → Option Value) (base : Heap) (EX : XR) (x : Str) (k n : Nat) (ks : List Str) (ix : List Nat) (g : OC) : Prop :=
  ∃ (f : Addr) (fd : FuncData) (ps : List Str), mg x = some (.ref f) ∧ PySem.W.keepIn K (.ref f) = true ∧ (∀ (s : Shared) (us ws : List Value), us.length = n → ws.length = ks.length → BindsTo s fd ⟨us, ks.zip ws⟩ (ps.zip (pick (us ++ ws) ix))) ∧ FnG P w K mg base k f fd ps (spI w K EX g)
theorem knk_of {P : Program} {w : World} {K : PySem.W.Frag} {mg : Str → Option Value} {base : Heap} {EX : XR} {x qual : Str} {k n : Nat} {ks ps : List Str} {ix : List Nat} {g : OC} {params : Arguments} {body : List Stmt} {scope : Scope} {kws : List (Str × V)} {f : Addr} {fd : FuncData} (Fn : FunD K x qual params body scope [] kws f fd) (hm : mg x = some (.ref f)) (G : FnG P w K mg base k f fd ps (spI w K EX g))
    (h : ∀ (kV doc pm : Value) (an : Option Addr) (cdv ct : Value) (us ws : List Value), us.length = n → ws.length = ks.length → bindArgs (PySem.W.fnOf x qual params body scope .none kV doc pm an cdv ct) ⟨us, ks.zip ws⟩ = pure (ps.zip (pick (us ++ ws) ix))) : KnK P w K mg base EX x k n ks ix g := by
  refine ⟨f, fd, ps, hm, Fn.kp, fun s us ws h1 h2 => ?_, G⟩
  obtain ⟨oc, od, dV, kV, doc, pm, an, cdv, ct, osl, rfl, lk, hcd, hD, hK⟩ := Fn.ex
  rcases hD with ⟨_, rfl⟩ | ⟨e, _⟩
  · exact .of_eq (h kV doc pm an cdv ct us ws h1 h2)
  · exact absurd rfl e
/-- the def's promise, by the same derivation -/
theorem kn_g {P : Program} {w : World} {K : PySem.W.Frag} {mg : Str → Option Value} {base : Heap} {EX : XR} {x : Str} {k : Nat} {ps : List Str} {g : OC} (h : Kn P w K mg base EX x k ps g) {qual : Str} {params : Arguments} {body : List Stmt} {scope : Scope} {kws : List (Str × V)} {f : Addr} {fd : FuncData} (Fn : FunD K x qual params body scope [] kws f fd) (hm : mg x = some (.ref f)) :
    ∃ fd' : FuncData, FnG P w K mg base k f fd' ps (spI w K EX g) ∧ PySem.W.keepIn K (.ref f) = true := by
  obtain ⟨f', fd', e, kp, _, G⟩ := h
  rw [hm] at e; cases e
  exact ⟨fd', G, kp⟩
section
variable {X : Cx} {EX : XR} {U : WX} {x : Str} {p pos : Pos} {kws : List Keyword} {k n : Nat} {ks : List Str} {ix : List Nat}
abbrev PDK (X : Cx) (EX : XR) (U : WX) (kws : List Keyword) (f : FA) : Prop := PK X kws (tA X.w X.K EX U f)
theorem _root_.L2.PK.imp {X : Cx} {kws : List Keyword} {t t' : TA} (h : PK X kws t) (w : ∀ σ H Q, t' σ H Q → t σ H Q) : PK X kws t' := ⟨fun pos pins s σ H Q I q => h.run pos pins s σ H Q I (w σ H Q q)⟩
theorem pdk_nil : PDK X EX U [] fNil := pk_nil.imp fun σ H Q ⟨ρ, env, st, r, st', R, E, e, p⟩ => by
  cases e
  exact p _ H ρ (Ext.refl _ _) R .nil
theorem pdk_cons {e : Expr} {nm : Option Str} {kpos : Pos} {f : FE} {g : FA} (he : PD X EX U e f) (hr : PDK X EX U kws g) : PDK X EX U (⟨nm, e, kpos⟩ :: kws) (fCons f g) := by
  refine (pk_cons he hr).imp fun σ H Q h => ?_
  refine (tG_bind (r1 := Rep X.K) (g := fun env w st => bnd (g env st) fun ws st => ret (w :: ws) st) h).imp fun x H1 h1 => ?_
  refine (tK_tG (tK_bind (r1 := RepAll X.K) (f := fun env _ st => g env st) (g := fun _ a b st => ret (a :: b) st) mono_rep h1)).imp fun y H2 h2 => ?_
  obtain ⟨ρ, env, st, ⟨a, b⟩, r', st', R, E, ⟨ra, rb⟩, e, p⟩ := h2
  cases e
  exact p _ H2 ρ (Ext.refl _ _) R (.cons ra rb)
theorem runGK {sp : Sp} {f : Addr} {fd : FuncData} {ps : List Str} {pins : List (Addr × Obj)} {σ : L2.St} {H : Hp} {s : Shared} {Q : VK} {us ws : List Value} {vs : List V} {gv : List Value} (Fn : FnG X.prog X.w X.K X.mg X.base k f fd ps sp) (hgd : X.A.guards = some []) (hr : Room k X.A) (hbi : BindsTo s fd ⟨us, ks.zip ws⟩ (ps.zip gv)) (tk : Takes X U)
    (I : Inv X pins σ H s) (r : Vals vs gv) (h : sp vs H Q (fun cls d H' => U cls d σ H')) : wpAny (model X.prog X.w) X.A (call (.ref f) us (ks.zip ws)) (EP X pins σ Q) X.xe s := by
  refine wpAny_call (codeAny_mono (Fn.run X.A X.stack s H _ gv vs Q _ hgd hr I.env0 hbi r h) fun ro s' z => ?_)
  cases ro with
  | error u => exact tk u s' (XE.of_call I (fun _ _ _ q => q) z)
  | ok fl =>
    cases fl with
    | ret u => exact I.after z
    | next => exact z.elim
    | brk => exact z.elim
    | cont => exact z.elim
/-- f(k = v, ..) -/
theorem pd_callKw0 {g : OC} {fk : FA} (h : KnK X.prog X.w X.K X.mg X.base EX x k 0 ks ix g) (hgd : X.A.guards = some []) (hr : Room k X.A) (hg : Gl X x) (tk : Takes X U) (hk : PDK X EX U kws fk)
    (hall : (backToKw pos (keywordEach kws X.env)).all (·.1.isSome) = true := by rfl) (hks : (backToKw pos (keywordEach kws X.env)).filterMap (·.1) = ks := by rfl) (hl : kws.length = ks.length := by rfl) (hdb : (x == ("__debug__" : Str)) = false := by decide)
    (hpl : ((backTo pos (starEach [] X.env)).any (·.1) || (backToKw pos (keywordEach kws X.env)).any (·.1.isNone)) = false := by rfl) (hn : ∀ env st ws st', fk env st = some (.ok ws, st') → ws.length = ks.length) :
    PD X EX U (.Call (.Name x p) [] kws pos) (fCB (fun ws st => g (pick ws ix) st) fk) := by
  obtain ⟨f, fd, ps, hm, kp, hb, Fn⟩ := h
  refine ⟨fun pins s σ H Q I h => ?_⟩
  refine wpAny_Call_Name_kw (ld_glob I hg hm ?_ hdb)
  have h' : tA X.w X.K EX U fk σ H fun vs H1 => tK X.w X.K EX U (fun H ρ ws vs => RepAll X.K H ρ ws vs ∧ ws.length = ks.length) (Rep X.K) (fun env ws st => g (pick ws ix) st) vs σ H1 Q := by
    obtain ⟨ρ, env, st, r, st', hR, E, e, p⟩ := h
    have e : bnd (fk env st) (fun ws st => g (pick ws ix) st) = some (r, st') := e
    cases q : fk env st with
    | none => rw [q] at e; cases e
    | some o =>
      obtain ⟨ro, s1⟩ := o
      rw [q] at e
      cases ro with
      | exc y => cases e; exact ⟨ρ, env, st, .exc y, st', hR, E, q, p⟩
      | ok ws => exact ⟨ρ, env, st, .ok ws, s1, hR, E, q, fun vs H1 ρ1 e1 R1 r1 => ⟨ρ1, env, s1, ws, r, st', R1, E.mono hR e1, ⟨r1, hn _ _ _ _ q⟩, e, p.ext e1⟩⟩
  refine PySem.W.callWith_KW0 (h₀ := X.base) I.ok.mod.kin kp hall (thn (hk.run pos pins s σ H _ I h') fun us s1 z => ?_) hpl
  obtain ⟨vs, H1, I1, rv, ρ, env, st, ws, r', st', hR, E, ⟨rw', hwl⟩, e, p⟩ := z
  rw [hks]
  have hul : us.length = ks.length := by rw [← rv.length, ← rw'.length]; exact hwl
  have hb1 := hb s1 [] us rfl hul
  rw [List.nil_append] at hb1
  refine ⟨I1.kIn, runGK Fn hgd hr hb1 tk I1 (vals_pick rv ix) ⟨ρ, st, pick ws ix, r', st', hR, rw'.pick ix, e, ?_⟩⟩
  cases r' with
  | ok w => exact p
  | exc x => exact p
end
theorem fcons_len {f : FE} {g : FA} {n : Nat} (h : ∀ env st ws st', g env st = some (.ok ws, st') → ws.length = n) : ∀ env st ws st', fCons f g env st = some (.ok ws, st') → ws.length = n + 1 := fun env st ws st' e => by
  unfold fCons at e
  cases q : f env st with
  | none => rw [q] at e; cases e
  | some o =>
    obtain ⟨r, s1⟩ := o
    rw [q] at e
    cases r with
    | exc x => cases e
    | ok w =>
      have e : bnd (g env s1) (fun ws st => ret (w :: ws) st) = some (.ok ws, st') := e
      cases q2 : g env s1 with
      | none => rw [q2] at e; cases e
      | some o2 =>
        obtain ⟨r2, s2⟩ := o2
        rw [q2] at e
        cases r2 with
        | exc x => cases e
        | ok us => cases e; simp [h _ _ _ _ q2]
theorem fnil_len : ∀ env st ws st', fNil env st = some (.ok ws, st') → ws.length = 0 := fun env st ws st' e => by cases e; rfl
end DI

namespace DI
open PySem L2 PySem.Spec PyProof.Rows
/-! ### x is True -/
def rBB (f : Bool → Bool) : R2 := fun x y H Q => ∃ a b : Bool, x = .bl a ∧ y = .bl b ∧ Q (.bl (f (decide (a = b)))) H
theorem op_isBB {X : Cx} : OpR X (compareOp .Is) (rBB id) := op_is_bl
theorem op_notBB {X : Cx} : OpR X (compareOp .IsNot) (rBB not) := op_isnot_bl
def opIsB : O2 := fun a b st => match a, b with
  | .bl x, .bl y => ret (.bl (decide (x = y))) st
  | _, _ => none
def opNotB : O2 := fun a b st => match a, b with
  | .bl x, .bl y => ret (.bl (!decide (x = y))) st
  | _, _ => none
theorem opr_isB {w0 : World} {K : PySem.W.Frag} : OPR w0 K (rBB id) opIsB := by
  intro x y H Q ρ st st' a b w R ra rb e p
  unfold opIsB at e
  split at e
  · cases e; cases ra; cases rb
    exact ⟨_, _, rfl, rfl, p _ H ρ (Ext.refl _ _) R (.bl _)⟩
  · cases e
theorem opr_notB {w0 : World} {K : PySem.W.Frag} : OPR w0 K (rBB not) opNotB := by
  intro x y H Q ρ st st' a b w R ra rb e p
  unfold opNotB at e
  split at e
  · cases e; cases ra; cases rb
    exact ⟨_, _, rfl, rfl, p _ H ρ (Ext.refl _ _) R (.bl _)⟩
  · cases e
theorem nox_isB (a b : W) (st : Sto) : NoX (opIsB a b st) := fun x st' e => by
  unfold opIsB at e
  split at e <;> cases e
theorem nox_notB (a b : W) (st : Sto) : NoX (opNotB a b st) := fun x st' e => by
  unfold opNotB at e
  split at e <;> cases e
end DI

namespace DI
open PySem L2 PySem.Spec PyProof.Rows
/-! ### while -/
def loopC (ft : FT) (fb : FS) : Nat → FS
  | 0, _, _ => none
  | m + 1, env, st => match ft env st with
    | some (.ok true, st1) => match fb env st1 with
      | some (.nx, env1, st2) => loopC ft fb m env1 st2
      | some (.ct, env1, st2) => loopC ft fb m env1 st2
      | some (.bk, env1, st2) => some (.nx, env1, st2)
      | o => o
    | some (.ok false, st1) => some (.nx, env, st1)
    | some (.exc x, st1) => some (.exc x, env, st1)
    | none => none
def fWhile (ft : FT) (fb : FS) : FS := loopC ft fb 1000
section
variable {X : Cx} {EX : XR} {U : WX} {pos : Pos} {c : Expr} {body : List Stmt}
theorem pds_while {fc : FT} {fb : FS} (hp : PassesOwn (model X.prog X.w) X.A X.env X.xe) (hc : PDT X EX U c fc) (hb : PDB X EX U body fb) : PDS X EX U (.While c body [] pos) (fWhile fc fb) := by
  refine (ps_while hp hc hb).imp fun D σ H h => ?_
  obtain ⟨ρ, env, st, fl, env', st', hR, E, e, p⟩ := h
  refine ⟨fun m σ1 H1 => ∃ ρ1 env1 st1, Ext H ρ H1 ρ1 ∧ HR X.w X.K H1 ρ1 st1 ∧ EnvR X.K H1 ρ1 env1 σ1 ∧ loopC fc fb m env1 st1 = some (fl, env', st'), ⟨1000, ρ, env, st, Ext.refl _ _, hR, E, e⟩, ?_⟩
  rintro m σ1 H1 ⟨ρ1, env1, st1, e1, R1, E1, h1⟩
  have p1 := p.ext e1
  cases m with
  | zero => cases h1
  | succ m =>
    unfold loopC at h1
    split at h1
    · rename_i st2 hcv
      refine ⟨ρ1, env1, st1, .ok true, st2, R1, E1, hcv, fun b H' ρ' ex R2 q => ?_⟩
      obtain rfl : true = b := q
      have p2 := p1.ext ex
      have E2 := E1.mono R1 ex
      rw [if_pos rfl]
      refine ⟨fun σ' H'' => ∃ ρ1 env1 st1, Ext H ρ H'' ρ1 ∧ HR X.w X.K H'' ρ1 st1 ∧ EnvR X.K H'' ρ1 env1 σ' ∧ loopC fc fb m env1 st1 = some (fl, env', st'), fun σ' H' q => ⟨m, Nat.lt_succ_self m, q⟩, ?_⟩
      split at h1
      · rename_i env3 st3 hbv
        exact ⟨ρ', env1, st2, .nx, env3, st3, R2, E2, hbv, fun σ3 H3 ρ3 e3 R3 E3 => ⟨ρ3, env3, st3, (e1.trans ex).trans e3, R3, E3, h1⟩⟩
      · rename_i env3 st3 hbv
        exact ⟨ρ', env1, st2, .ct, env3, st3, R2, E2, hbv, fun σ3 H3 ρ3 e3 R3 E3 => ⟨ρ3, env3, st3, (e1.trans ex).trans e3, R3, E3, h1⟩⟩
      · rename_i env3 st3 hbv
        cases h1
        exact ⟨ρ', env1, st2, .bk, env', st', R2, E2, hbv, p2⟩
      · rename_i n1 n2 n3
        refine ⟨ρ', env1, st2, fl, env', st', R2, E2, h1, ?_⟩
        cases fl with
        | nx => exact absurd h1 (n1 _ _)
        | ct => exact absurd h1 (n2 _ _)
        | bk => exact absurd h1 (n3 _ _)
        | rt w => exact p2
        | exc x => exact p2
    · rename_i st2 hcv
      cases h1
      refine ⟨ρ1, env', st1, .ok false, st', R1, E1, hcv, fun b H' ρ' ex R2 q => ?_⟩
      obtain rfl : false = b := q
      rw [if_neg Bool.false_ne_true]
      exact p1 σ1 H' ρ' ex R2 (E1.mono R1 ex)
    · rename_i x st2 hcv
      cases h1
      exact ⟨ρ1, env', st1, .exc x, st', R1, E1, hcv, fun cls d H' ρ' ex R2 q => p1 cls d σ1 H' ρ' ex R2 (E1.mono R1 ex) q⟩
    · cases h1
end
/-! ### f(a) where f has defaults -/
section
variable {X : Cx} {EX : XR} {U : WX} {k : Nat} {f : Addr} {fd : FuncData} {ps : List Str} {x : Str} {p pos : Pos} {e : Expr} {es : List Expr}
theorem runD {sp : Sp} {pins : List (Addr × Obj)} {σ : L2.St} {H : Hp} {s : Shared} {Q : VK} {us ds : List Value} {vs : List V} {dV : List V} (Fn : FnG X.prog X.w X.K X.mg X.base k f fd ps sp) (hgd : X.A.guards = some []) (hr : Room k X.A) (hb : Binds X.K fd ps ds) (hd : Vals dV ds) (tk : Takes X U)
    (I : Inv X pins σ H s) (r : Vals vs us) (h : sp (vs ++ dV) H Q (fun cls d H' => U cls d σ H')) : wpAny (model X.prog X.w) X.A (call (.ref f) us) (EP X pins σ Q) X.xe s := by
  have rr := r.append hd
  have hl : (us ++ ds).length = ps.length := by rw [← rr.length]; exact Fn.len _ _ _ _ h
  have hbi := hb s us I.kIn hl
  refine wpAny_call (codeAny_mono (Fn.run X.A X.stack s H _ (us ++ ds) (vs ++ dV) Q _ hgd hr I.env0 hbi rr h) fun ro s' z => ?_)
  cases ro with
  | error u => exact tk u s' (XE.of_call I (fun _ _ _ q => q) z)
  | ok fl =>
    cases fl with
    | ret u => exact I.after z
    | next => exact z.elim
    | brk => exact z.elim
    | cont => exact z.elim
/-- a def that is known by its name, called with fewer values: dw are the defaults behind them -/
def KnD (P : Program) (w : World) (K : PySem.W.Frag) (mg : Str → Option Value) (base : Heap) (EX : XR) (x : Str) (k : Nat) (ps : List Str) (g : OC) (dw : List W) : Prop :=
  ∃ (f : Addr) (fd : FuncData) (dV : List V) (ds : List Value), mg x = some (.ref f) ∧ PySem.W.keepIn K (.ref f) = true ∧ Binds K fd ps ds ∧ Vals dV ds ∧ (∀ H ρ, RepAll K H ρ dw dV) ∧ FnG P w K mg base k f fd ps (spI w K EX g)
theorem _root_.L2.RepAll_append {K : PySem.W.Frag} {H : Hp} {ρ : List Addr} : ∀ {ws : List W} {vs : List V} {us : List W} {zs : List V}, RepAll K H ρ ws vs → RepAll K H ρ us zs → RepAll K H ρ (ws ++ us) (vs ++ zs)
  | _, _, _, _, .nil, h => h
  | _, _, _, _, .cons a b, h => .cons a (L2.RepAll_append b h)
theorem pd_callD {g : OC} {dw : List W} {fa : FA} (h : KnD X.prog X.w X.K X.mg X.base EX x k ps g dw) (hgd : X.A.guards = some []) (hr : Room k X.A) (hg : Gl X x) (tk : Takes X U)
    (ha : PDA X EX U (e :: es) fa) (hdb : (x == ("__debug__" : Str)) = false := by decide) (h1 : starEach (e :: es) X.env = (false, eval e X.env) :: starEach es X.env := by rfl) (h2 : (backTo pos (starEach es X.env)).any (·.1) = false := by rfl) :
    PD X EX U (.Call (.Name x p) (e :: es) [] pos) (fCB (fun ws => g (ws ++ dw)) fa) := by
  obtain ⟨f, fd, dV, ds, hm, hk, hb, hd, hw, Fn⟩ := h
  refine ⟨fun pins s σ H Q I h => ?_⟩
  refine wpAny_Call_Name_kw (ld_glob I hg hm ?_ hdb)
  have h' := tG_bind (r1 := RepAll X.K) (g := fun env ws st => g (ws ++ dw) st) h
  refine PySem.W.callWith_K (h₀ := X.base) I.ok.mod.kin hk (thn (ha.run pos pins s σ H _ I h') fun us s1 z => ?_) h1 h2
  obtain ⟨vs, H1, I1, rv, ρ, env, st, ws, r', st', hR, E, rw', e, p⟩ := z
  refine ⟨I1.kIn, runD Fn hgd hr hb hd tk I1 rv ⟨ρ, st, ws ++ dw, r', st', hR, L2.RepAll_append rw' (hw _ _), e, ?_⟩⟩
  cases r' with
  | ok w => exact p
  | exc x => exact p
end
section
variable {P : Program} {w : World} {K : PySem.W.Frag} {mg : Str → Option Value} {base : Heap} {k : Nat} {f : Addr} {x qual : Str} {params : Arguments} {body : List Stmt} {scope : Scope} {dvs : List V} {kws : List (Str × V)} {fd : FuncData} {N ps : List Str} {EX : XR}
theorem fnJD_of {fb : FS} {g : OC} (Fn : FunD K x qual params body scope dvs kws f fd) (S : FnScope N ps scope) (hg : g = mkF ps.length N.length fb)
    (hp : ∀ (cdv : Value) (A : Around) (ou : List Env) (s : Shared) (H : Hp) (E : XK), A.guards = some [] → Room k (A.deeper (envOfC qual scope s.heap.objs.size f cdv)) →
      PDB (cxOf (L2.CX P w) P w K mg base N qual scope f cdv A ou s H E) EX (fun cls d _ H => E cls d H) body fb) : FnG P w K mg base (k + 1) f fd ps (spI w K EX g) := hg ▸ fnI_of Fn S hp
/-- a def with defaults: known when every value is written -/
theorem knF_of {fb : FS} {g : OC} (Fn : FunD K x qual params body scope dvs kws f fd) (hm : mg x = some (.ref f)) (hb : Binds K fd ps []) (S : FnScope N ps scope) (hg : g = mkF ps.length N.length fb)
    (hp : ∀ (cdv : Value) (A : Around) (ou : List Env) (s : Shared) (H : Hp) (E : XK), A.guards = some [] → Room k (A.deeper (envOfC qual scope s.heap.objs.size f cdv)) →
      PDB (cxOf (L2.CX P w) P w K mg base N qual scope f cdv A ou s H E) EX (fun cls d _ H => E cls d H) body fb) : Kn P w K mg base EX x (k + 1) ps g :=
  ⟨f, fd, hm, Fn.kp, hb, hg ▸ fnI_of Fn S hp⟩
/-- .. and when the defaults fill up -/
theorem knD_of {fb : FS} {g : OC} {dV : List V} {ds : List Value} {dw : List W} (Fn : FunD K x qual params body scope dvs kws f fd) (hm : mg x = some (.ref f)) (hb : Binds K fd ps ds) (hd : Vals dV ds) (hw : ∀ H ρ, RepAll K H ρ dw dV) (S : FnScope N ps scope) (hg : g = mkF ps.length N.length fb)
    (hp : ∀ (cdv : Value) (A : Around) (ou : List Env) (s : Shared) (H : Hp) (E : XK), A.guards = some [] → Room k (A.deeper (envOfC qual scope s.heap.objs.size f cdv)) →
      PDB (cxOf (L2.CX P w) P w K mg base N qual scope f cdv A ou s H E) EX (fun cls d _ H => E cls d H) body fb) : KnD P w K mg base EX x (k + 1) ps g dw :=
  ⟨f, fd, dV, ds, hm, Fn.kp, hb, hd, hw, hg ▸ fnI_of Fn S hp⟩
end
end DI

namespace DI
open PySem L2 PySem.Spec PyProof.Rows
/-! ### {k: v} with a tuple as key -/
def fDict1 (fk fv : FE) : FE := fun env st => bnd (fk env (st ++ [.emp])) fun kw st1 => bnd (fv env st1) fun vw st2 => match keyW kw, st2[st.length]? with
  | some k, some .emp => ret (.ref st.length) (st2.set st.length (.dct (storeW [] kw k vw)))
  | _, _ => none
section
variable {X : Cx} {EX : XR} {U : WX} {pos : Pos} {k v : Expr}
theorem pd_disp1 (hu : X.A.units + 65 < cLine) {fk fv : FE} (hk : PD X EX U k fk) (hv : PD X EX U v fv) : PD X EX U (.Dict [some k] [v] pos) (fDict1 fk fv) := by
  refine ⟨fun pins s σ H Q I h => ?_⟩
  obtain ⟨ρ, env, st, r, st', hR, E, e, p⟩ := h
  have hn := I.hok.fresh (Nat.le_refl s.heap.objs.size)
  have I1 := I.laid (a := s.heap.objs.size) (o := .dK []) (h' := s.heap.push { cls := .type "dict", data := .dict #[] }) (t' := s.toks) (fun _ _ q => Heap.get?_push_of_some _ q) (Nat.le_refl _) (dk_empty s.heap I.big)
  have R1 := hR.emp hn
  have x1 : Ext H ρ (upd H s.heap.objs.size (.dK [])) (ρ ++ [s.heap.objs.size]) := Ext.alloc hn
  have E1 := E.mono hR x1
  have room : (nestedKind X.prog X.w).room X.A := by show X.A.units + 8 < cLine; omega
  have at0 : (ρ ++ [s.heap.objs.size])[st.length]? = some s.heap.objs.size := by
    rw [← hR.len]; simp
  rw [arm_eval_Dict, zip_pairTrees [some k] [v] X.env pos rfl rfl, dictDisplay_pairs (pairTrees [some k] [v] X.env pos) (by simp [pairTrees]) (by simp [pairTrees])]
  refine wpAny_bind (wpAny_standAt (wpAny_bind (wpAny_subDictH (knd := nestedKind X.prog X.w) (Q := fun d s' => wpAny (model X.prog X.w) X.A (pure (Value.ref d)) (EP X pins σ Q) X.xe s') room (by simp [pairTrees]) ?_)))
  have e : bnd (fk env (st ++ [.emp])) (fun kw st1 => bnd (fv env st1) fun vw st2 => match keyW kw, st2[st.length]? with
    | some k, some .emp => ret (W.ref st.length) (st2.set st.length (.dct (storeW [] kw k vw)))
    | _, _ => none) = some (r, st') := e
  have fin : tI X.w X.K EX U fk σ (upd H s.heap.objs.size (.dK [])) fun kv Hk => tI X.w X.K EX U fv σ Hk fun vv H2 => ∃ (ρ2 : List Addr) (st2 : Sto) (kw vw : W) (key : NestedKey), HR X.w X.K H2 ρ2 st2 ∧ Rep X.K H2 ρ2 kw kv ∧ Rep X.K H2 ρ2 vw vv ∧ keyW kw = some key ∧ st2[st.length]? = some .emp ∧ ρ2[st.length]? = some s.heap.objs.size ∧
      ∀ H', Ext H2 ρ2 H' ρ2 → HR X.w X.K H' ρ2 (st2.set st.length (.dct (storeW [] kw key vw))) → Q (.ref s.heap.objs.size) H' := by
    cases qk : fk env (st ++ [.emp]) with
    | none => rw [qk] at e; cases e
    | some o =>
      obtain ⟨rk, s1⟩ := o
      rw [qk] at e
      cases rk with
      | exc x =>
        cases e
        exact ⟨_, env, _, .exc x, st', R1, E1, qk, fun c d H' ρ' e' R' q' => p c d H' ρ' (x1.trans e') R' q'⟩
      | ok kw =>
        refine ⟨_, env, _, .ok kw, s1, R1, E1, qk, fun kv Hk ρk ek Rk rk => ?_⟩
        have Ek := E1.mono R1 ek
        have e : bnd (fv env s1) (fun vw st2 => match keyW kw, st2[st.length]? with
          | some k, some .emp => ret (W.ref st.length) (st2.set st.length (.dct (storeW [] kw k vw)))
          | _, _ => none) = some (r, st') := e
        cases qv : fv env s1 with
        | none => rw [qv] at e; cases e
        | some o =>
          obtain ⟨rv, s2⟩ := o
          rw [qv] at e
          cases rv with
          | exc x =>
            cases e
            exact ⟨_, env, _, .exc x, st', Rk, Ek, qv, fun c d H' ρ' e' R' q' => p c d H' ρ' ((x1.trans ek).trans e') R' q'⟩
          | ok vw =>
            refine ⟨_, env, _, .ok vw, s2, Rk, Ek, qv, fun vv H2 ρ2 e2 R2 rv => ?_⟩
            have e : (match keyW kw, s2[st.length]? with
              | some k, some .emp => ret (W.ref st.length) (s2.set st.length (.dct (storeW [] kw k vw)))
              | _, _ => none) = some (r, st') := e
            split at e
            · rename_i key hkey hemp
              cases e
              have at2 : ρ2[st.length]? = some s.heap.objs.size := by
                obtain ⟨l1, h1⟩ := ek.pre
                obtain ⟨l2, h2⟩ := e2.pre
                rw [h2, h1]
                have lt : st.length < (ρ ++ [s.heap.objs.size]).length := (List.getElem?_eq_some_iff.mp at0).1
                rw [List.getElem?_append_left (by rw [List.length_append]; omega), List.getElem?_append_left lt]
                exact at0
              exact ⟨ρ2, s2, kw, vw, key, R2, rk.mono Rk e2, rv, hkey, hemp, at2, fun H' e3 R3 => p (.ref _) H' ρ2 (((x1.trans ek).trans e2).trans e3) R3 (.ref at2)⟩
            · cases e
  refine pairTrees_cons_walk (thn (hk.run pins _ σ _ _ I1 fin) fun ku s1 ⟨kv, H1, Ik, rku, q1⟩ => thn (hv.run pins s1 σ H1 _ Ik q1) fun vu s2 ⟨vv, H2, I2, rvu, q2⟩ => pairTrees_nil_walk ?_)
  obtain ⟨ρ2, st2, kw, vw, key, R2, rk, rv, hkey, hemp, at2, post⟩ := q2
  have hd : dctOf (.ref st.length) st2 = some [] := by unfold dctOf; simp only; rw [hemp]
  obtain ⟨n, da, kb, ys, vs, en, hn2, ea0, ea, rfl, rfl, h1, h2, h3, h4, h5, h6, h7, h8, h9⟩ := dk_heap I2 R2 (.ref at2) rk (show RelV (.ref s.heap.objs.size) (.ref s.heap.objs.size) from rfl) rku hd hkey
  cases en
  have ed : da = s.heap.objs.size := by
    have := hn2.symm.trans at2
    exact Option.some.inj this
  subst ed
  have ey : ys = [] := by
    cases ys with
    | nil => rfl
    | cons _ _ => cases h4
  subst ey
  refine ⟨[(key, kb, vu)], ⟨rfl, rfl, h3, trivial⟩, h1, fun h' tk hm hs => ?_⟩
  obtain ⟨H', I', x', R'⟩ := stored_inv (t' := tk) I2 R2 at2 hkey rk rv rvu h2 h4 h6 h7 h8 h9 hm hs
  exact wpAny_pure ⟨.ref s.heap.objs.size, H', I', rfl, post H' x' R'⟩
end
end DI

namespace DI
open PySem L2 PySem.Spec PyProof.Rows
/-! ### the truth of a list -/
def asL (w : W) (st : Sto) : Out Bool := match w with
  | .ref n => match st[n]? with
    | some (.lst ws) => ret (!ws.isEmpty) st
    | _ => none
  | _ => none
def fTruL (f : FE) : FT := fun env st => bnd (f env st) asL
section
variable {X : Cx} {EX : XR} {U : WX} {a : Expr}
theorem pdt_list {f : FE} (h : PD X EX U a f) (he : ∀ whole, isTrue a X.env whole = (do let v ← whole; standAt a.pos; holding [v] (truthy v)) := by intro _; rfl) : PDT X EX U a (fTruL f) := by
  refine (pt_truth h he).imp fun σ H Q q => ?_
  refine (tG_bind (r1 := Rep X.K) (g := fun _ w st => asL w st) q).imp fun x H1 h1 => ?_
  obtain ⟨ρ, env, st, w, r', st', R, E, rw', e, p⟩ := h1
  have e : asL w st = some (r', st') := e
  unfold asL at e
  split at e
  · split at e
    · rename_i ws hw
      cases e
      cases rw' with
      | @ref _ ad hk =>
        obtain ⟨us, e1, r1⟩ : ∃ us, H1 ad = some (.lst us) ∧ RepAll X.K H1 ρ ws us := R.ob _ ad _ hk hw
        refine ⟨!ws.isEmpty, .inl ⟨us, .inl (.inl e1), ?_⟩, p _ H1 ρ (Ext.refl _ _) R rfl⟩
        cases r1 <;> rfl
    · cases e
  · cases e
end
end DI

namespace DI
open PySem L2 PySem.Spec PyProof.Rows
/-! ### f(a, .., k = v, ..) -/
def fCat (fa fk : FA) : FA := fun env st => bnd (fa env st) fun ws st => bnd (fk env st) fun zs st => ret (ws ++ zs) st
theorem fcat_nil (fk : FA) : fCat fNil fk = fk := by
  funext env st
  show bnd (fk env st) (fun zs st => ret ([] ++ zs) st) = _
  cases q : fk env st with
  | none => rfl
  | some o =>
    obtain ⟨r, s1⟩ := o
    cases r <;> rfl
theorem fcat_cons (f : FE) (fa fk : FA) : fCat (fCons f fa) fk = fCons f (fCat fa fk) := by
  funext env st
  unfold fCat fCons
  cases q : f env st with
  | none => rfl
  | some o =>
    obtain ⟨r, s1⟩ := o
    cases r with
    | exc x => rfl
    | ok w =>
      simp only [bnd]
      cases q2 : fa env s1 with
      | none => rfl
      | some o =>
        obtain ⟨r2, s2⟩ := o
        cases r2 with
        | exc x => rfl
        | ok ws =>
          simp only [ret]
          cases q3 : fk env s2 with
          | none => rfl
          | some o =>
            obtain ⟨r3, s3⟩ := o
            cases r3 <;> rfl
section
variable {X : Cx} {EX : XR} {U : WX} {x : Str} {p pos : Pos} {kws : List Keyword} {k n : Nat} {ks : List Str} {ix : List Nat} {a : Expr} {es : List Expr}
theorem pd_callKwN {g : OC} {fa fk : FA} (h : KnK X.prog X.w X.K X.mg X.base EX x k n ks ix g) (hgd : X.A.guards = some []) (hr : Room k X.A) (hg : Gl X x) (tk : Takes X U) (ha : PDA X EX U (a :: es) fa) (hk : PDK X EX U kws fk)
    (hna : ∀ env st ws st', fa env st = some (.ok ws, st') → ws.length = n) (hn : ∀ env st ws st', fk env st = some (.ok ws, st') → ws.length = ks.length)
    (hall : (backToKw pos (keywordEach kws X.env)).all (·.1.isSome) = true := by rfl) (hks : (backToKw pos (keywordEach kws X.env)).filterMap (·.1) = ks := by rfl) (hdb : (x == ("__debug__" : Str)) = false := by decide)
    (hpl : ((backTo pos (starEach (a :: es) X.env)).any (·.1) || (backToKw pos (keywordEach kws X.env)).any (·.1.isNone)) = false := by rfl) (he : starEach (a :: es) X.env = (false, eval a X.env) :: starEach es X.env := by rfl) :
    PD X EX U (.Call (.Name x p) (a :: es) kws pos) (fCB (fun ws st => g (pick ws ix) st) (fCat fa fk)) := by
  obtain ⟨f, fd, ps, hm, kp, hb, Fn⟩ := h
  refine ⟨fun pins s σ H Q I h => ?_⟩
  refine wpAny_Call_Name_kw (ld_glob I hg hm ?_ hdb)
  have h' : tA X.w X.K EX U fa σ H fun vs H1 => tA X.w X.K EX U fk σ H1 fun zs H2 => ∃ (ρ : List Addr) (st : Sto) (ws us : List W) (r' : DI.R W) (st' : Sto), HR X.w X.K H2 ρ st ∧ RepAll X.K H2 ρ ws vs ∧ RepAll X.K H2 ρ us zs ∧ ws.length = n ∧ us.length = ks.length ∧ g (pick (ws ++ us) ix) st = some (r', st') ∧ Post X.w X.K EX U (Rep X.K) σ H2 ρ r' st' Q := by
    obtain ⟨ρ, env, st, r, st', hR, E, e, p⟩ := h
    have e : bnd (bnd (fa env st) fun ws st => bnd (fk env st) fun zs st => ret (ws ++ zs) st) (fun ws st => g (pick ws ix) st) = some (r, st') := e
    cases q : fa env st with
    | none => rw [q] at e; cases e
    | some o =>
      obtain ⟨ro, s1⟩ := o
      rw [q] at e
      cases ro with
      | exc y => cases e; exact ⟨ρ, env, st, .exc y, st', hR, E, q, p⟩
      | ok ws =>
        refine ⟨ρ, env, st, .ok ws, s1, hR, E, q, fun vs H1 ρ1 e1 R1 r1 => ?_⟩
        have e : bnd (bnd (fk env s1) fun zs st => ret (ws ++ zs) st) (fun ws st => g (pick ws ix) st) = some (r, st') := e
        cases q2 : fk env s1 with
        | none => rw [q2] at e; cases e
        | some o =>
          obtain ⟨ro, s2⟩ := o
          rw [q2] at e
          cases ro with
          | exc y => cases e; exact ⟨ρ1, env, s1, .exc y, st', R1, E.mono hR e1, q2, p.ext e1⟩
          | ok us => exact ⟨ρ1, env, s1, .ok us, s2, R1, E.mono hR e1, q2, fun zs H2 ρ2 e2 R2 r2 => ⟨ρ2, s2, ws, us, r, st', R2, r1.mono R1 e2, r2, hna _ _ _ _ q, hn _ _ _ _ q2, e, (p.ext e1).ext e2⟩⟩
  refine PySem.W.callWith_KW (h₀ := X.base) I.ok.mod.kin kp hall (thn (ha.run pos pins s σ H _ I h') fun us s1 z => ?_) hpl he
  obtain ⟨vs, H1, I1, rv, z1⟩ := z
  refine thn (hk.run pos pins s1 σ H1 _ I1 z1) fun us2 s2 z => ?_
  obtain ⟨zs, H2, I2, rz, ρ, st, ws, us', r', st', hR, rw1, rw2, hw1, hw2, e, p⟩ := z
  rw [hks]
  have l1 : us.length = n := by rw [← rv.length, ← rw1.length]; exact hw1
  have l2 : us2.length = ks.length := by rw [← rz.length, ← rw2.length]; exact hw2
  have hb1 := hb s2 us us2 l1 l2
  refine ⟨I2.kIn, runGK Fn hgd hr hb1 tk I2 (vals_pick (rv.append rz) ix) ⟨ρ, st, pick (ws ++ us') ix, r', st', hR, (L2.RepAll_append rw1 rw2).pick ix, e, ?_⟩⟩
  cases r' with
  | ok w => exact p
  | exc x => exact p
theorem pd_cat {e : Expr} {g : OC} {f f' : FA} (h : PD X EX U e (fCB g f)) (q : f = f' := by simp only [fcat_cons, fcat_nil]) : PD X EX U e (fCB g f') := q ▸ h
end
end DI

namespace DI
open PySem L2 PySem.Spec PyProof.Rows
/-! ### dict(pairs), the keys tuples -/
def pairW : W → Option (W × W)
  | .tup [k, v] => some (k, v)
  | _ => none
def pairsW : List W → Option (List (W × W))
  | [] => some []
  | w :: ws => match pairW w, pairsW ws with
    | some p, some ps => some (p :: ps)
    | _, _ => none
def storeAllW : List (W × W) → List (W × W) → Option (List (W × W))
  | acc, [] => some acc
  | acc, p :: ps => match keyW p.1 with
    | some key => storeAllW (storeW acc p.1 key p.2) ps
    | none => none
def listW (w : W) (st : Sto) : Option (List W) := match w with
  | .ils ws => some ws
  | .ref k => (match st[k]? with
    | some (.lst ws) => some ws
    | _ => none)
  | _ => none
def opDictP : OC := fun ws st => match ws with
  | [w] => (match listW w st with
    | some es => (match pairsW es with
      | some ps => (match storeAllW [] ps with
        | some kvs => if szW es.length then some (.ok (.ref st.length), st ++ [.dct kvs]) else none
        | none => none)
      | none => none)
    | none => none)
  | _ => none
inductive PrR (X : Cx) (H : Hp) (ρ : List Addr) (h : Heap) : List (W × W) → List Addr → List (NestedKey × Addr × Value) → Prop
  | nil : PrR X H ρ h [] [] []
  | cons {p : W × W} {T kb : Addr} {key : NestedKey} {v : V} {u : Value} {ps : List (W × W)} {Ts : List Addr} {ys : List (NestedKey × Addr × Value)} : keyW p.1 = some key → Rep X.K H ρ p.1 (.ref kb) → Rep X.K H ρ p.2 v → RelV v u → PairAt h T (.ref kb) u → (nestedKind X.prog X.w).is h key kb → PrR X H ρ h ps Ts ys → PrR X H ρ h (p :: ps) (T :: Ts) ((key, kb, u) :: ys)
theorem PrR.len {X : Cx} {H : Hp} {ρ : List Addr} {h : Heap} : ∀ {ps : List (W × W)} {Ts : List Addr} {ys : List (NestedKey × Addr × Value)}, PrR X H ρ h ps Ts ys → Ts.length = ys.length
  | _, _, _, .nil => rfl
  | _, _, _, .cons _ _ _ _ _ _ t => by simp [t.len]
theorem PrR.at {X : Cx} {H : Hp} {ρ : List Addr} {h : Heap} : ∀ {ps : List (W × W)} {Ts : List Addr} {ys : List (NestedKey × Addr × Value)}, PrR X H ρ h ps Ts ys → ∀ {j : Nat} {y : NestedKey × Addr × Value}, ys[j]? = some y → Ts[j]? = some (Ts.getD j 0) ∧ PairAt h (Ts.getD j 0) (.ref y.2.1) y.2.2
  | _, _, _, .nil, j, y, e => by simp at e
  | _, _, _, .cons _ _ _ _ pa _ t, 0, y, e => by simp at e; subst e; exact ⟨rfl, pa⟩
  | _, _, _, .cons _ _ _ _ pa _ t, j + 1, y, e => by
    have := t.at (j := j) (y := y) (by simpa using e)
    simpa using this
theorem PrR.is {X : Cx} {H : Hp} {ρ : List Addr} {h : Heap} : ∀ {ps : List (W × W)} {Ts : List Addr} {ys : List (NestedKey × Addr × Value)}, PrR X H ρ h ps Ts ys → ∀ y ∈ ys, (nestedKind X.prog X.w).is h y.1 y.2.1
  | _, _, _, .nil, y, m => by cases m
  | _, _, _, .cons _ _ _ _ _ is t, y, m => by
    rcases List.mem_cons.mp m with z | z
    · rw [z]; exact is
    · exact t.is y z
theorem pr_of {X : Cx} {pins : List (Addr × Obj)} {σ : L2.St} {H : Hp} {s : Shared} {ρ : List Addr} (I : Inv X pins σ H s) : ∀ {es : List W} {xs : List V} {us : List Value} {ps acc kvs : List (W × W)}, RepAll X.K H ρ es xs → Vals xs us → pairsW es = some ps → storeAllW acc ps = some kvs → ∃ Ts ys, us = Ts.map Value.ref ∧ PrR X H ρ s.heap ps Ts ys
  | [], _, _, _, _, _, .nil, .nil, e, _ => by cases e; exact ⟨[], [], rfl, .nil⟩
  | w :: es, _, _, ps, acc, kvs, .cons r1 r2, .cons v1 v2, e, e2 => by
    unfold pairsW at e
    split at e
    · rename_i p ps' h1 h2
      cases e
      unfold storeAllW at e2
      split at e2
      · rename_i key hk
        obtain ⟨Ts, ys, hu, P⟩ := pr_of I r2 v2 h2 e2
        unfold pairW at h1
        split at h1
        · rename_i k v
          cases h1
          cases r1 with
          | @tup T xs _ t1 t2 =>
            cases (show _ = Value.ref T from v1)
            obtain ⟨its, vv, p, _⟩ := I.tuple t1
            cases t2 with
            | cons a1 a2 =>
              cases a2 with
              | cons b1 b2 =>
                cases b2
                cases vv with
                | cons c1 c2 =>
                  cases c2 with
                  | cons d1 d2 =>
                    cases d2
                    obtain ⟨nk, dep⟩ := keyW_nk hk
                    have is := nk_is I a1 c1 nk
                    unfold keyW at hk
                    split at hk
                    · rename_i ws hkw
                      dsimp only at hkw
                      subst hkw
                      cases a1 with
                      | @tup kb xs2 _ q1 q2 =>
                        cases (show _ = Value.ref kb from c1)
                        exact ⟨T :: Ts, (key, kb, _) :: ys, by rw [hu]; rfl, .cons (by simp only [keyW]; exact hk) (.tup q1 q2) b1 d1 (.inl p) ⟨is, dep⟩ P⟩
                    · cases hk
        · cases h1
      · cases e2
    · cases e
theorem storeAll_rel {X : Cx} {H : Hp} {ρ : List Addr} {h : Heap} : ∀ {ps : List (W × W)} {Ts : List Addr} {ys : List (NestedKey × Addr × Value)}, PrR X H ρ h ps Ts ys → ∀ {acc kvs : List (W × W)} {zs : List (NestedKey × Addr × Value)} {vs : List V}, storeAllW acc ps = some kvs → acc.map (fun p => nkW p.1) = zs.map (fun y => some y.1) → RepAll X.K H ρ (acc.map (·.1)) (zs.map fun y => .ref y.2.1) → RepAll X.K H ρ (acc.map (·.2)) vs → Vals vs (zs.map fun y => y.2.2) →
    ∃ vs', kvs.map (fun p => nkW p.1) = (storedAllH zs ys).map (fun y => some y.1) ∧ RepAll X.K H ρ (kvs.map (·.1)) ((storedAllH zs ys).map fun y => .ref y.2.1) ∧ RepAll X.K H ρ (kvs.map (·.2)) vs' ∧ Vals vs' ((storedAllH zs ys).map fun y => y.2.2)
  | _, _, _, .nil, acc, kvs, zs, vs, e, h1, h2, h3, h4 => by
    cases e
    exact ⟨vs, h1, h2, h3, h4⟩
  | _, _, _, .cons (p := p) (key := key) (kb := kb) (u := u) hk rk rv ru _ _ t, acc, kvs, zs, vs, e, h1, h2, h3, h4 => by
    unfold storeAllW at e
    rw [hk] at e
    obtain ⟨nk, _⟩ := keyW_nk hk
    obtain ⟨vs', i1, i2, i3, i4⟩ := store_rel (w := p.2) nk rk rv ru h1 h2 h3 h4
    exact storeAll_rel t (zs := storedH zs key kb u) e i1 i2 i3 i4
def rDictP (w0 : World) (K : PySem.W.Frag) : List V → Hp → VK → Prop := fun vs H Q => ∃ (x : V) (ρ : List Addr) (st : Sto) (w : W) (es : List W) (ps kvs : List (W × W)), vs = [x] ∧ HR w0 K H ρ st ∧ Rep K H ρ w x ∧ listW w st = some es ∧ pairsW es = some ps ∧ storeAllW [] ps = some kvs ∧ szW es.length = true ∧
  ∀ v H' ρ', Ext H ρ H' ρ' → HR w0 K H' ρ' (st ++ [.dct kvs]) → Rep K H' ρ' (.ref st.length) v → Q v H'
theorem call_dictP {X : Cx} (hc : X.calm = true) (hu : X.A.units + 65 < cLine) : CallR X (.type "dict") (rDictP X.w X.K) := by
  intro pins s σ H xs us Q I r h
  obtain ⟨x, ρ, st, w, es, ps, kvs, rfl, hR, rw', he, hp, hs, hz, q⟩ := h
  obtain ⟨u, rfl, ru⟩ := vals1 r
  have room : (nestedKind X.prog X.w).room X.A.in1.in1 := by show X.A.units + 1 + 1 + 8 < cLine; omega
  have lst : ∀ (a : Addr) (ys : List V), SqL X.K H a ys → u = .ref a → RepAll X.K H ρ es ys → wpAny (model X.prog X.w) X.A (call (.type "dict") [u]) (EP X pins σ Q) X.xe s := fun a ys h1 eu h2 => by
    subst eu
    obtain ⟨its, rv, p', _⟩ := I.list h1
    obtain ⟨Ts, zs, hus, P⟩ := pr_of I h2 rv hp hs
    have len1 : its.length = zs.length := by rw [hus, List.length_map, P.len]
    have len2 : zs.length = es.length := by rw [← len1, ← rv.length, ← h2.length]
    have get : ∀ {j : Nat} {k v : Value}, (zs.map fun y => (Value.ref y.2.1, y.2.2))[j]? = some (k, v) → ∃ y, zs[j]? = some y ∧ k = .ref y.2.1 ∧ v = y.2.2 := fun {j k v} e => by
      rw [List.getElem?_map] at e
      cases q0 : zs[j]? with
      | none => rw [q0] at e; cases e
      | some y => rw [q0] at e; cases e; exact ⟨y, rfl, rfl, rfl⟩
    refine call_dict_pairsH (knd := nestedKind X.prog X.w) (ps := zs) (PairArg.list a its.toArray (fun j => Ts.getD j 0) (zs.map fun y => (Value.ref y.2.1, y.2.2))) (I.ok.hd hc) room ⟨?_, ?_, fun j k v e => ?_⟩ ⟨by simp, fun i key v e => ?_⟩ (fun h' hk y hy => ?_) (by rw [List.length_map, len2]; exact sz_ok hz) fun h' tk hd hk => ?_
    · obtain ⟨o, n, a1, a2, a3, a4⟩ := p'
      exact ⟨o, n, a1, a2, a3, a4⟩
    · simp [len1]
    · obtain ⟨y, e1, rfl, rfl⟩ := get e
      obtain ⟨t1, t2⟩ := P.at e1
      refine ⟨?_, t2⟩
      rw [List.getElem?_toArray, hus, List.getElem?_map, t1]; rfl
    · obtain ⟨y, e1, rfl, rfl⟩ := get e
      exact ⟨y.1, y.2.1, e1, rfl⟩
    · exact nestedKind_stays.stays (fun b o vs n e _ => hk b o (Nat.ne_of_lt (Heap.lt_size e)) (by simp) e) (P.is y hy)
    · obtain ⟨o, ents, ep, ho, hx, hdt, hes, his, hnd⟩ := hd
      have hn := I.hok.fresh (Nat.le_refl s.heap.objs.size)
      obtain ⟨vs', i1, i2, i3, i4⟩ := storeAll_rel P (zs := []) (vs := []) hs rfl .nil .nil .nil
      have h2 : (s.heap.objs.size == sysModules) = false := by
        have := hR.smNe hn
        exact beq_false_of_ne fun z => this z.symm
      have new : ObjOk X.prog X.w (upd H s.heap.objs.size (DctO X.w s.heap.objs.size (storedAllH [] zs))) h' s.heap.objs.size (DctO X.w s.heap.objs.size (storedAllH [] zs)) :=
        ⟨⟨h2, o, ents, ep, ho, hx, hdt, hes, hnd⟩, ⟨o, ho⟩, fun a1 a2 ⟨q1, o', es', ep', q2, q3⟩ k' => ⟨q1, o', es', ep', k' _ q2, q3⟩⟩
      have x1 : Ext H ρ (upd H s.heap.objs.size (DctO X.w s.heap.objs.size (storedAllH [] zs))) (ρ ++ [s.heap.objs.size]) := Ext.alloc hn
      refine ⟨.ref s.heap.objs.size, _, I.laid (fun b o e => hk b o (by simp) e) (Nat.le_refl _) new, rfl, q _ _ (ρ ++ [s.heap.objs.size]) x1 (hR.new hn ⟨storedAllH [] zs, vs', upd_same, i1, fun y hy => (his y hy).2, i2.mono hR x1, i3.mono hR x1, i4⟩) (.ref ?_)⟩
      rw [← hR.len]; simp
  unfold listW at he
  split at he
  · cases he
    cases rw' with
    | ils h1 h2 => exact lst _ _ h1.sq ru h2
  · rename_i k
    cases rw' with
    | @ref _ a hk =>
      split at he
      · rename_i ws hw
        cases he
        obtain ⟨xs, e1, e2⟩ := hR.ob k a _ hk hw
        exact lst a xs (.inl (.inl e1)) ru e2
      · cases he
  · cases he
theorem clr_dictP {w0 : World} {K : PySem.W.Frag} : CLR w0 K (rDictP w0 K) opDictP := by
  intro vs H Q ρ st st' ws w hR rs e p
  unfold opDictP at e
  split at e
  · rename_i w'
    split at e
    · rename_i es he
      split at e
      · rename_i ps hp
        split at e
        · rename_i kvs hs
          split at e
          · rename_i hz
            cases e
            obtain ⟨x, rfl, rx⟩ := all1 rs
            exact ⟨x, ρ, st, w', es, ps, kvs, rfl, hR, rx, he, hp, hs, hz, p⟩
          · cases e
        · cases e
      · cases e
    · cases e
  · cases e
theorem nox_dictP (ws : List W) (st : Sto) : NoX (opDictP ws st) := fun x st' e => by
  unfold opDictP at e
  split at e
  · split at e
    · split at e
      · split at e
        · split at e <;> cases e
        · cases e
      · cases e
    · cases e
  · cases e
end DI

namespace DI
open PySem L2 PySem.Spec PyProof.Rows
/-! ### a, b = a tuple or a list -/
def seqW2 (w : W) (st : Sto) : Option (List W) := match w with
  | .tup ws => some ws
  | w => listW w st
def fUnpA (f : FE) (n : Nat) (ts : Tgs) : FS := fun env st => bS (f env st) env fun w st => match seqW2 w st with
  | some ws => if ws.length = n then (ts ws env).map fun env' => (.nx, env', st) else none
  | none => none
def gEi (g1 g2 : TG) : TG := fun v σ H Q => g1 v σ H Q ∨ g2 v σ H Q
theorem pg_ei {X : Cx} {e : Expr} {g1 g2 : TG} (h1 : PG X e g1) (h2 : PG X e g2) : PG X e (gEi g1 g2) := ⟨fun pins s σ H v u Q I r h => h.elim (h1.run pins s σ H v u Q I r) (h2.run pins s σ H v u Q I r)⟩
section
variable {X : Cx} {EX : XR} {U : WX} {pos tpos : Pos} {es : List Expr} {k : Nat}
theorem pds_unpA {e : Expr} {js : List Nat} {gs : TGs} {ts : Tgs} {f : FE} {n : Nat} (hc : X.calm = true) (he : PD X EX U e f) (hg : PGs X es gs) (ht : TgsR X.K js gs ts) (hn : (assignEach es X.env).length = n := by rfl) (hst : (assignEach es X.env).findIdx? (·.1) = none := by rfl)
    (hs : swapsWithSole [.Tuple es k tpos] e pos.line X.env = pure false := by rfl) (hw : swappedStores [.Tuple es k tpos] e X.env = pure none := by rfl)
    (h1 : (assignEach [.Tuple es k tpos] X.env).map (·.2) = [assign (.Tuple es k tpos) X.env] := by rfl) : PDS X EX U (.Assign [.Tuple es k tpos] e pos) (fUnpA f n ts) := by
  have hg2 : PG X (.Tuple es k tpos) (gEi (gTup X.K n gs) (gLst X.K n gs)) := pg_ei (pg_tup hc hg hn hst) (pg_lst hc hg hn hst)
  refine (ps_asg he hg2 hs hw h1).imp fun D σ H h => ?_
  refine (tS_bind (r1 := Rep X.K) (g := fun env w st => match seqW2 w st with
    | some ws => if ws.length = n then (ts ws env).map fun env' => (.nx, env', st) else none
    | none => none) h).imp fun x H1 k1 => ?_
  obtain ⟨ρ, env, st, w, fl, env', st', hR, E, rw', e, p⟩ := k1
  have e : (match seqW2 w st with
    | some ws => if ws.length = n then (ts ws env).map fun env' => (Fl.nx, env', st) else none
    | none => none) = some (fl, env', st') := e
  split at e
  · rename_i ws hws
    split at e
    · rename_i hl
      cases q : ts ws env with
      | none => rw [q] at e; cases e
      | some env1 =>
        rw [q] at e; cases e
        have fin : ∀ σ', EnvR X.K H1 ρ env' σ' → wipe σ' js = wipe σ js → _ := fun σ' E' _ => p σ' H1 ρ (Ext.refl _ _) hR E'
        unfold seqW2 at hws
        split at hws
        · cases hws
          cases rw' with
          | tup a1 a2 => exact .inl ⟨_, _, rfl, a1, by rw [← a2.length]; exact hl, ht E a2 q fin⟩
        · unfold listW at hws
          split at hws
          · cases hws
            cases rw' with
            | ils a1 a2 => exact .inr ⟨_, _, rfl, a1.sq, by rw [← a2.length]; exact hl, ht E a2 q fin⟩
          · cases rw' with
            | @ref m a hm =>
              split at hws
              · rename_i ws' hw'
                cases hws
                obtain ⟨xs, e1, e2⟩ := hR.ob _ a _ hm hw'
                exact .inr ⟨_, _, rfl, .inl (.inl e1), by rw [← e2.length]; exact hl, ht E e2 q fin⟩
              · cases hws
          · cases hws
    · cases e
  · cases e
end
/-! ### try .. except C: without a name -/
def fTryN (fb : FS) (tab : List (Str × Bool)) (su : FS) : FS := fun env st => match fb env st with
  | some (.exc x, env1, st1) => (match tab.lookup x.cls with
    | some true => (match su env1 st1 with
      | some (.exc _, _, _) => none
      | o => o)
    | some false => some (.exc x, env1, st1)
    | none => none)
  | o => o
section
variable {X : Cx} {U : WX} {x : Str} {body suite : List Stmt} {b₀ : Stmt} {np pos pos' : Pos} {tab : List (Str × Bool)} {fb su : FS}
theorem pds_tryN (hs : X.stack = X.env :: X.outer) (hf : X.env.frame = some X.env.locals) (hg : Gl X x) (hm : X.mg x = some (.ref (cA X.K x)))
    (ex : ∀ c b, tab.lookup c = some b → PySem.W.exmOne X.K (.ref (cA X.K c)) (.ref (cA X.K x)) = some b) (tk : Takes X U)
    (hb : ∀ (W : WX) (pn : List (Addr × Obj)) (xe : Value → Shared → Prop), Takes (X.tr pn xe) W → PassesOwn (model X.prog X.w) X.A X.env xe → PDB (X.tr pn xe) (EXc X.K) W body fb)
    (hsu : ∀ (a : Addr) (oe : Obj) (pn : List (Addr × Obj)), PDB (X.suite a ((a, oe) :: pn)) (EXc X.K) U0 (b₀ :: suite) su)
    (hdb : (x == ("__debug__" : Str)) = false := by decide) :
    PDS X (EXc X.K) U (.Try body [.ExceptHandler (some (.Name x np)) none (b₀ :: suite) pos'] [] [] pos) (fTryN fb tab su) := by
  refine (ps_try_only hs hf (c := .ref (cA X.K x)) ⟨hg, hdb, .inl hm⟩ tk (tb := fun W => tS X.w X.K (EXc X.K) W fb) (ts := fun _ _ _ => tS X.w X.K (EXc X.K) U0 su) hb (fun a oe cls d pn hz hfd => hsu a oe pn)).imp fun D σ H h => ?_
  obtain ⟨ρ, env, st, fl, env', st', hR, E, e, p⟩ := h
  unfold fTryN at e
  split at e
  · rename_i xc env1 st1 h1
    refine ⟨ρ, env, st, .exc xc, env1, st1, hR, E, h1, fun cls d σ' H' ρ' e' R' E' q => ?_⟩
    have ec : cls = .ref (cA X.K xc.cls) := q.1
    subst ec
    split at e
    · rename_i ht
      refine ⟨true, ex _ _ ht, fun _ a ha => ?_, fun z => by cases z⟩
      split at e
      · cases e
      · rename_i nx
        refine ⟨ρ', env1, st1, fl, env', st', R', E', e, ?_⟩
        cases fl with
        | nx => exact fun σ2 H2 ρ2 e2 R2 E2 => p _ H2 ρ2 (e'.trans e2) R2 E2
        | bk => exact fun σ2 H2 ρ2 e2 R2 E2 => p _ H2 ρ2 (e'.trans e2) R2 E2
        | ct => exact fun σ2 H2 ρ2 e2 R2 E2 => p _ H2 ρ2 (e'.trans e2) R2 E2
        | rt w => exact fun v H2 ρ2 e2 R2 r2 => p v H2 ρ2 (e'.trans e2) R2 r2
        | exc y => exact absurd e (nx _ _ _)
    · rename_i ht
      cases e
      exact ⟨false, ex _ _ ht, fun z => (by cases z), fun _ => p _ _ _ _ _ e' R' E' q⟩
    · cases e
  · rename_i nx
    refine ⟨ρ, env, st, fl, env', st', hR, E, e, ?_⟩
    cases fl with
    | nx => exact p
    | bk => exact p
    | ct => exact p
    | rt w => exact p
    | exc y => exact absurd e (nx _ _ _)
end
end DI

namespace DV
open PySem DI

abbrev D := PyData
abbrev XS := Nat → Prop
/-! ### deep values: w stands for d in the store st, by no number of X -/
mutual
inductive RX (st : Sto) (X : XS) : W → D → Prop
  | non : RX st X .non .none
  | bl (b : Bool) : RX st X (.bl b) (.bool b)
  | int (i : Int) : RX st X (.int i) (.int i)
  | str (x : Str) : RX st X (.str x) (.str x)
  | tup {ws : List W} {ds : List D} : RXs st X ws ds → RX st X (.tup ws) (.tuple ds)
  | ref {k : Nat} {ws : List W} {ds : List D} : st[k]? = some (.lst ws) → ¬ X k → RXs st X ws ds → RX st X (.ref k) (.list ds)
  | emp {k : Nat} : st[k]? = some .emp → ¬ X k → RX st X (.ref k) (.dict [])
  | dct {k : Nat} {kvs : List (W × W)} {p : D × D} {ps : List (D × D)} : st[k]? = some (.dct kvs) → ¬ X k → RXs st X (kvs.map (·.1)) ((p :: ps).map (·.1)) → RXs st X (kvs.map (·.2)) ((p :: ps).map (·.2)) → RX st X (.ref k) (.dict (p :: ps))
inductive RXs (st : Sto) (X : XS) : List W → List D → Prop
  | nil : RXs st X [] []
  | cons {w : W} {d : D} {ws : List W} {ds : List D} : RX st X w d → RXs st X ws ds → RXs st X (w :: ws) (d :: ds)
end
section
variable {st st' : Sto} {X X' : XS}
mutual
theorem RX.to (h : ∀ k o, st[k]? = some o → ¬ X k → st'[k]? = some o ∧ ¬ X' k) : ∀ {w : W} {d : D}, RX st X w d → RX st' X' w d
  | _, _, .non => .non
  | _, _, .bl b => .bl b
  | _, _, .int i => .int i
  | _, _, .str x => .str x
  | _, _, .tup r => .tup (RXs.to h r)
  | _, _, .ref e n r => .ref (h _ _ e n).1 (h _ _ e n).2 (RXs.to h r)
  | _, _, .emp e n => .emp (h _ _ e n).1 (h _ _ e n).2
  | _, _, .dct e n r s => .dct (h _ _ e n).1 (h _ _ e n).2 (RXs.to h r) (RXs.to h s)
theorem RXs.to (h : ∀ k o, st[k]? = some o → ¬ X k → st'[k]? = some o ∧ ¬ X' k) : ∀ {ws : List W} {ds : List D}, RXs st X ws ds → RXs st' X' ws ds
  | _, _, .nil => .nil
  | _, _, .cons a b => .cons (RX.to h a) (RXs.to h b)
end
theorem RX.anti (h : ∀ k, X' k → X k) {w : W} {d : D} (r : RX st X w d) : RX st X' w d := r.to fun k o e n => ⟨e, fun z => n (h k z)⟩
theorem RXs.anti (h : ∀ k, X' k → X k) {ws : List W} {ds : List D} (r : RXs st X ws ds) : RXs st X' ws ds := r.to fun k o e n => ⟨e, fun z => n (h k z)⟩
theorem RXs.length : ∀ {ws : List W} {ds : List D}, RXs st X ws ds → ws.length = ds.length
  | _, _, .nil => rfl
  | _, _, .cons _ t => by simp [RXs.length t]
theorem RXs.get : ∀ {ws : List W} {ds : List D} {i : Nat} {d : D}, RXs st X ws ds → ds[i]? = some d → ∃ w, ws[i]? = some w ∧ RX st X w d
  | _, _, _, _, .nil, e => by simp at e
  | _, _, 0, _, .cons r _, e => by simp at e; subst e; exact ⟨_, rfl, r⟩
  | _, _, i + 1, d, .cons _ t, e => by
    obtain ⟨w, h1, h2⟩ := RXs.get (i := i) (d := d) t (by simpa using e)
    exact ⟨w, by simpa using h1, h2⟩
theorem RXs.none {ws : List W} {ds : List D} {i : Nat} (r : RXs st X ws ds) (e : ds[i]? = none) : ws[i]? = none := by
  rw [List.getElem?_eq_none_iff] at e ⊢; rw [r.length]; exact e
theorem RXs.append : ∀ {ws us : List W} {ds es : List D}, RXs st X ws ds → RXs st X us es → RXs st X (ws ++ us) (ds ++ es)
  | _, _, _, _, .nil, s => s
  | _, _, _, _, .cons r t, s => .cons r (RXs.append t s)
theorem RXs.take : ∀ {ws : List W} {ds : List D} (n : Nat), RXs st X ws ds → RXs st X (ws.take n) (ds.take n)
  | _, _, 0, _ => .nil
  | _, _, _ + 1, .nil => .nil
  | _, _, n + 1, .cons r t => .cons r (RXs.take n t)
theorem RXs.drop : ∀ {ws : List W} {ds : List D} (n : Nat), RXs st X ws ds → RXs st X (ws.drop n) (ds.drop n)
  | _, _, 0, r => r
  | _, _, _ + 1, .nil => .nil
  | _, _, n + 1, .cons _ t => RXs.drop n t
theorem RXs.set {w : W} {d : D} (r : RX st X w d) : ∀ {ws : List W} {ds : List D} (n : Nat), RXs st X ws ds → RXs st X (ws.set n w) (ds.set n d)
  | _, _, _, .nil => .nil
  | _, _, 0, .cons _ t => .cons r t
  | _, _, n + 1, .cons q t => .cons q (RXs.set r n t)
theorem RXs.repl {ws : List W} {ds : List D} (r : RXs st X ws ds) : ∀ n : Nat, RXs st X (List.replicate n ws).flatten (List.replicate n ds).flatten
  | 0 => .nil
  | n + 1 => by rw [List.replicate_succ, List.replicate_succ, List.flatten_cons, List.flatten_cons]; exact r.append (r.repl n)
theorem pair_ext : ∀ {ps qs : List (D × D)}, ps.map (·.1) = qs.map (·.1) → ps.map (·.2) = qs.map (·.2) → ps = qs
  | [], [], _, _ => rfl
  | [], _ :: _, e, _ => by cases e
  | _ :: _, [], e, _ => by cases e
  | (a, b) :: ps, (c, d) :: qs, e, f => by
    have e1 : a = c := (List.cons.inj e).1
    have f1 : b = d := (List.cons.inj f).1
    subst e1 f1
    rw [pair_ext (List.cons.inj e).2 (List.cons.inj f).2]
theorem sz_fst : ∀ ps : List (D × D), sizeOf (ps.map (·.1)) ≤ sizeOf ps
  | [] => Nat.le_refl _
  | (a, b) :: ps => by have := sz_fst ps; simp only [List.map_cons, List.cons.sizeOf_spec, Prod.mk.sizeOf_spec]; omega
theorem sz_snd : ∀ ps : List (D × D), sizeOf (ps.map (·.2)) ≤ sizeOf ps
  | [] => Nat.le_refl _
  | (a, b) :: ps => by have := sz_snd ps; simp only [List.map_cons, List.cons.sizeOf_spec, Prod.mk.sizeOf_spec]; omega
/-! a deep value is one -/
mutual
theorem RX.fn {X2 : XS} : ∀ {w : W} {d e : D}, RX st X w d → RX st X2 w e → d = e
  | _, _, _, .non, h => by cases h; rfl
  | _, _, _, .bl b, h => by cases h; rfl
  | _, _, _, .int i, h => by cases h; rfl
  | _, _, _, .str x, h => by cases h; rfl
  | _, _, _, .tup r, h => by cases h with | tup s => rw [RXs.fn r s]
  | _, _, _, .ref e n r, h => by
    cases h with
    | ref e' n' s => rw [e] at e'; cases e'; rw [RXs.fn r s]
    | emp e' n' => rw [e] at e'; cases e'
    | dct e' n' _ _ => rw [e] at e'; cases e'
  | _, _, _, .emp e n, h => by
    cases h with
    | ref e' n' s => rw [e] at e'; cases e'
    | emp e' n' => rfl
    | dct e' n' _ _ => rw [e] at e'; cases e'
  | _, _, _, .dct e n r s, h => by
    cases h with
    | ref e' n' s => rw [e] at e'; cases e'
    | emp e' n' => rw [e] at e'; cases e'
    | dct e' n' r' s' => rw [e] at e'; cases e'; rw [pair_ext (RXs.fn r r') (RXs.fn s s')]
theorem RXs.fn {X2 : XS} : ∀ {ws : List W} {ds es : List D}, RXs st X ws ds → RXs st X2 ws es → ds = es
  | _, _, _, .nil, h => by cases h; rfl
  | _, _, _, .cons a b, h => by cases h with | cons c d => rw [RX.fn a c, RXs.fn b d]
end
/-! a list does not hold itself -/
mutual
theorem RX.less {n : Nat} {d0 : D} (h0 : RX st X (.ref n) d0) : ∀ {w : W} {d : D}, RX st X w d → sizeOf d < sizeOf d0 → RX st (fun k => X k ∨ k = n) w d
  | _, _, .non, _ => .non
  | _, _, .bl b, _ => .bl b
  | _, _, .int i, _ => .int i
  | _, _, .str x, _ => .str x
  | _, _, .tup (ds := ds) r, h => .tup (RXs.less h0 r (by simp only [PyData.tuple.sizeOf_spec] at h; omega))
  | _, _, .ref (k := k) (ds := ds) e nk r, h => by
    have hk : k ≠ n := fun z => by
      subst z
      have := RX.fn h0 (.ref e nk r)
      subst this
      omega
    exact .ref e (fun z => z.elim nk hk) (RXs.less h0 r (by simp only [PyData.list.sizeOf_spec] at h; omega))
  | _, _, .emp (k := k) e nk, h => by
    have hk : k ≠ n := fun z => by
      subst z
      have := RX.fn h0 (.emp e nk)
      subst this
      omega
    exact .emp e fun z => z.elim nk hk
  | _, _, .dct (k := k) (p := p) (ps := ps) e nk r s, h => by
    have hk : k ≠ n := fun z => by
      subst z
      have := RX.fn h0 (.dct e nk r s)
      subst this
      omega
    have s1 := sz_fst (p :: ps)
    have s2 := sz_snd (p :: ps)
    exact .dct e (fun z => z.elim nk hk) (RXs.less h0 r (by simp only [PyData.dict.sizeOf_spec] at h; omega)) (RXs.less h0 s (by simp only [PyData.dict.sizeOf_spec] at h; omega))
theorem RXs.less {n : Nat} {d0 : D} (h0 : RX st X (.ref n) d0) : ∀ {ws : List W} {ds : List D}, RXs st X ws ds → sizeOf ds < sizeOf d0 → RXs st (fun k => X k ∨ k = n) ws ds
  | _, _, .nil, _ => .nil
  | _, _, .cons (d := d) (ds := ds) a b, h => .cons (RX.less h0 a (by simp only [List.cons.sizeOf_spec] at h; omega)) (RXs.less h0 b (by simp only [List.cons.sizeOf_spec] at h; omega))
end
/-! reading -/
theorem zip_map : ∀ ps : List (D × D), (ps.map (·.1)).zip (ps.map (·.2)) = ps
  | [] => rfl
  | (a, b) :: ps => by show (a, b) :: (ps.map (·.1)).zip (ps.map (·.2)) = _; rw [zip_map]
mutual
theorem RX.toD : ∀ {w : W} {d : D} {m : Nat}, RX st X w d → d.depth < m → DI.toD st m w = some d
  | _, _, m + 1, .non, _ => rfl
  | _, _, m + 1, .bl b, _ => rfl
  | _, _, m + 1, .int i, _ => rfl
  | _, _, m + 1, .str x, _ => rfl
  | _, _, m + 1, .tup (ds := ds) r, h => by
    have : PyData.depthAll ds < m := by have : PyData.depthAll ds + 1 < m + 1 := h; omega
    show (allD (DI.toD st m) _).map PyData.tuple = _
    rw [RXs.toD r this]; rfl
  | _, _, m + 1, .ref (k := k) (ws := ws) (ds := ds) e n r, h => by
    have : PyData.depthAll ds < m := by have : PyData.depthAll ds + 1 < m + 1 := h; omega
    show (match st[k]? with | some (.lst ws) => (allD (DI.toD st m) ws).map PyData.list | some .emp => some (.dict []) | some (.dct kvs) => zipD (allD (DI.toD st m) (kvs.map fun q : W × W => q.1)) (allD (DI.toD st m) (kvs.map fun q : W × W => q.2)) | _ => none) = _
    rw [e]; simp only; rw [RXs.toD r this]; rfl
  | _, _, m + 1, .emp (k := k) e n, h => by
    show (match st[k]? with | some (.lst ws) => (allD (DI.toD st m) ws).map PyData.list | some .emp => some (.dict []) | some (.dct kvs) => zipD (allD (DI.toD st m) (kvs.map fun q : W × W => q.1)) (allD (DI.toD st m) (kvs.map fun q : W × W => q.2)) | _ => none) = _
    rw [e]
  | _, _, m + 1, .dct (k := k) (kvs := kvs) (p := p) (ps := ps) e n r s, h => by
    have h : PyData.depthKv (p :: ps) + 1 < m + 1 := h
    have hm : PyData.depthKv (p :: ps) < m := by omega
    show (match st[k]? with | some (.lst ws) => (allD (DI.toD st m) ws).map PyData.list | some .emp => some (.dict []) | some (.dct kvs) => zipD (allD (DI.toD st m) (kvs.map fun q : W × W => q.1)) (allD (DI.toD st m) (kvs.map fun q : W × W => q.2)) | _ => none) = _
    rw [e]; simp only; rw [RXs.toD r (Nat.lt_of_le_of_lt (PyData.depthAll_keys_le (p :: ps)) hm), RXs.toD s (Nat.lt_of_le_of_lt (PyData.depthAll_vals_le (p :: ps)) hm)]
    show some (PyData.dict ((p.1, p.2) :: (ps.map (·.1)).zip (ps.map (·.2)))) = _
    rw [zip_map]
theorem RXs.toD : ∀ {ws : List W} {ds : List D} {m : Nat}, RXs st X ws ds → PyData.depthAll ds < m → allD (DI.toD st m) ws = some ds
  | _, _, _, .nil, _ => rfl
  | _, _, m, .cons (d := d) (ds := ds) a b, h => by
    have h : max d.depth (PyData.depthAll ds) < m := h
    unfold allD
    rw [RX.toD a (by omega), RXs.toD b (by omega)]
end
end
/-- what an object of the store holds -/
def ObX (st : Sto) (X : XS) : Ob → D → Prop
  | .lst ws, .list ds => RXs st X ws ds
  | .emp, .dict [] => True
  | .dct kvs, .dict (p :: ps) => RXs st X (kvs.map (·.1)) ((p :: ps).map (·.1)) ∧ RXs st X (kvs.map (·.2)) ((p :: ps).map (·.2))
  | _, _ => False
theorem ObX.to {st st' : Sto} {X X' : XS} (h : ∀ k o, st[k]? = some o → ¬ X k → st'[k]? = some o ∧ ¬ X' k) {o : Ob} {d : D} (r : ObX st X o d) : ObX st' X' o d := by
  unfold ObX at r ⊢
  split at r
  · exact RXs.to h r
  · trivial
  · exact ⟨RXs.to h r.1, RXs.to h r.2⟩
  · exact r.elim
theorem ObX.anti {st : Sto} {X X' : XS} (h : ∀ k, X' k → X k) {o : Ob} {d : D} (r : ObX st X o d) : ObX st X' o d := r.to fun k o e n => ⟨e, fun z => n (h k z)⟩
theorem ObX.rx {st : Sto} {X : XS} {n : Nat} {o : Ob} {d : D} (e : st[n]? = some o) (hn : ¬ X n) (r : ObX st X o d) : RX st X (.ref n) d := by
  unfold ObX at r
  split at r
  · exact .ref e hn r
  · exact .emp e hn
  · exact .dct e hn r.1 r.2
  · exact r.elim
theorem ObX.nx {st : Sto} {X : XS} {o : Ob} {d : D} (r : ObX st X o d) : ∀ fs, o ≠ .xd fs := fun fs z => by subst z; cases d <;> exact r.elim
theorem RX.obx {st : Sto} {X : XS} {n : Nat} {d : D} (r : RX st X (.ref n) d) : ∃ o, st[n]? = some o ∧ ¬ X n ∧ ObX st (fun k => X k ∨ k = n) o d ∧ (∀ fs, o ≠ .xd fs) := by
  have r0 := r
  cases r with
  | ref e nx rs => exact ⟨_, e, nx, RXs.less r0 rs (by simp only [PyData.list.sizeOf_spec]; omega), fun fs z => (by cases z)⟩
  | emp e nx => exact ⟨_, e, nx, trivial, fun fs z => (by cases z)⟩
  | @dct _ _ p ps e nx rs ss =>
    exact ⟨_, e, nx, ⟨RXs.less r0 rs (Nat.lt_of_le_of_lt (sz_fst _) (by simp only [PyData.dict.sizeOf_spec]; omega)), RXs.less r0 ss (Nat.lt_of_le_of_lt (sz_snd _) (by simp only [PyData.dict.sizeOf_spec]; omega))⟩, fun fs z => (by cases z)⟩
/-- a list or a dict that may be written: its number, what it holds -/
def Ow (st : Sto) (X : XS) (n : Nat) (d : D) : Prop := ∃ o, st[n]? = some o ∧ ObX st X o d
theorem Ow.list {st : Sto} {X : XS} {n : Nat} {ds : List D} (h : Ow st X n (.list ds)) : ∃ ws, st[n]? = some (.lst ws) ∧ RXs st X ws ds := by
  obtain ⟨o, e, r⟩ := h
  cases o with
  | lst ws => exact ⟨ws, e, r⟩
  | _ => exact r.elim
theorem Ow.no {st : Sto} {X : XS} {n : Nat} {d : D} (h : Ow st X n d) : (∃ ds, d = .list ds) ∨ ∃ ps, d = .dict ps := by
  obtain ⟨o, e, r⟩ := h
  unfold ObX at r
  split at r
  · exact .inl ⟨_, rfl⟩
  · exact .inr ⟨_, rfl⟩
  · exact .inr ⟨_, rfl⟩
  · exact r.elim
/-- what may be read: a deep value, or a list that may be written -/
def Top (st : Sto) (X : XS) (w : W) (d : D) : Prop := RX st X w d ∨ ∃ n, w = .ref n ∧ X n ∧ Ow st X n d
section
variable {st st' : Sto} {X X' : XS}
theorem Ow.rx {n : Nat} {d : D} (h : Ow st X n d) : RX st (fun k => X k ∧ k ≠ n) (.ref n) d := by
  obtain ⟨o, e, r⟩ := h
  exact ObX.rx e (fun z => z.2 rfl) (r.anti fun k z => z.1)
theorem Top.rx {w : W} {d : D} (h : Top st X w d) : ∃ X', RX st X' w d := by
  rcases h with h | ⟨n, rfl, hn, h⟩
  · exact ⟨X, h⟩
  · exact ⟨_, h.rx⟩
theorem Top.toD {w : W} {d : D} {m : Nat} (h : Top st X w d) (hm : d.depth < m) : DI.toD st m w = some d := let ⟨_, r⟩ := h.rx; r.toD hm
/-- what a sequence holds -/
theorem Top.list {w : W} {ds : List D} (h : Top st X w (.list ds)) : ∃ ws n, RXs st X ws ds ∧ w = .ref n ∧ st[n]? = some (.lst ws) := by
  rcases h with h | ⟨n, rfl, hn, h⟩
  · cases h with
    | ref e n r => exact ⟨_, _, r, rfl, e⟩
  · obtain ⟨ws, e, r⟩ := h.list; exact ⟨ws, n, r, rfl, e⟩
theorem Top.nref {w : W} {d : D} (h : Top st X w d) (h1 : ∀ ds, d ≠ .list ds) (h2 : ∀ ps, d ≠ .dict ps) : RX st X w d := by
  rcases h with h | ⟨n, rfl, hn, h⟩
  · exact h
  · rcases h.no with ⟨_, e⟩ | ⟨_, e⟩
    · exact absurd e (h1 _)
    · exact absurd e (h2 _)
theorem Top.tuple {w : W} {ds : List D} (h : Top st X w (.tuple ds)) : ∃ ws, RXs st X ws ds ∧ w = .tup ws := by
  have := h.nref (fun _ z => by cases z) (fun _ z => by cases z)
  cases this with
  | tup r => exact ⟨_, r, rfl⟩
theorem Top.str {w : W} {x : Str} (h : Top st X w (.str x)) : w = .str x := by
  have := h.nref (fun _ z => by cases z) (fun _ z => by cases z); cases this; rfl
theorem Top.int {w : W} {x : Int} (h : Top st X w (.int x)) : w = .int x := by
  have := h.nref (fun _ z => by cases z) (fun _ z => by cases z); cases this; rfl
theorem Top.bool {w : W} {x : Bool} (h : Top st X w (.bool x)) : w = .bl x := by
  have := h.nref (fun _ z => by cases z) (fun _ z => by cases z); cases this; rfl
theorem Top.none {w : W} (h : Top st X w .none) : w = .non := by
  have := h.nref (fun _ z => by cases z) (fun _ z => by cases z); cases this; rfl
/-- a dict: empty, or with entries -/
theorem Top.dict {w : W} {ps : List (D × D)} (h : Top st X w (.dict ps)) : ∃ n, w = .ref n ∧ ((st[n]? = some .emp ∧ ps = []) ∨ ∃ kvs, st[n]? = some (.dct kvs) ∧ ps ≠ [] ∧ RXs st X (kvs.map (·.1)) (ps.map (·.1)) ∧ RXs st X (kvs.map (·.2)) (ps.map (·.2))) := by
  rcases h with h | ⟨n, rfl, hn, o, e, r⟩
  · cases h with
    | emp e n => exact ⟨_, rfl, .inl ⟨e, rfl⟩⟩
    | dct e n r s => exact ⟨_, rfl, .inr ⟨_, e, by simp, r, s⟩⟩
  · cases o with
    | emp =>
      cases ps with
      | nil => exact ⟨n, rfl, .inl ⟨e, rfl⟩⟩
      | cons _ _ => exact r.elim
    | dct kvs =>
      cases ps with
      | nil => exact r.elim
      | cons p ps => exact ⟨n, rfl, .inr ⟨kvs, e, by simp, r.1, r.2⟩⟩
    | _ => exact r.elim
end
/-! no list, no dict within -/
mutual
def flat : D → Bool
  | .none | .bool _ | .int _ | .str _ => true
  | .tuple ds => flatAll ds
  | .list _ | .dict _ => false
def flatAll : List D → Bool
  | [] => true
  | d :: ds => flat d && flatAll ds
end
section
variable {st st' : Sto} {X X' : XS}
mutual
theorem RX.flat : ∀ {w : W} {d : D}, RX st X w d → DV.flat d = true → RX st' X' w d
  | _, _, .non, _ => .non
  | _, _, .bl b, _ => .bl b
  | _, _, .int i, _ => .int i
  | _, _, .str x, _ => .str x
  | _, _, .tup r, h => .tup (RXs.flat r h)
  | _, _, .ref e n r, h => by cases h
  | _, _, .emp e n, h => by cases h
  | _, _, .dct _ _ _ _, h => by cases h
theorem RXs.flat : ∀ {ws : List W} {ds : List D}, RXs st X ws ds → DV.flatAll ds = true → RXs st' X' ws ds
  | _, _, .nil, _ => .nil
  | _, _, .cons (d := d) (ds := ds) a b, h => by
    have h : (DV.flat d && DV.flatAll ds) = true := h
    rw [Bool.and_eq_true] at h
    exact .cons (RX.flat a h.1) (RXs.flat b h.2)
end
end
end DV

namespace DV
open PySem DI

/-- a variable: its value, and whether its list may be written -/
abbrev VEnv := List (Option (Bool × D))
inductive VR (α : Type) where | ok (a : α) | exc (c : Str) (fs : List (Str × D))
abbrev VO (α : Type) := Option (VR α × VEnv)
abbrev VM (α : Type) := VEnv → VO α
def vbnd {α β : Type} (o : VO α) (k : α → VM β) : VO β := match o with
  | some (.ok a, v) => k a v
  | some (.exc c fs, v) => some (.exc c fs, v)
  | none => none
def vret {α : Type} (a : α) : VM α := fun v => some (.ok a, v)

/-- the frame: the store's length at its start; the number of the first parameter, where it is written -/
structure Fr where
  L0 : Nat
  io : Option Nat
  X0 : XS
  fr : Bool
  sc : Option (List Int)
/-- what may be written -/
def Yf (F : Fr) (X : XS) : XS := fun k => X k ∧ (F.L0 ≤ k ∨ F.io = some k)
def Ev (Y : XS) (st st' : Sto) : Prop := st.length ≤ st'.length ∧ ∀ k o, st[k]? = some o → ¬ Y k → st'[k]? = some o
theorem Ev.refl {Y : XS} {st : Sto} : Ev Y st st := ⟨Nat.le_refl _, fun _ _ e _ => e⟩
theorem Ev.trans {Y : XS} {s1 s2 s3 : Sto} (a : Ev Y s1 s2) (b : Ev Y s2 s3) : Ev Y s1 s3 := ⟨Nat.le_trans a.1 b.1, fun k o e n => b.2 k o (a.2 k o e n) n⟩
theorem Ev.app {Y : XS} {st : Sto} (l : Sto) : Ev Y st (st ++ l) := ⟨by simp, fun k o e _ => by rw [List.getElem?_append_left (List.getElem?_eq_some_iff.mp e).1]; exact e⟩
theorem Ev.rx {F : Fr} {X : XS} {st st' : Sto} (h : Ev (Yf F X) st st') {w : W} {d : D} (r : RX st X w d) : RX st' X w d := r.to fun k o e n => ⟨h.2 k o e fun z => n z.1, n⟩
theorem Ev.rxs {F : Fr} {X : XS} {st st' : Sto} (h : Ev (Yf F X) st st') {w : List W} {d : List D} (r : RXs st X w d) : RXs st' X w d := r.to fun k o e n => ⟨h.2 k o e fun z => n z.1, n⟩
theorem RX.app {X : XS} {st : Sto} {w : W} {d : D} (r : RX st X w d) (l : Sto) : RX (st ++ l) X w d := r.to fun k o e n => ⟨by rw [List.getElem?_append_left (List.getElem?_eq_some_iff.mp e).1]; exact e, n⟩
theorem RXs.app {X : XS} {st : Sto} {w : List W} {d : List D} (r : RXs st X w d) (l : Sto) : RXs (st ++ l) X w d := r.to fun k o e n => ⟨by rw [List.getElem?_append_left (List.getElem?_eq_some_iff.mp e).1]; exact e, n⟩
theorem Ev.obx {F : Fr} {X : XS} {st st' : Sto} (h : Ev (Yf F X) st st') {o : Ob} {d : D} (r : ObX st X o d) : ObX st' X o d := r.to fun k o e n => ⟨h.2 k o e fun z => n z.1, n⟩
theorem ObX.app {X : XS} {st : Sto} {o : Ob} {d : D} (r : ObX st X o d) (l : Sto) : ObX (st ++ l) X o d := r.to fun k o e n => ⟨by rw [List.getElem?_append_left (List.getElem?_eq_some_iff.mp e).1]; exact e, n⟩
theorem Ow.app {X : XS} {st : Sto} {n : Nat} {d : D} (h : Ow st X n d) (l : Sto) : Ow (st ++ l) X n d := let ⟨o, e, r⟩ := h; ⟨o, by rw [List.getElem?_append_left (List.getElem?_eq_some_iff.mp e).1]; exact e, r.app l⟩
theorem Ow.ev {F : Fr} {X : XS} {st st' : Sto} (h : Ev (Yf F X) st st') {n : Nat} {d : D} (o : Ow st X n d) (e : st'[n]? = st[n]?) : Ow st' X n d := let ⟨ob, e1, r⟩ := o; ⟨ob, e.trans e1, h.obx r⟩

structure EnvV (F : Fr) (X : XS) (st : Sto) (env : Evn) (v : VEnv) : Prop where
  len : env.length = v.length
  x : ∀ k, X k → k < st.length ∧ ∀ fs, st[k]? ≠ some (.xd fs)
  b : ∀ k, F.X0 k → X k ∧ k < F.L0
  l0 : F.L0 ≤ st.length
  rd : ∀ (i : Nat) (d : D), v[i]? = some (some (false, d)) → ∃ w, env[i]? = some (some w) ∧ RX st X w d
  own : ∀ (i : Nat) (d : D), v[i]? = some (some (true, d)) → ∃ n, env[i]? = some (some (.ref n)) ∧ X n ∧ Ow st X n d ∧ (if i = 0 ∧ F.io.isSome = true then F.io = some n else F.L0 ≤ n)
  apart : ∀ (i j n : Nat) (d e : D), i ≠ j → v[i]? = some (some (true, d)) → v[j]? = some (some (true, e)) → env[i]? = some (some (.ref n)) → env[j]? ≠ some (some (.ref n))
  io : ∀ n, F.io = some n → F.X0 n ∧ (∃ d, v[0]? = some (some (true, d))) ∧ env[0]? = some (some (.ref n))
  sc : ∀ ns, F.sc = some ns → v[0]? = some none ∧ env[0]? = some (some (.ils (ns.map .int)))
/-- the first variable is free -/
def Z0 (F : Fr) (i : Nat) : Prop := i = 0 → F.io = none ∧ F.sc = none
theorem set_at {v : VEnv} {i : Nat} {o : Option (Bool × D)} {x : Bool × D} (h : (v.set i o)[i]? = some (some x)) : o = some x ∧ i < v.length := by
  have hl : i < v.length := by
    have := (List.getElem?_eq_some_iff.mp h).1
    simpa using this
  rw [List.getElem?_set_self hl] at h
  exact ⟨Option.some.inj h, hl⟩
section
variable {F : Fr} {X : XS} {st st' : Sto} {env : Evn} {v : VEnv}
theorem EnvV.n0 (E : EnvV F X st env v) (h : st.length ≤ st'.length) (k : ∀ (k : Nat) (o : Ob), st[k]? = some o → st'[k]? = some o) : EnvV F X st' env v where
  len := E.len
  x := fun j q => by
    obtain ⟨h1, h2⟩ := E.x j q
    have e := List.getElem?_eq_getElem h1
    refine ⟨Nat.lt_of_lt_of_le h1 h, fun fs z => h2 fs ?_⟩
    rw [e, ← z, k j _ e]
  b := E.b
  l0 := Nat.le_trans E.l0 h
  rd := fun i d e => let ⟨w, a, b⟩ := E.rd i d e; ⟨w, a, b.to fun j o q n => ⟨k j o q, n⟩⟩
  own := fun i d e => let ⟨n, a, b, ⟨ob, q1, q3⟩, g⟩ := E.own i d e; ⟨n, a, b, ⟨ob, k _ _ q1, q3.to fun j o q n => ⟨k j o q, n⟩⟩, g⟩
  apart := E.apart
  io := E.io
  sc := E.sc
/-- only new things were made -/
theorem EnvV.app (E : EnvV F X st env v) (l : Sto) : EnvV F X (st ++ l) env v := E.n0 (by simp) fun k o e => by rw [List.getElem?_append_left (List.getElem?_eq_some_iff.mp e).1]; exact e
theorem EnvV.yOf (E : EnvV F X st env v) {i n : Nat} {d : D} (hv : v[i]? = some (some (true, d))) (he : env[i]? = some (some (.ref n))) : Yf F X n := by
  obtain ⟨m, a, b, c, g⟩ := E.own i d hv
  rw [he] at a; cases a
  refine ⟨b, ?_⟩
  split at g
  · exact .inr g
  · exact .inl g
/-- a variable is set anew; what the others stand for holds by X' -/
theorem EnvV.put (E : EnvV F X st env v) {X' : XS} {i : Nat} {w : Option W} {o : Option (Bool × D)} (h0 : Z0 F i) (hx : ∀ k, X' k → k < st.length ∧ ∀ fs, st[k]? ≠ some (.xd fs)) (hb : ∀ k, F.X0 k → X' k)
    (hr : ∀ j u d, j ≠ i → v[j]? = some (some (false, d)) → env[j]? = some (some u) → RX st X u d → RX st X' u d)
    (ho : ∀ j n d, j ≠ i → v[j]? = some (some (true, d)) → env[j]? = some (some (.ref n)) → X n → Ow st X n d → X' n ∧ Ow st X' n d)
    (hi : ∀ d, o = some (false, d) → ∃ u, w = some u ∧ RX st X' u d)
    (hj : ∀ d, o = some (true, d) → ∃ n, w = some (.ref n) ∧ X' n ∧ Ow st X' n d ∧ F.L0 ≤ n ∧ ∀ j e, j ≠ i → v[j]? = some (some (true, e)) → env[j]? ≠ some (some (.ref n))) :
    EnvV F X' st (env.set i w) (v.set i o) := by
  have ke : ∀ j, j ≠ i → (env.set i w)[j]? = env[j]? := fun j h => List.getElem?_set_ne (fun z => h z.symm)
  have kv : ∀ j, j ≠ i → (v.set i o)[j]? = v[j]? := fun j h => List.getElem?_set_ne (fun z => h z.symm)
  have ie : i < v.length → (env.set i w)[i]? = some w := fun h => List.getElem?_set_self (by rw [E.len]; exact h)
  refine ⟨by simp [E.len], hx, fun k z => ⟨hb k z, (E.b k z).2⟩, E.l0, fun j d h => ?_, fun j d h => ?_, fun j k m d e ne h1 h2 h3 => ?_, fun m hm => ?_, fun ns hns => ?_⟩
  · by_cases q : j = i
    · subst q
      obtain ⟨q1, q2⟩ := set_at h
      obtain ⟨u, e1, e2⟩ := hi d q1
      exact ⟨u, by rw [ie q2, e1], e2⟩
    · rw [kv j q] at h
      obtain ⟨u, a, b⟩ := E.rd j d h
      exact ⟨u, by rw [ke j q]; exact a, hr j u d q h a b⟩
  · by_cases q : j = i
    · subst q
      obtain ⟨q1, q2⟩ := set_at h
      obtain ⟨n, e1, e2, e3, e4, _⟩ := hj d q1
      refine ⟨n, by rw [ie q2, e1], e2, e3, ?_⟩
      rw [if_neg (fun z => by rw [(h0 z.1).1] at z; cases z.2)]
      exact e4
    · rw [kv j q] at h
      obtain ⟨n, a, b, c, g⟩ := E.own j d h
      obtain ⟨c1, c2⟩ := ho j n d q h a b c
      exact ⟨n, by rw [ke j q]; exact a, c1, c2, g⟩
  · by_cases qj : j = i
    · subst qj
      have qk : k ≠ j := fun z => ne z.symm
      obtain ⟨q1, q2⟩ := set_at h1
      obtain ⟨n, e1, e2, e3, e4, e5⟩ := hj d q1
      rw [kv k qk] at h2
      rw [ke k qk]
      rw [ie q2, e1] at h3
      cases h3
      exact e5 k e qk h2
    · rw [kv j qj] at h1
      rw [ke j qj] at h3
      by_cases qk : k = i
      · subst qk
        obtain ⟨q1, q2⟩ := set_at h2
        obtain ⟨n, e1, e2, e3, e4, e5⟩ := hj e q1
        rw [ie q2, e1]
        intro z; cases z
        exact e5 j d qj h1 h3
      · rw [kv k qk] at h2
        rw [ke k qk]
        exact E.apart j k m d e ne h1 h2 h3
  · obtain ⟨a, c, g⟩ := E.io m hm
    have q : 0 ≠ i := fun z => by rw [(h0 z.symm).1] at hm; cases hm
    exact ⟨a, by rw [kv 0 q]; exact c, by rw [ke 0 q]; exact g⟩
  · obtain ⟨b, c⟩ := E.sc ns hns
    have q : 0 ≠ i := fun z => by rw [(h0 z.symm).2] at hns; cases hns
    exact ⟨by rw [kv 0 q]; exact b, by rw [ke 0 q]; exact c⟩
theorem EnvV.set (E : EnvV F X st env v) {i : Nat} {w : W} {d : D} (h0 : Z0 F i) (r : RX st X w d) : EnvV F X st (env.set i (some w)) (v.set i (some (false, d))) :=
  E.put h0 E.x (fun k z => (E.b k z).1) (fun _ _ _ _ _ _ r => r) (fun _ _ _ _ _ _ a b => ⟨a, b⟩) (fun e h => by cases h; exact ⟨w, rfl, r⟩) fun e h => by cases h
theorem EnvV.drop (E : EnvV F X st env v) {i : Nat} {o : Option W} (h0 : Z0 F i) : EnvV F X st (env.set i o) (v.set i none) :=
  E.put h0 E.x (fun k z => (E.b k z).1) (fun _ _ _ _ _ _ r => r) (fun _ _ _ _ _ _ a b => ⟨a, b⟩) (fun e h => by cases h) fun e h => by cases h
/-- a list or a dict that nobody else has -/
theorem EnvV.setOwn (E : EnvV F X st env v) {i n : Nat} {d0 : D} (h0 : Z0 F i) (r : RX st X (.ref n) d0) (hL : F.L0 ≤ n)
    (fr : ∀ j u d, j ≠ i → v[j]? = some (some (false, d)) → env[j]? = some (some u) → RX st (fun k => X k ∨ k = n) u d)
    (fo : ∀ j m d, j ≠ i → v[j]? = some (some (true, d)) → env[j]? = some (some (.ref m)) → m ≠ n ∧ Ow st (fun k => X k ∨ k = n) m d) :
    EnvV F (fun k => X k ∨ k = n) st (env.set i (some (.ref n))) (v.set i (some (true, d0))) := by
  obtain ⟨ob, e, nx, rs, nxd⟩ := r.obx
  have hn : n < st.length := (List.getElem?_eq_some_iff.mp e).1
  have ow : Ow st (fun k => X k ∨ k = n) n d0 := ⟨ob, e, rs⟩
  refine E.put h0 (fun k z => z.elim (E.x k) fun q => ⟨q ▸ hn, fun fs z2 => by rw [q, e] at z2; cases z2; exact nxd _ rfl⟩) (fun k z => .inl (E.b k z).1) (fun j u d a b c _ => fr j u d a b c) (fun j m d a b c g _ => ⟨.inl g, (fo j m d a b c).2⟩) (fun d h => by cases h) fun d h => ?_
  cases h
  exact ⟨n, rfl, .inr rfl, ow, hL, fun j e q h z => (fo j n e q h z).1 rfl⟩
/-- the list of a written variable was changed -/
theorem EnvV.upd (E : EnvV F X st env v) {i n : Nat} {d : D} {uo : Ob} {es : D} (hv : v[i]? = some (some (true, d))) (he : env[i]? = some (some (.ref n))) (ev : Ev (fun k => k = n) st st') (hn : st'[n]? = some uo) (r : ObX st' X uo es) :
    EnvV F X st' env (v.set i (some (true, es))) ∧ Ev (Yf F X) st st' := by
  have y := E.yOf hv he
  have ev2 : Ev (Yf F X) st st' := ⟨ev.1, fun k o e z => ev.2 k o e fun q => z (q ▸ y)⟩
  have keep : ∀ j, j ≠ i → (v.set i (some (true, es)))[j]? = v[j]? := fun j h => List.getElem?_set_ne (fun z => h z.symm)
  have hil : i < v.length := (List.getElem?_eq_some_iff.mp hv).1
  have at_i : (v.set i (some (true, es)))[i]? = some (some (true, es)) := List.getElem?_set_self hil
  have some_of : ∀ j e, (v.set i (some (true, es)))[j]? = some (some (true, e)) → ∃ e', v[j]? = some (some (true, e')) := fun j e h => by
    by_cases q : j = i
    · subst q; exact ⟨d, hv⟩
    · rw [keep j q] at h; exact ⟨e, h⟩
  refine ⟨⟨by simp [E.len], fun k h => ?_, E.b, Nat.le_trans E.l0 ev.1, fun j e h => ?_, fun j e h => ?_, fun j k m e e2 ne h1 h2 => ?_, fun m hm => ?_, fun ns hns => ?_⟩, ev2⟩
  · obtain ⟨h1, h2⟩ := E.x k h
    refine ⟨Nat.lt_of_lt_of_le h1 ev.1, fun fs z => ?_⟩
    by_cases q : k = n
    · subst q; rw [hn] at z; cases z; exact r.nx _ rfl
    · have e := List.getElem?_eq_getElem h1
      refine h2 fs ?_
      rw [e, ← z, ev.2 k _ e q]
  · by_cases q : j = i
    · subst q; rw [at_i] at h; cases h
    · rw [keep j q] at h
      obtain ⟨w, a, b⟩ := E.rd j e h
      exact ⟨w, a, ev2.rx b⟩
  · by_cases q : j = i
    · subst q
      rw [at_i] at h; cases h
      obtain ⟨m, a, b, c, g⟩ := E.own j d hv
      rw [he] at a; cases a
      exact ⟨_, he, b, ⟨uo, hn, r⟩, g⟩
    · rw [keep j q] at h
      obtain ⟨m, a, b, ⟨ob, q1, q3⟩, g⟩ := E.own j e h
      have nm : m ≠ n := fun z => E.apart j i n e d q h hv (z ▸ a) he
      exact ⟨m, a, b, ⟨ob, ev.2 _ _ q1 nm, ev2.obx q3⟩, g⟩
  · obtain ⟨e', h1⟩ := some_of j e h1
    obtain ⟨e2', h2⟩ := some_of k e2 h2
    exact E.apart j k m e' e2' ne h1 h2
  · obtain ⟨a, ⟨e, c⟩, g⟩ := E.io m hm
    refine ⟨a, ?_, g⟩
    by_cases q : 0 = i
    · subst q; exact ⟨_, at_i⟩
    · rw [keep 0 q]; exact ⟨e, c⟩
  · obtain ⟨b, c⟩ := E.sc ns hns
    have q : 0 ≠ i := fun z => by subst z; rw [b] at hv; cases hv
    exact ⟨by rw [keep 0 q]; exact b, c⟩
theorem EnvV.writeO (E : EnvV F X st env v) {i n : Nat} {d : D} {o : Ob} {e : D} (hv : v[i]? = some (some (true, d))) (he : env[i]? = some (some (.ref n))) (r : ObX st X o e) : EnvV F X (st.set n o) env (v.set i (some (true, e))) ∧ Ev (Yf F X) st (st.set n o) := by
  have y := E.yOf hv he
  have hn : n < st.length := (E.x n y.1).1
  have ev : Ev (fun k => k = n) st (st.set n o) := ⟨by simp, fun k o e z => by rw [List.getElem?_set_ne (fun q => z q.symm)]; exact e⟩
  have ev2 : Ev (Yf F X) st (st.set n o) := ⟨ev.1, fun k o e z => ev.2 k o e fun q => z (q ▸ y)⟩
  exact E.upd hv he ev (List.getElem?_set_self hn) (ev2.obx r)
theorem EnvV.write (E : EnvV F X st env v) {i n : Nat} {d : D} {ws : List W} {ds : List D} (hv : v[i]? = some (some (true, d))) (he : env[i]? = some (some (.ref n))) (r : RXs st X ws ds) : EnvV F X (st.set n (.lst ws)) env (v.set i (some (true, .list ds))) ∧ Ev (Yf F X) st (st.set n (.lst ws)) := E.writeO hv he (o := .lst ws) (e := .list ds) r
/-- from now on it is not written -/
def frz (i : Nat) (v : VEnv) : VEnv := match v[i]? with
  | some (some (true, d)) => v.set i (some (false, d))
  | _ => v
theorem EnvV.frz (E : EnvV F X st env v) {i : Nat} (h0 : Z0 F i) : ∃ X', (∀ k, X' k → X k) ∧ EnvV F X' st env (frz i v) := by
  unfold DV.frz
  split
  · rename_i d hv
    obtain ⟨n, a, b, c, g⟩ := E.own i d hv
    have hL : F.L0 ≤ n := by
      split at g
      · rename_i z; rw [(h0 z.1).1] at g; cases g
      · exact g
    have := E.put (X' := fun k => X k ∧ k ≠ n) (i := i) (w := some (.ref n)) (o := some (false, d)) h0 (fun k z => E.x k z.1) (fun k z => ⟨(E.b k z).1, fun q => by have := (E.b k z).2; omega⟩) (fun j u e q h1 h2 r => r.anti fun k z => z.1)
      (fun j m e q h1 h2 h3 ⟨ob, q1, q3⟩ => ⟨⟨h3, fun z => E.apart j i n e d q h1 hv (z ▸ h2) a⟩, ob, q1, q3.anti fun k z => z.1⟩) (fun e h => by cases h; exact ⟨_, rfl, c.rx⟩) (fun e h => by cases h)
    have hset : env.set i (some (.ref n)) = env := by
      apply List.ext_getElem?
      intro j
      by_cases q : i = j
      · subst q; rw [List.getElem?_set_self (List.getElem?_eq_some_iff.mp a).1, a]
      · rw [List.getElem?_set_ne q]
    rw [hset] at this
    exact ⟨_, fun k z => z.1, this⟩
  · exact ⟨X, fun _ z => z, E⟩
end
/-! ### judgements -/
structure VK (F : Fr) (v v' : VEnv) : Prop where
  len : v'.length = v.length
  rd : ∀ (j : Nat) (d : D), v'[j]? = some (some (false, d)) → v[j]? = some (some (false, d))
  ow : ∀ (j : Nat) (e : D), v'[j]? = some (some (true, e)) → ∃ e', v[j]? = some (some (true, e'))
theorem VK.refl {F : Fr} {v : VEnv} : VK F v v := ⟨rfl, fun _ _ h => h, fun _ e h => ⟨e, h⟩⟩
theorem VK.trans {F : Fr} {v1 v2 v3 : VEnv} (a : VK F v1 v2) (b : VK F v2 v3) : VK F v1 v3 :=
  ⟨b.len.trans a.len, fun j d h => a.rd j d (b.rd j d h), fun j e q => let ⟨e', q'⟩ := b.ow j e q; a.ow j e' q'⟩
def N0 : XS := fun _ => False
theorem Ev.n0 {st st' : Sto} (h : Ev N0 st st') (Y : XS) : Ev Y st st' := ⟨h.1, fun k o e _ => h.2 k o e id⟩
def XX (st : Sto) (X : XS) (x : Xc) (c : Str) (fs : List (Str × D)) : Prop := x.cls = c ∧ match x.dict with
  | none => fs = []
  | some n => fs ≠ [] ∧ ∃ ws : List (Str × W), st[n]? = some (.xd ws) ∧ ¬ X n ∧ ws.map (·.1) = fs.map (·.1) ∧ RXs st X (ws.map (·.2)) (fs.map (·.2))
abbrev Re (α β : Type) := Nat → Sto → XS → α → β → Prop
def RR {α β : Type} (rel : Re α β) (L : Nat) (st : Sto) (X : XS) : R α → VR β → Prop
  | .ok a, .ok b => rel L st X a b
  | .exc x, .exc c fs => XX st X x c fs
  | _, _ => False
def Cn {α β : Type} (F : Fr) (p : Bool) (rel : Re α β) (X : XS) (L : Nat) (st : Sto) (env : Evn) (v : VEnv) (o : Out α) (r : VR β) (v' : VEnv) : Prop :=
  ∃ r' st', o = some (r', st') ∧ Ev (Yf F X) st st' ∧ EnvV F X st' env v' ∧ VK F v v' ∧ (p = true → v' = v ∧ Ev N0 st st') ∧ RR rel L st' X r' r
def VJ {α β : Type} (F : Fr) (p : Bool) (rel : Re α β) (f : Evn → Sto → Out α) (g : VM β) : Prop :=
  ∀ X st env v r v', EnvV F X st env v → g v = some (r, v') → Cn F p rel X st.length st env v (f env st) r v'
def rE : Re W D := fun _ st X w d => RX st X w d
def rO : Re W D := fun _ st X w d => Top st X w d
def rF : Re W D := fun L st X w d => RX st X w d ∧ ∃ n, w = .ref n ∧ L ≤ n
def rA : Re (List W) (List D) := fun _ st X ws ds => RXs st X ws ds
def rQ {α : Type} : Re α α := fun _ _ _ a b => a = b
/-- what holds of later numbers holds of earlier ones -/
def Dn {α β : Type} (rel : Re α β) : Prop := ∀ L L' st X a b, L ≤ L' → rel L' st X a b → rel L st X a b
theorem dn_E : Dn rE := fun _ _ _ _ _ _ _ h => h
theorem dn_O : Dn rO := fun _ _ _ _ _ _ _ h => h
theorem dn_A : Dn rA := fun _ _ _ _ _ _ _ h => h
theorem dn_Q {α : Type} : Dn (rQ (α := α)) := fun _ _ _ _ _ _ _ h => h
theorem dn_F : Dn rF := fun _ _ _ _ _ _ h ⟨a, n, b, c⟩ => ⟨a, n, b, Nat.le_trans h c⟩
section
variable {α β γ δ : Type} {F : Fr} {p p2 : Bool} {r1 : Re α β} {r2 : Re γ δ}
theorem Cn.bind {X : XS} {L : Nat} {st : Sto} {env : Evn} {v : VEnv} {o : Out α} {ov : VO β} {kf : α → Sto → Out γ} {kg : β → VM δ} {r : VR δ} {v' : VEnv}
    (h : ∀ r v', ov = some (r, v') → Cn F p r1 X L st env v o r v') (e : vbnd ov kg = some (r, v'))
    (hk : ∀ a b s1 v1, Ev (Yf F X) st s1 → EnvV F X s1 env v1 → VK F v v1 → r1 L s1 X a b → kg b v1 = some (r, v') → Cn F p2 r2 X L s1 env v1 (kf a s1) r v') :
    Cn F (p && p2) r2 X L st env v (bnd o kf) r v' := by
  cases q : ov with
  | none => rw [q] at e; cases e
  | some x =>
    obtain ⟨rb, v1⟩ := x
    rw [q] at e
    obtain ⟨r', s1, ho, ev, E1, k1, pu, rr⟩ := h rb v1 q
    rw [ho]
    cases rb with
    | exc c fs =>
      cases e
      cases r' with
      | ok a => exact rr.elim
      | exc x => exact ⟨.exc x, s1, rfl, ev, E1, k1, fun z => pu (by rw [Bool.and_eq_true] at z; exact z.1), rr⟩
    | ok b =>
      cases r' with
      | exc x => exact rr.elim
      | ok a =>
        obtain ⟨r'', s2, h2, ev2, E2, k2, pu2, rr2⟩ := hk a b s1 v1 ev E1 k1 rr e
        refine ⟨r'', s2, h2, ev.trans ev2, E2, k1.trans k2, fun z => ?_, rr2⟩
        rw [Bool.and_eq_true] at z
        obtain ⟨e1, n1⟩ := pu z.1
        obtain ⟨e2, n2⟩ := pu2 z.2
        exact ⟨e2.trans e1, n1.trans n2⟩
theorem Cn.down {X : XS} {L L' : Nat} {st : Sto} {env : Evn} {v : VEnv} {o : Out γ} {r : VR δ} {v' : VEnv} (hd : Dn r2) (hL : L ≤ L') (h : Cn F p r2 X L' st env v o r v') : Cn F p r2 X L st env v o r v' := by
  obtain ⟨r', s1, a, b, c, d, e, f⟩ := h
  refine ⟨r', s1, a, b, c, d, e, ?_⟩
  cases r' <;> cases r <;> first | exact f | exact hd _ _ _ _ _ _ hL f
/-- nothing happens but that things are made -/
theorem Cn.ok {X : XS} {L : Nat} {st : Sto} {env : Evn} {v : VEnv} {a : γ} {b : δ} (E : EnvV F X st env v) (l : Sto) (h : r2 L (st ++ l) X a b) : Cn F true r2 X L st env v (some (.ok a, st ++ l)) (.ok b) v :=
  ⟨_, _, rfl, Ev.app l, E.app l, .refl, fun _ => ⟨rfl, Ev.app l⟩, h⟩
theorem Cn.ok0 {X : XS} {L : Nat} {st : Sto} {env : Evn} {v : VEnv} {a : γ} {b : δ} (E : EnvV F X st env v) (h : r2 L st X a b) : Cn F true r2 X L st env v (some (.ok a, st)) (.ok b) v :=
  ⟨_, _, rfl, Ev.refl, E, .refl, fun _ => ⟨rfl, Ev.refl⟩, h⟩
end
end DV

namespace DV
open PySem DI

theorem Top.n0 {X : XS} {st st' : Sto} {w : W} {d : D} (h : Top st X w d) (e : Ev N0 st st') : Top st' X w d := by
  rcases h with h | ⟨n, rfl, hn, ob, e1, r⟩
  · exact .inl (h.to fun k o q n => ⟨e.2 k o q id, n⟩)
  · exact .inr ⟨n, rfl, hn, ob, e.2 _ _ e1 id, r.to fun k o q n => ⟨e.2 k o q id, n⟩⟩
theorem Top.app {X : XS} {st : Sto} {w : W} {d : D} (h : Top st X w d) (l : Sto) : Top (st ++ l) X w d := h.n0 (Ev.app l)
/-! ### values -/
section
variable {F : Fr} {p p1 p2 p3 : Bool}
def vVar (i : Nat) : VM D := fun v => match v[i]? with
  | some (some (false, d)) => some (.ok d, v)
  | _ => none
theorem vVar_some {i : Nat} {v v' : VEnv} {r : VR D} (h : vVar i v = some (r, v')) : ∃ d, v[i]? = some (some (false, d)) ∧ r = .ok d ∧ v' = v := by
  unfold vVar at h
  split at h
  · rename_i d q; cases h; exact ⟨d, q, rfl, rfl⟩
  · cases h
theorem vj_var {i : Nat} : VJ F true rE (fVar i) (vVar i) := fun X st env v r v' E h => by
  obtain ⟨d, q, rfl, rfl⟩ := vVar_some h
  obtain ⟨w, a, b⟩ := E.rd i d q
  have : fVar i env st = some (.ok w, st) := by unfold fVar; rw [a]; rfl
  rw [this]
  exact .ok0 E b
/-- read, be it written or not -/
def vAny (i : Nat) : VM D := fun v => match v[i]? with
  | some (some (_, d)) => some (.ok d, v)
  | _ => none
theorem vj_any {i : Nat} : VJ F true rO (fVar i) (vAny i) := fun X st env v r v' E h => by
  unfold vAny at h
  split at h
  · rename_i fl d q
    cases h
    cases fl with
    | true =>
      obtain ⟨n, a, b, c, _⟩ := E.own i d q
      have : fVar i env st = some (.ok (.ref n), st) := by unfold fVar; rw [a]; rfl
      rw [this]
      exact .ok0 E (.inr ⟨n, rfl, b, c⟩)
    | false =>
      obtain ⟨w, a, b⟩ := E.rd i d q
      have : fVar i env st = some (.ok w, st) := by unfold fVar; rw [a]; rfl
      rw [this]
      exact .ok0 E (.inl b)
  · cases h
theorem VJ.imp {α β : Type} {r1 r2 : Re α β} {f : Evn → Sto → Out α} {g : VM β} (h : VJ F p r1 f g) (hi : ∀ L st X a b, r1 L st X a b → r2 L st X a b) : VJ F p r2 f g := fun X st env v r v' E e => by
  obtain ⟨r', s1, a, b, c, d, e, q⟩ := h X st env v r v' E e
  refine ⟨r', s1, a, b, c, d, e, ?_⟩
  cases r' <;> cases r <;> first | exact q | exact hi _ _ _ _ _ q
theorem VJ.top {f : FE} {g : VM D} (h : VJ F p rE f g) : VJ F p rO f g := h.imp fun _ _ _ _ _ q => .inl q
theorem VJ.old {f : FE} {g : VM D} (h : VJ F p rF f g) : VJ F p rE f g := h.imp fun _ _ _ _ _ q => q.1
theorem VJ.any {α β : Type} {rel : Re α β} {f : Evn → Sto → Out α} {g : VM β} (h : VJ F p rel f g) : VJ F false rel f g := fun X st env v r v' E e => by
  obtain ⟨r', s1, a, b, c, d, e, q⟩ := h X st env v r v' E e
  exact ⟨r', s1, a, b, c, d, fun z => (by cases z), q⟩
/-! constants -/
mutual
def cD : W → Option D
  | .non => some .none
  | .bl b => some (.bool b)
  | .int i => some (.int i)
  | .str x => some (.str x)
  | .tup ws => (cDs ws).map .tuple
  | _ => none
def cDs : List W → Option (List D)
  | [] => some []
  | w :: ws => match cD w, cDs ws with
    | some d, some ds => some (d :: ds)
    | _, _ => none
end
mutual
theorem cD_ok {st : Sto} {X : XS} : ∀ {w : W} {d : D}, cD w = some d → RX st X w d
  | .non, _, h => by cases h; exact .non
  | .bl b, _, h => by cases h; exact .bl b
  | .int i, _, h => by cases h; exact .int i
  | .str x, _, h => by cases h; exact .str x
  | .tup ws, d, h => by
    unfold cD at h
    cases q : cDs ws with
    | none => rw [q] at h; cases h
    | some ds => rw [q] at h; cases h; exact .tup (cDs_ok q)
  | .ils _, _, h => by cases h
  | .ref _, _, h => by cases h
  | .adr _, _, h => by cases h
  | .exn _ _ _, _, h => by cases h
theorem cDs_ok {st : Sto} {X : XS} : ∀ {ws : List W} {ds : List D}, cDs ws = some ds → RXs st X ws ds
  | [], _, h => by cases h; exact .nil
  | w :: ws, ds, h => by
    unfold cDs at h
    split at h
    · rename_i d ds' q1 q2
      cases h
      exact .cons (cD_ok q1) (cDs_ok q2)
    · cases h
end
def vC (d : D) : VM D := vret d
theorem vj_c {w : W} {d : D} (h : cD w = some d := by rfl) : VJ F true rE (fC w) (vC d) := fun X st env v r v' E e => by
  cases e
  exact .ok0 E (cD_ok h)
/-! two operands -/
def OPV (op : O2) (vop : D → D → Option D) : Prop := ∀ {st : Sto} {X : XS} {a b : W} {d e r : D}, (∀ k, X k → k < st.length) → Top st X a d → Top st X b e → vop d e = some r → ∃ l w, op a b st = some (.ok w, st ++ l) ∧ RX (st ++ l) X w r
def vOp (vop : D → D → Option D) (ga gb : VM D) : VM D := fun v => vbnd (ga v) fun a v => vbnd (gb v) fun b v => (vop a b).map fun r => (.ok r, v)
theorem op_last {op : O2} {vop : D → D → Option D} (ho : OPV op vop) {X : XS} {L : Nat} {st : Sto} {env : Evn} {v v' : VEnv} {a b : W} {d e : D} {r : VR D} (E : EnvV F X st env v) (ha : Top st X a d) (hb : Top st X b e) (h : (vop d e).map (fun r => (VR.ok r, v)) = some (r, v')) : Cn F true rE X L st env v (op a b st) r v' := by
  cases q : vop d e with
  | none => rw [q] at h; cases h
  | some r0 =>
    rw [q] at h; cases h
    obtain ⟨l, w, h1, h2⟩ := ho (fun k z => (E.x k z).1) ha hb q
    rw [h1]
    exact .ok E l h2
theorem vj_op {op : O2} {vop : D → D → Option D} {fa fb : FE} {ga gb : VM D} (ho : OPV op vop) (ha : VJ F p1 rE fa ga) (hb : VJ F p2 rO fb gb) : VJ F (p1 && (p2 && true)) rE (fOp op fa fb) (vOp vop ga gb) := fun X st env v r v' E h =>
  Cn.bind (fun r v' q => ha X st env v r v' E q) h fun a d s1 v1 ev1 E1 k1 ra h =>
  Cn.bind (fun r v' q => (hb X s1 env v1 r v' E1 q).down dn_O ev1.1) h fun b e s2 v2 ev2 E2 k2 rb h => op_last ho E2 (.inl (ev2.rx ra)) rb h
theorem vj_opO {op : O2} {vop : D → D → Option D} {fa fb : FE} {ga gb : VM D} (ho : OPV op vop) (ha : VJ F p1 rO fa ga) (hb : VJ F true rO fb gb) : VJ F (p1 && (true && true)) rE (fOp op fa fb) (vOp vop ga gb) := fun X st env v r v' E h =>
  Cn.bind (fun r v' q => ha X st env v r v' E q) h fun a d s1 v1 ev1 E1 k1 ra h => by
    have key : ∀ r v', gb v1 = some (r, v') → Cn F true (fun L st' X b e => Top st' X b e ∧ Ev N0 s1 st') X st.length s1 env v1 (fb env s1) r v' := fun r v' q => by
      obtain ⟨r', s2, h1, h2, h3, h4, h5, h6⟩ := hb X s1 env v1 r v' E1 q
      have n0 := (h5 rfl).2
      refine ⟨r', s2, h1, h2, h3, h4, h5, ?_⟩
      cases r' <;> cases r <;> first | exact h6 | exact ⟨h6, n0⟩
    exact Cn.bind key h fun b e s2 v2 ev2 E2 k2 rb h => op_last ho E2 (Top.n0 ra rb.2) rb.1 h
/-! the operations -/
def vI (c : Int → Int → Bool) (h : Int → Int → D) : D → D → Option D := fun d e => match d, e with
  | .int i, .int j => if c i j then some (h i j) else none
  | _, _ => none
theorem opv_I {c : Int → Int → Bool} {g : Int → Int → W} {h : Int → Int → D} (hg : ∀ i j, cD (g i j) = some (h i j)) : OPV (opI c g) (vI c h) := by
  intro st X a b d e r hX ha hb q
  unfold vI at q
  split at q
  · rename_i i j
    split at q
    · rename_i hc
      cases q
      have := ha.int; have := hb.int
      subst a b
      refine ⟨[], g i j, ?_, cD_ok (hg i j)⟩
      show (if c i j then ret (g i j) st else none) = _
      rw [if_pos hc, List.append_nil]; rfl
    · cases q
  · cases q
abbrev vSub := vI yes2 fun i j => .int (i - j)
abbrev vMul := vI cMul fun i j => .int (i * j)
abbrev vMod := vI cMod fun i j => .int (i % j)
abbrev vDiv := vI cDiv fun i j => .int (i / j)
abbrev vPow := vI cPow fun i j => .int (i ^ j.toNat)
abbrev vLt := vI yes2 fun i j => .bool (decide (i < j))
abbrev vLe := vI yes2 fun i j => .bool (decide (i ≤ j))
abbrev vGt := vI yes2 fun i j => .bool (decide (j < i))
abbrev vGe := vI yes2 fun i j => .bool (decide (j ≤ i))
theorem opv_sub : OPV opSub vSub := opv_I fun _ _ => rfl
theorem opv_mul : OPV opMul vMul := opv_I fun _ _ => rfl
theorem opv_mod : OPV opMod vMod := opv_I fun _ _ => rfl
theorem opv_div : OPV opDiv vDiv := opv_I fun _ _ => rfl
theorem opv_pow : OPV opPow vPow := opv_I fun _ _ => rfl
theorem opv_lt : OPV opLt vLt := opv_I fun _ _ => rfl
theorem opv_le : OPV opLe vLe := opv_I fun _ _ => rfl
theorem opv_gt : OPV opGt vGt := opv_I fun _ _ => rfl
theorem opv_ge : OPV opGe vGe := opv_I fun _ _ => rfl
def vAdd : D → D → Option D := fun d e => match d, e with
  | .int i, .int j => some (.int (i + j))
  | .str x, .str y => if szW (x.length + y.length) then some (.str (x ++ y)) else none
  | .tuple xs, .tuple ys => if szW (xs.length + ys.length) then some (.tuple (xs ++ ys)) else none
  | .list xs, .list ys => if szW (xs.length + ys.length) then some (.list (xs ++ ys)) else none
  | _, _ => none
theorem newL_ok {ws : List W} {st : Sto} (h : szW ws.length = true) : newL ws st = some (.ok (.ref st.length), st ++ [.lst ws]) := by unfold newL; rw [if_pos h]
/-- a new list -/
theorem rx_new {st : Sto} {X : XS} {ws : List W} {ds : List D} (hX : ∀ k, X k → k < st.length) (r : RXs st X ws ds) : RX (st ++ [.lst ws]) X (.ref st.length) (.list ds) :=
  .ref (by simp) (fun z => Nat.lt_irrefl _ (hX _ z)) (r.app _)
theorem opv_add : OPV opAdd vAdd := by
  intro st X a b d e r hX ha hb q
  unfold vAdd at q
  split at q
  · cases q; have := ha.int; have := hb.int; subst a b
    exact ⟨[], _, by rw [List.append_nil]; rfl, .int _⟩
  · split at q
    · rename_i x y hz
      cases q; have := ha.str; have := hb.str; subst a b
      refine ⟨[], _, ?_, .str _⟩
      show (if szW (x.length + y.length) then ret (W.str (x ++ y)) st else none) = _
      rw [if_pos hz, List.append_nil]; rfl
    · cases q
  · split at q
    · rename_i xs ys hz
      cases q
      obtain ⟨ws, r1, rfl⟩ := ha.tuple
      obtain ⟨us, r2, rfl⟩ := hb.tuple
      refine ⟨[], _, ?_, .tup ((r1.append r2).app [])⟩
      show (if szW (ws.length + us.length) then ret (W.tup (ws ++ us)) st else none) = _
      rw [r1.length, r2.length, if_pos hz, List.append_nil]; rfl
    · cases q
  · split at q
    · rename_i xs ys hz
      cases q
      obtain ⟨ws, m, r1, rfl, e1⟩ := ha.list
      obtain ⟨us, n, r2, rfl, e2⟩ := hb.list
      refine ⟨[.lst (ws ++ us)], .ref st.length, ?_, rx_new hX (r1.append r2)⟩
      show (match st[m]?, st[n]? with | some (.lst xs), some (.lst ys) => newL (xs ++ ys) st | _, _ => none) = _
      rw [e1, e2]
      exact newL_ok (by rw [List.length_append, r1.length, r2.length]; exact hz)
    · cases q
  · cases q
/-- lists alone: a new one -/
def vAddL : D → D → Option D := fun d e => match d, e with
  | .list xs, .list ys => if szW (xs.length + ys.length) then some (.list (xs ++ ys)) else none
  | _, _ => none
def OPVF (op : O2) (vop : D → D → Option D) : Prop := ∀ {st : Sto} {X : XS} {a b : W} {d e r : D}, (∀ k, X k → k < st.length) → Top st X a d → Top st X b e → vop d e = some r → ∃ l, op a b st = some (.ok (.ref st.length), st ++ l) ∧ RX (st ++ l) X (.ref st.length) r
theorem opvf_add : OPVF opAdd vAddL := by
  intro st X a b d e r hX ha hb q
  unfold vAddL at q
  split at q
  · split at q
    · rename_i xs ys hz
      cases q
      obtain ⟨ws, m, r1, rfl, e1⟩ := ha.list
      obtain ⟨us, n, r2, rfl, e2⟩ := hb.list
      refine ⟨[.lst (ws ++ us)], ?_, rx_new hX (r1.append r2)⟩
      show (match st[m]?, st[n]? with | some (.lst xs), some (.lst ys) => newL (xs ++ ys) st | _, _ => none) = _
      rw [e1, e2]
      exact newL_ok (by rw [List.length_append, r1.length, r2.length]; exact hz)
    · cases q
  · cases q
def vRepL : D → D → Option D := fun d e => match d, e with
  | .list xs, .int k => if (decide (-(2 ^ 63) ≤ k) && decide (k < 2 ^ 63)) && szW (xs.length * k.toNat) then some (.list (List.replicate k.toNat xs).flatten) else none
  | _, _ => none
theorem opvf_rep : OPVF opRepL vRepL := by
  intro st X a b d e r hX ha hb q
  unfold vRepL at q
  split at q
  · split at q
    · rename_i xs k hz
      cases q
      rw [Bool.and_eq_true] at hz
      obtain ⟨ws, m, r1, rfl, e1⟩ := ha.list
      have := hb.int; subst b
      refine ⟨[.lst (List.replicate k.toNat ws).flatten], ?_, rx_new hX (r1.repl _)⟩
      show (match st[m]? with | some (.lst ws) => if decide (-(2 ^ 63) ≤ k) && decide (k < 2 ^ 63) then newL (List.replicate k.toNat ws).flatten st else none | _ => none) = _
      rw [e1]; simp only; rw [if_pos hz.1]
      exact newL_ok (by rw [DI.flat_len, r1.length]; exact hz.2)
    · cases q
  · cases q
theorem OPVF.opv {op : O2} {vop : D → D → Option D} (h : OPVF op vop) : OPV op vop := fun hX ha hb q => let ⟨l, a, b⟩ := h hX ha hb q; ⟨l, _, a, b⟩
theorem op_lastF {op : O2} {vop : D → D → Option D} (ho : OPVF op vop) {X : XS} {L : Nat} {st : Sto} {env : Evn} {v v' : VEnv} {a b : W} {d e : D} {r : VR D} (hL : L ≤ st.length) (E : EnvV F X st env v) (ha : Top st X a d) (hb : Top st X b e) (h : (vop d e).map (fun r => (VR.ok r, v)) = some (r, v')) : Cn F true rF X L st env v (op a b st) r v' := by
  cases q : vop d e with
  | none => rw [q] at h; cases h
  | some r0 =>
    rw [q] at h; cases h
    obtain ⟨l, h1, h2⟩ := ho (fun k z => (E.x k z).1) ha hb q
    rw [h1]
    exact .ok E l ⟨h2, _, rfl, hL⟩
theorem vj_opF {op : O2} {vop : D → D → Option D} {fa fb : FE} {ga gb : VM D} (ho : OPVF op vop) (ha : VJ F p1 rE fa ga) (hb : VJ F p2 rO fb gb) : VJ F (p1 && (p2 && true)) rF (fOp op fa fb) (vOp vop ga gb) := fun X st env v r v' E h =>
  Cn.bind (fun r v' q => ha X st env v r v' E q) h fun a d s1 v1 ev1 E1 k1 ra h =>
  Cn.bind (fun r v' q => (hb X s1 env v1 r v' E1 q).down dn_O ev1.1) h fun b e s2 v2 ev2 E2 k2 rb h => op_lastF ho (Nat.le_trans ev1.1 ev2.1) E2 (.inl (ev2.rx ra)) rb h
theorem vj_opFO {op : O2} {vop : D → D → Option D} {fa fb : FE} {ga gb : VM D} (ho : OPVF op vop) (ha : VJ F p1 rO fa ga) (hb : VJ F true rO fb gb) : VJ F (p1 && (true && true)) rF (fOp op fa fb) (vOp vop ga gb) := fun X st env v r v' E h =>
  Cn.bind (fun r v' q => ha X st env v r v' E q) h fun a d s1 v1 ev1 E1 k1 ra h => by
    have key : ∀ r v', gb v1 = some (r, v') → Cn F true (fun L st' X b e => Top st' X b e ∧ Ev N0 s1 st') X st.length s1 env v1 (fb env s1) r v' := fun r v' q => by
      obtain ⟨r', s2, h1, h2, h3, h4, h5, h6⟩ := hb X s1 env v1 r v' E1 q
      have n0 := (h5 rfl).2
      refine ⟨r', s2, h1, h2, h3, h4, h5, ?_⟩
      cases r' <;> cases r <;> first | exact h6 | exact ⟨h6, n0⟩
    exact Cn.bind key h fun b e s2 v2 ev2 E2 k2 rb h => op_lastF ho (Nat.le_trans ev1.1 ev2.1) E2 (Top.n0 ra rb.2) rb.1 h
/-! comparisons -/
def dp (d : D) : Bool := decide (d.depth < 24)
def vDat (G : D → D → Option Bool) (d e : D) : Option D := if dp d && dp e then (G d e).map .bool else none
theorem dat_ok {G : D → D → Option Bool} {st : Sto} {X : XS} {a b : W} {d e r : D} (ha : Top st X a d) (hb : Top st X b e) (q : vDat G d e = some r) : ∃ l w, opData G a b st = some (.ok w, st ++ l) ∧ RX (st ++ l) X w r := by
  unfold vDat at q
  split at q
  · rename_i hz
    rw [Bool.and_eq_true] at hz
    cases hg : G d e with
    | none => rw [hg] at q; cases q
    | some z =>
      rw [hg] at q; cases q
      refine ⟨[], .bl z, ?_, .bl z⟩
      unfold opData
      rw [ha.toD (of_decide_eq_true hz.1), hb.toD (of_decide_eq_true hz.2)]
      simp only
      rw [hg, List.append_nil]; rfl
  · cases q
def vEq : D → D → Option D := fun d e => match d, e with
  | .str x, .str y => some (.bool (x == y))
  | .int i, .int j => some (.bool (i == j))
  | d, e => vDat dEq d e
def vNe : D → D → Option D := fun d e => match d, e with
  | .str x, .str y => some (.bool (!(x == y)))
  | .int i, .int j => some (.bool (!(i == j)))
  | d, e => vDat dNe d e
theorem nostr {st : Sto} {X : XS} {x : Str} {d : D} (h : Top st X (.str x) d) : d = .str x := by
  rcases h with h | ⟨n, z, _⟩
  · cases h; rfl
  · cases z
theorem opv_eq : OPV opEqD vEq := by
  intro st X a b d e r hX ha hb q
  unfold vEq at q
  split at q
  · cases q; have := ha.str; have := hb.str; subst a b
    exact ⟨[], _, by rw [List.append_nil]; rfl, .bl _⟩
  · cases q; have := ha.int; have := hb.int; subst a b
    exact ⟨[], _, by rw [List.append_nil]; rfl, .bl _⟩
  · rename_i n1 n2
    obtain ⟨l, w, h1, h2⟩ := dat_ok ha hb q
    refine ⟨l, w, ?_, h2⟩
    unfold opEqD
    split
    · rename_i x y
      exact absurd (nostr hb) (fun z => n1 x y (nostr ha) z)
    · exact h1
theorem opv_ne : OPV opNeD vNe := by
  intro st X a b d e r hX ha hb q
  unfold vNe at q
  split at q
  · cases q; have := ha.str; have := hb.str; subst a b
    exact ⟨[], _, by rw [List.append_nil]; rfl, .bl _⟩
  · cases q; have := ha.int; have := hb.int; subst a b
    exact ⟨[], _, by rw [List.append_nil]; rfl, .bl _⟩
  · rename_i n1 n2
    obtain ⟨l, w, h1, h2⟩ := dat_ok ha hb q
    refine ⟨l, w, ?_, h2⟩
    unfold opNeD
    split
    · rename_i x y
      exact absurd (nostr hb) (fun z => n1 x y (nostr ha) z)
    · exact h1
def vIn : D → D → Option D := fun d e => match d, e with
  | .str x, .str y => match x.cps.toList with
    | [c] => some (.bool (decide (c ∈ y.cps.toList)))
    | _ => none
  | d, e => vDat dIn d e
def vNotIn : D → D → Option D := fun d e => match d, e with
  | .str x, .str y => match x.cps.toList with
    | [c] => some (.bool (!decide (c ∈ y.cps.toList)))
    | _ => none
  | d, e => vDat dNotIn d e
theorem opv_in : OPV opIn vIn := by
  intro st X a b d e r hX ha hb q
  unfold vIn at q
  split at q
  · rename_i x y
    have := ha.str; have := hb.str; subst a b
    split at q
    · rename_i c hc
      cases q
      refine ⟨[], .bl (decide (c ∈ y.cps.toList)), ?_, .bl _⟩
      show (match x.cps.toList with | [c] => ret (W.bl (decide (c ∈ y.cps.toList))) st | _ => none) = _
      rw [hc, List.append_nil]; rfl
    · cases q
  · rename_i n1
    obtain ⟨l, w, h1, h2⟩ := dat_ok ha hb q
    refine ⟨l, w, ?_, h2⟩
    unfold opIn
    split
    · rename_i x y
      exact absurd (nostr hb) (fun z => n1 x y (nostr ha) z)
    · exact h1
theorem opv_notIn : OPV opNotIn vNotIn := by
  intro st X a b d e r hX ha hb q
  unfold vNotIn at q
  split at q
  · rename_i x y
    have := ha.str; have := hb.str; subst a b
    split at q
    · rename_i c hc
      cases q
      refine ⟨[], .bl (!decide (c ∈ y.cps.toList)), ?_, .bl _⟩
      show (match x.cps.toList with | [c] => ret (W.bl (!decide (c ∈ y.cps.toList))) st | _ => none) = _
      rw [hc, List.append_nil]; rfl
    · cases q
  · rename_i n1
    obtain ⟨l, w, h1, h2⟩ := dat_ok ha hb q
    refine ⟨l, w, ?_, h2⟩
    unfold opNotIn
    split
    · rename_i x y
      exact absurd (nostr hb) (fun z => n1 x y (nostr ha) z)
    · exact h1
def isN : D → Bool
  | .none => true
  | _ => false
def vIsN : D → D → Option D := fun d e => match e with
  | .none => some (.bool (isN d))
  | _ => none
def vNotN : D → D → Option D := fun d e => match e with
  | .none => some (.bool (!isN d))
  | _ => none
theorem opv_isN : OPV opIsN vIsN := by
  intro st X a b d e r hX ha hb q
  unfold vIsN at q
  split at q
  · cases q; have := hb.none; subst b
    rcases ha with h | ⟨n, rfl, hn, h⟩
    · cases h <;> exact ⟨[], _, by rw [List.append_nil]; rfl, .bl _⟩
    · rcases h.no with ⟨_, rfl⟩ | ⟨_, rfl⟩ <;> exact ⟨[], _, by rw [List.append_nil]; rfl, .bl _⟩
  · cases q
theorem opv_notN : OPV opNotN vNotN := by
  intro st X a b d e r hX ha hb q
  unfold vNotN at q
  split at q
  · cases q; have := hb.none; subst b
    rcases ha with h | ⟨n, rfl, hn, h⟩
    · cases h <;> exact ⟨[], _, by rw [List.append_nil]; rfl, .bl _⟩
    · rcases h.no with ⟨_, rfl⟩ | ⟨_, rfl⟩ <;> exact ⟨[], _, by rw [List.append_nil]; rfl, .bl _⟩
  · cases q
/-! items -/
theorem atI_rx {st : Sto} {X : XS} {ws : List W} {ds : List D} {i : Int} {d : D} (r : RXs st X ws ds) (h : L2.atI ds i = some d) : ∃ w, L2.atI ws i = some w ∧ RX st X w d := by
  unfold L2.atI at h ⊢
  rw [r.length]
  cases q : L2.ixN ds.length i with
  | none => rw [q] at h; cases h
  | some j => rw [q] at h; exact r.get h
def sgD (c : Nat) : D := .str ⟨#[c]⟩
def vIx : D → D → Option D := fun d e => match d, e with
  | .tuple ds, .int i => L2.atI ds i
  | .list ds, .int i => L2.atI ds i
  | .str x, .int i => if szW x.length then (L2.atI x.cps.toList i).map sgD else none
  | _, _ => none
theorem opv_ix : OPV opIx vIx := by
  intro st X a b d e r hX ha hb q
  unfold vIx at q
  split at q
  · have := hb.int; subst b
    obtain ⟨ws, r1, rfl⟩ := ha.tuple
    obtain ⟨w, h1, h2⟩ := atI_rx r1 q
    exact ⟨[], w, by show (L2.atI ws _).map _ = _; rw [h1, List.append_nil]; rfl, h2.app []⟩
  · have := hb.int; subst b
    obtain ⟨ws, n, r1, rfl, e1⟩ := ha.list
    obtain ⟨w, h1, h2⟩ := atI_rx r1 q
    refine ⟨[], w, ?_, h2.app []⟩
    show (match st[n]? with | some (.lst ws) => (L2.atI ws _).map fun w => (R.ok w, st) | _ => none) = _
    rw [e1]; simp only; rw [h1, List.append_nil]; rfl
  · have := hb.int; have := ha.str; subst a b
    split at q
    · rename_i x i hz
      cases hc : L2.atI x.cps.toList i with
      | none => rw [hc] at q; cases q
      | some c =>
        rw [hc] at q; cases q
        refine ⟨[], .str ⟨#[c]⟩, ?_, .str _⟩
        show (if szW x.length then (L2.atI x.cps.toList i).map fun c => (R.ok (W.str ⟨#[c]⟩), st) else none) = _
        rw [if_pos hz, hc, List.append_nil]; rfl
    · cases q
  · cases q
end
end DV

namespace DV
open PySem DI
section
variable {F : Fr} {p p1 p2 p3 : Bool}
/-! ### one operand, two operands of a built-in -/
def OC1 (op : OC) (vop : D → Option D) : Prop := ∀ {st : Sto} {X : XS} {w : W} {d r : D}, (∀ k, X k → k < st.length) → Top st X w d → vop d = some r → ∃ l u, op [w] st = some (.ok u, st ++ l) ∧ RX (st ++ l) X u r
def vU (vop : D → Option D) (ga : VM D) : VM D := fun v => vbnd (ga v) fun a v => (vop a).map fun r => (.ok r, v)
theorem cb1 {op : OC} {fa : FE} {env : Evn} {st : Sto} : fCB op (fCons fa fNil) env st = bnd (fa env st) fun w st => op [w] st := by
  unfold fCB fCons
  cases fa env st with
  | none => rfl
  | some o => obtain ⟨r, s⟩ := o; cases r <;> rfl
theorem cb2 {op : OC} {fa fb : FE} {env : Evn} {st : Sto} : fCB op (fCons fa (fCons fb fNil)) env st = bnd (fa env st) fun a st => bnd (fb env st) fun b st => op [a, b] st := by
  unfold fCB fCons
  cases fa env st with
  | none => rfl
  | some o =>
    obtain ⟨r, s⟩ := o
    cases r with
    | exc x => rfl
    | ok w =>
      show bnd (bnd (bnd (fb env s) _) _) _ = bnd (fb env s) _
      cases fb env s with
      | none => rfl
      | some o => obtain ⟨r, s⟩ := o; cases r <;> rfl
theorem last1 {op : OC} {vop : D → Option D} (ho : OC1 op vop) {X : XS} {L : Nat} {st : Sto} {env : Evn} {v v' : VEnv} {a : W} {d : D} {r : VR D} (E : EnvV F X st env v) (ha : Top st X a d) (h : (vop d).map (fun r => (VR.ok r, v)) = some (r, v')) : Cn F true rE X L st env v (op [a] st) r v' := by
  cases q : vop d with
  | none => rw [q] at h; cases h
  | some r0 =>
    rw [q] at h; cases h
    obtain ⟨l, w, h1, h2⟩ := ho (fun k z => (E.x k z).1) ha q
    rw [h1]
    exact .ok E l h2
theorem vj_cb1 {op : OC} {vop : D → Option D} {fa : FE} {ga : VM D} (ho : OC1 op vop) (ha : VJ F p rO fa ga) : VJ F (p && true) rE (fCB op (fCons fa fNil)) (vU vop ga) := fun X st env v r v' E h => by
  rw [cb1]
  exact Cn.bind (fun r v' q => ha X st env v r v' E q) h fun a d s1 v1 ev1 E1 k1 ra h => last1 ho E1 ra h
def OC1F (op : OC) (vop : D → Option D) : Prop := ∀ {st : Sto} {X : XS} {w : W} {d r : D}, (∀ k, X k → k < st.length) → Top st X w d → vop d = some r → ∃ l, op [w] st = some (.ok (.ref st.length), st ++ l) ∧ RX (st ++ l) X (.ref st.length) r
theorem vj_cb1F {op : OC} {vop : D → Option D} {fa : FE} {ga : VM D} (ho : OC1F op vop) (ha : VJ F p rO fa ga) : VJ F (p && true) rF (fCB op (fCons fa fNil)) (vU vop ga) := fun X st env v r v' E h => by
  rw [cb1]
  refine Cn.bind (fun r v' q => ha X st env v r v' E q) h fun a d s1 v1 ev1 E1 k1 ra h => ?_
  cases q : vop d with
  | none => rw [q] at h; cases h
  | some r0 =>
    rw [q] at h; cases h
    obtain ⟨l, h1, h2⟩ := ho (fun k z => (E1.x k z).1) ra q
    rw [h1]
    exact .ok E1 l ⟨h2, _, rfl, ev1.1⟩
theorem vj_cb2 {op : OC} {vop : D → D → Option D} {fa fb : FE} {ga gb : VM D} (ho : OPV (fun a b => op [a, b]) vop) (ha : VJ F p1 rE fa ga) (hb : VJ F p2 rO fb gb) : VJ F (p1 && (p2 && true)) rE (fCB op (fCons fa (fCons fb fNil))) (vOp vop ga gb) := fun X st env v r v' E h => by
  rw [cb2]
  exact Cn.bind (fun r v' q => ha X st env v r v' E q) h fun a d s1 v1 ev1 E1 k1 ra h =>
    Cn.bind (fun r v' q => (hb X s1 env v1 r v' E1 q).down dn_O ev1.1) h fun b e s2 v2 ev2 E2 k2 rb h => op_last ho E2 (.inl (ev2.rx ra)) rb h
/-! len, repr, int, max, min, all, list, tuple -/
def vLen : D → Option D
  | .str x => if szW x.length then some (.int x.length) else none
  | .tuple ds => some (.int ds.length)
  | .list ds => some (.int ds.length)
  | _ => none
theorem oc_len : OC1 opLen vLen := by
  intro st X w d r hX h q
  unfold vLen at q
  split at q
  · split at q
    · rename_i x hz
      cases q; have := h.str; subst w
      refine ⟨[], _, ?_, .int _⟩
      show (match (if szW x.length then some x.length else none) with | some n => ret (W.int n) st | none => none) = _
      rw [if_pos hz, List.append_nil]; rfl
    · cases q
  · cases q
    obtain ⟨ws, r1, rfl⟩ := h.tuple
    rw [← r1.length]
    exact ⟨[], _, by rw [List.append_nil]; rfl, .int _⟩
  · cases q
    obtain ⟨ws, n, r1, rfl, e1⟩ := h.list
    rw [← r1.length]
    refine ⟨[], _, ?_, .int _⟩
    show (match (match st[n]? with | some (.lst ws) => some ws.length | _ => none) with | some n => ret (W.int n) st | none => none) = _
    rw [e1, List.append_nil]; rfl
  · cases q
def vRepr (d : D) : Option D := if dp d && okR d then some (.str d.shown) else none
theorem oc_repr : OC1 opRepr vRepr := by
  intro st X w d r hX h q
  unfold vRepr at q
  split at q
  · rename_i hz
    cases q
    rw [Bool.and_eq_true] at hz
    refine ⟨[], _, ?_, .str _⟩
    show (match toD st 24 w with | some d => if okR d then ret (W.str d.shown) st else none | none => none) = _
    rw [h.toD (of_decide_eq_true hz.1)]; simp only; rw [if_pos hz.2, List.append_nil]; rfl
  · cases q
def vInt : D → Option D
  | .int i => some (.int i)
  | .bool b => some (.int (if b then 1 else 0))
  | _ => none
theorem oc_int : OC1 opInt vInt := by
  intro st X w d r hX h q
  unfold vInt at q
  split at q
  · cases q; have := h.int; subst w; exact ⟨[], _, by rw [List.append_nil]; rfl, .int _⟩
  · cases q; have := h.bool; subst w; exact ⟨[], _, by rw [List.append_nil]; rfl, .int _⟩
  · cases q
def allV : List D → Option Bool
  | [] => some true
  | .bool b :: ds => (allV ds).map (b && ·)
  | _ => none
def vAll : D → Option D
  | .list ds => (allV ds).map .bool
  | _ => none
theorem allV_ok {st : Sto} {X : XS} : ∀ {ws : List W} {ds : List D} {b : Bool}, RXs st X ws ds → allV ds = some b → allB ws = some b
  | _, _, _, .nil, h => h
  | _, _, b, .cons (ds := ds) (.bl c) t, h => by
    have h : (allV ds).map (c && ·) = some b := h
    cases q : allV ds with
    | none => rw [q] at h; cases h
    | some x =>
      rw [q] at h
      show (allB _).map (c && ·) = _
      rw [allV_ok t q]; exact h
  | _, _, _, .cons .non t, h => by cases h
  | _, _, _, .cons (.int _) t, h => by cases h
  | _, _, _, .cons (.str _) t, h => by cases h
  | _, _, _, .cons (.tup _) t, h => by cases h
  | _, _, _, .cons (.ref _ _ _) t, h => by cases h
  | _, _, _, .cons (.emp _ _) t, h => by cases h
  | _, _, _, .cons (.dct _ _ _ _) t, h => by cases h
theorem oc_all : OC1 opAll vAll := by
  intro st X w d r hX h q
  unfold vAll at q
  split at q
  · rename_i ds
    obtain ⟨ws, n, r1, rfl, e1⟩ := h.list
    cases z : allV ds with
    | none => rw [z] at q; cases q
    | some b =>
      rw [z] at q; cases q
      refine ⟨[], .bl b, ?_, .bl b⟩
      show (match st[n]? with | some (.lst us) => bOut (allB us) st | _ => none) = _
      rw [e1]; simp only; rw [allV_ok r1 z, List.append_nil]; rfl
  · cases q
def vListOf : D → Option D
  | .list ds => some (.list ds)
  | .tuple ds => some (.list ds)
  | _ => none
theorem ocf_list : OC1F opList vListOf := by
  intro st X w d r hX h q
  unfold vListOf at q
  split at q
  · cases q
    obtain ⟨ws, n, r1, rfl, e1⟩ := h.list
    refine ⟨[.lst ws], ?_, rx_new hX r1⟩
    show (match (match st[n]? with | some (.lst ws) => some ws | _ => none) with | some us => some (R.ok (W.ref st.length), st ++ [Ob.lst us]) | none => none) = _
    rw [e1]
  · cases q
    obtain ⟨ws, r1, rfl⟩ := h.tuple
    exact ⟨[.lst ws], rfl, rx_new hX r1⟩
  · cases q
def vTupleOf : D → Option D
  | .list ds => some (.tuple ds)
  | .tuple ds => some (.tuple ds)
  | _ => none
theorem oc_tuple : OC1 opTuple vTupleOf := by
  intro st X w d r hX h q
  unfold vTupleOf at q
  split at q
  · cases q
    obtain ⟨ws, n, r1, rfl, e1⟩ := h.list
    refine ⟨[], .tup ws, ?_, .tup (r1.app [])⟩
    show (match (match st[n]? with | some (.lst ws) => some ws | _ => none) with | some us => ret (W.tup us) st | none => none) = _
    rw [e1, List.append_nil]; rfl
  · cases q
    obtain ⟨ws, r1, rfl⟩ := h.tuple
    exact ⟨[], .tup ws, by rw [List.append_nil]; rfl, .tup (r1.app [])⟩
  · cases q
def vMax2 : D → D → Option D := fun d e => match d, e with
  | .int i, .int j => some (.int (if j > i then j else i))
  | _, _ => none
def vMin2 : D → D → Option D := fun d e => match d, e with
  | .int i, .int j => some (.int (if j < i then j else i))
  | _, _ => none
theorem opv_max : OPV (fun a b => opMax2 [a, b]) vMax2 := by
  intro st X a b d e r hX ha hb q
  unfold vMax2 at q
  split at q
  · cases q; have := ha.int; have := hb.int; subst a b; exact ⟨[], _, by rw [List.append_nil]; rfl, .int _⟩
  · cases q
theorem opv_min : OPV (fun a b => opMin2 [a, b]) vMin2 := by
  intro st X a b d e r hX ha hb q
  unfold vMin2 at q
  split at q
  · cases q; have := ha.int; have := hb.int; subst a b; exact ⟨[], _, by rw [List.append_nil]; rfl, .int _⟩
  · cases q
/-! isinstance -/
def tyD : D → String
  | .none => "NoneType"
  | .bool _ => "bool"
  | .int _ => "int"
  | .str _ => "str"
  | .tuple _ => "tuple"
  | .list _ => "list"
  | .dict _ => "dict"
theorem ty_ok {st : Sto} {X : XS} {w : W} {d : D} (h : Top st X w d) : tyW w st = some (tyD d) := by
  have key : ∀ (X : XS) (w : W) (d : D), RX st X w d → tyW w st = some (tyD d) := fun X w d h => by
    cases h with
    | @ref k _ _ e _ _ => show (match st[k]? with | some (.lst _) => some "list" | some .emp => some "dict" | some (.dct _) => some "dict" | _ => none) = _; rw [e]; rfl
    | @emp k e _ => show (match st[k]? with | some (.lst _) => some "list" | some .emp => some "dict" | some (.dct _) => some "dict" | _ => none) = _; rw [e]; rfl
    | @dct k _ _ _ e _ _ _ => show (match st[k]? with | some (.lst _) => some "list" | some .emp => some "dict" | some (.dct _) => some "dict" | _ => none) = _; rw [e]; rfl
    | _ => rfl
  obtain ⟨_, r⟩ := h.rx
  exact key _ _ _ r
def vIsi (T : String) (d : D) : Option D := (L2.kitB (tyD d) T).map .bool
theorem vj_isi {T : String} {fa : FE} {ga : VM D} (ha : VJ F p rO fa ga) : VJ F (p && true) rE (fIsi T fa) (vU (vIsi T) ga) := fun X st env v r v' E h =>
  Cn.bind (fun r v' q => ha X st env v r v' E q) h fun a d s1 v1 ev1 E1 k1 ra h => by
    cases q : L2.kitB (tyD d) T with
    | none => unfold vIsi at h; rw [q] at h; cases h
    | some b =>
      unfold vIsi at h; rw [q] at h; cases h
      have e : opIsi T [a] s1 = some (.ok (.bl b), s1) := by
        show (match tyW a s1 with | some t => (match isiB T t with | some b => ret (W.bl b) s1 | none => none) | none => none) = _
        rw [ty_ok ra]; simp only
        show (match L2.kitB (tyD d) T with | some b => ret (W.bl b) s1 | none => none) = _
        rw [q]; rfl
      show Cn F true rE X st.length s1 env _ (opIsi T [a] s1) _ _
      rw [e]
      exact .ok0 E1 (.bl b)
def vIsiT (Ts : List String) (d : D) : Option D := (kitAnyB (tyD d) Ts).map .bool
theorem vj_isiT {Ts : List String} {fa : FE} {ga : VM D} (ha : VJ F p rO fa ga) : VJ F (p && true) rE (fIsiT Ts fa) (vU (vIsiT Ts) ga) := fun X st env v r v' E h =>
  Cn.bind (fun r v' q => ha X st env v r v' E q) h fun a d s1 v1 ev1 E1 k1 ra h => by
    cases q : kitAnyB (tyD d) Ts with
    | none => unfold vIsiT at h; rw [q] at h; cases h
    | some b =>
      unfold vIsiT at h; rw [q] at h; cases h
      have e : (match tyW a s1 with | some t => (match kitAnyB t Ts with | some b => ret (W.bl b) s1 | none => none) | none => none) = some (.ok (.bl b), s1) := by
        rw [ty_ok ra]; simp only; rw [q]; rfl
      show Cn F true rE X st.length s1 env _ (match tyW a s1 with | some t => (match kitAnyB t Ts with | some b => ret (W.bl b) s1 | none => none) | none => none) _ _
      rw [e]
      exact .ok0 E1 (.bl b)
/-! ### tests -/
def asV (d : D) : VM Bool := fun v => match d with
  | .bool b => some (.ok b, v)
  | _ => none
def vTest (g : VM D) : VM Bool := fun v => vbnd (g v) asV
theorem asV_some {d : D} {v v' : VEnv} {r : VR Bool} (h : asV d v = some (r, v')) : ∃ b, d = .bool b ∧ r = .ok b ∧ v' = v := by
  unfold asV at h
  split at h
  · cases h; exact ⟨_, rfl, rfl, rfl⟩
  · cases h
theorem vj_test {f : FE} {g : VM D} (h : VJ F p rE f g) : VJ F (p && true) rQ (fTest f) (vTest g) := fun X st env v r v' E e =>
  Cn.bind (fun r v' q => h X st env v r v' E q) e fun a d s1 v1 ev1 E1 k1 ra e => by
    obtain ⟨b, rfl, rfl, rfl⟩ := asV_some e
    cases ra
    exact .ok0 E1 rfl
def vAndT (f g : VM Bool) : VM Bool := fun v => vbnd (f v) fun b v => if b then g v else some (.ok false, v)
def vOrT (f g : VM Bool) : VM Bool := fun v => vbnd (f v) fun b v => if b then some (.ok true, v) else g v
def vNotT (f : VM Bool) : VM Bool := fun v => vbnd (f v) fun b v => some (.ok (!b), v)
theorem cn_pure {α β : Type} {rel : Re α β} {X : XS} {L : Nat} {st : Sto} {env : Evn} {v v' : VEnv} {o : Out α} {r : VR β} (h : Cn F true rel X L st env v o r v') : Cn F p rel X L st env v o r v' := by
  obtain ⟨r', s1, a, b, c, d, e, f⟩ := h
  exact ⟨r', s1, a, b, c, d, fun _ => e rfl, f⟩
theorem vj_andT {f f2 : FT} {g g2 : VM Bool} (h : VJ F p1 rQ f g) (h2 : VJ F p2 rQ f2 g2) : VJ F (p1 && p2) rQ (fAndT f f2) (vAndT g g2) := fun X st env v r v' E e =>
  Cn.bind (fun r v' q => h X st env v r v' E q) e fun a d s1 v1 ev1 E1 k1 ra e => by
    cases (show a = d from ra)
    cases a with
    | true => exact (h2 X s1 env v1 r v' E1 e).down dn_Q ev1.1
    | false => cases e; exact cn_pure (.ok0 E1 rfl)
theorem vj_orT {f f2 : FT} {g g2 : VM Bool} (h : VJ F p1 rQ f g) (h2 : VJ F p2 rQ f2 g2) : VJ F (p1 && p2) rQ (fOrT f f2) (vOrT g g2) := fun X st env v r v' E e =>
  Cn.bind (fun r v' q => h X st env v r v' E q) e fun a d s1 v1 ev1 E1 k1 ra e => by
    cases (show a = d from ra)
    cases a with
    | false => exact (h2 X s1 env v1 r v' E1 e).down dn_Q ev1.1
    | true => cases e; exact cn_pure (.ok0 E1 rfl)
theorem vj_notT {f : FT} {g : VM Bool} (h : VJ F p rQ f g) : VJ F (p && true) rQ (fNotT f) (vNotT g) := fun X st env v r v' E e =>
  Cn.bind (fun r v' q => h X st env v r v' E q) e fun a d s1 v1 ev1 E1 k1 ra e => by
    cases (show a = d from ra)
    cases e
    exact .ok0 E1 rfl
def vYes : VM Bool := fun v => some (.ok true, v)
theorem vj_yes : VJ F true rQ fYes vYes := fun X st env v r v' E e => by cases e; exact .ok0 E rfl
/-! ### x and y, x or y, not x, x if t else y -/
def vAnd (f g : VM D) : VM D := fun v => vbnd (f v) fun w v => vbnd (asV w v) fun b v => if b then g v else some (.ok (.bool false), v)
def vOr (f g : VM D) : VM D := fun v => vbnd (f v) fun w v => vbnd (asV w v) fun b v => if b then some (.ok (.bool true), v) else g v
def vNot (f : VM D) : VM D := fun v => vbnd (f v) fun w v => vbnd (asV w v) fun b v => some (.ok (.bool (!b)), v)
theorem asV_bnd {β : Type} {d : D} {v v' : VEnv} {k : Bool → VM β} {r : VR β} (h : vbnd (asV d v) k = some (r, v')) : ∃ b, d = .bool b ∧ k b v = some (r, v') := by
  cases d with
  | bool b => exact ⟨b, rfl, h⟩
  | _ => cases h
theorem vj_and {f f2 : FE} {g g2 : VM D} (h : VJ F p1 rE f g) (h2 : VJ F p2 rE f2 g2) : VJ F (p1 && p2) rE (fAnd f f2) (vAnd g g2) := fun X st env v r v' E e =>
  Cn.bind (fun r v' q => h X st env v r v' E q) e fun a d s1 v1 ev1 E1 k1 ra e => by
    obtain ⟨b, rfl, e⟩ := asV_bnd e
    cases ra
    cases b with
    | true => exact (h2 X s1 env v1 r v' E1 e).down dn_E ev1.1
    | false => cases e; exact cn_pure (.ok0 E1 (.bl false))
theorem vj_or {f f2 : FE} {g g2 : VM D} (h : VJ F p1 rE f g) (h2 : VJ F p2 rE f2 g2) : VJ F (p1 && p2) rE (fOr f f2) (vOr g g2) := fun X st env v r v' E e =>
  Cn.bind (fun r v' q => h X st env v r v' E q) e fun a d s1 v1 ev1 E1 k1 ra e => by
    obtain ⟨b, rfl, e⟩ := asV_bnd e
    cases ra
    cases b with
    | false => exact (h2 X s1 env v1 r v' E1 e).down dn_E ev1.1
    | true => cases e; exact cn_pure (.ok0 E1 (.bl true))
theorem vj_not {f : FE} {g : VM D} (h : VJ F p rE f g) : VJ F (p && true) rE (fNot f) (vNot g) := fun X st env v r v' E e =>
  Cn.bind (fun r v' q => h X st env v r v' E q) e fun a d s1 v1 ev1 E1 k1 ra e => by
    obtain ⟨b, rfl, e⟩ := asV_bnd e
    cases ra
    cases e
    exact .ok0 E1 (.bl _)
def vIf (c : VM Bool) (f g : VM D) : VM D := fun v => vbnd (c v) fun b v => if b then f v else g v
theorem vj_if {fc : FT} {f f2 : FE} {c : VM Bool} {g g2 : VM D} (hc : VJ F p1 rQ fc c) (h : VJ F p2 rE f g) (h2 : VJ F p3 rE f2 g2) : VJ F (p1 && (p2 && p3)) rE (fIf fc f f2) (vIf c g g2) := fun X st env v r v' E e =>
  Cn.bind (fun r v' q => hc X st env v r v' E q) e fun a d s1 v1 ev1 E1 k1 ra e => by
    cases (show a = d from ra)
    have wk : ∀ {p q : Bool} {o : Out W} {r : VR D}, (q = true → p = true) → Cn F p rE X st.length s1 env v1 o r v' → Cn F q rE X st.length s1 env v1 o r v' := fun hp h => by
      obtain ⟨r', s1, a, b, c, d, e, f⟩ := h
      exact ⟨r', s1, a, b, c, d, fun z => e (hp z), f⟩
    cases a with
    | true => exact wk (fun z => by rw [Bool.and_eq_true] at z; exact z.1) ((h X s1 env v1 r v' E1 e).down dn_E ev1.1)
    | false => exact wk (fun z => by rw [Bool.and_eq_true] at z; exact z.2) ((h2 X s1 env v1 r v' E1 e).down dn_E ev1.1)
/-! ### displays -/
def vNil : VM (List D) := vret []
def vCons (f : VM D) (g : VM (List D)) : VM (List D) := fun v => vbnd (f v) fun d v => vbnd (g v) fun ds v => some (.ok (d :: ds), v)
theorem vj_nil : VJ F true rA fNil vNil := fun X st env v r v' E e => by cases e; exact .ok0 E .nil
theorem vj_cons {f : FE} {fs : FA} {g : VM D} {gs : VM (List D)} (h : VJ F p1 rE f g) (hs : VJ F p2 rA fs gs) : VJ F (p1 && (p2 && true)) rA (fCons f fs) (vCons g gs) := fun X st env v r v' E e =>
  Cn.bind (fun r v' q => h X st env v r v' E q) e fun a d s1 v1 ev1 E1 k1 ra e =>
  Cn.bind (fun r v' q => (hs X s1 env v1 r v' E1 q).down dn_A ev1.1) e fun as ds s2 v2 ev2 E2 k2 rs e => by
    cases e
    exact .ok0 E2 (.cons (ev2.rx ra) rs)
def vTup (g : VM (List D)) : VM D := fun v => vbnd (g v) fun ds v => if szW ds.length then some (.ok (.tuple ds), v) else none
def vLst (g : VM (List D)) : VM D := fun v => vbnd (g v) fun ds v => if szW ds.length then some (.ok (.list ds), v) else none
theorem vj_tup {f : FA} {g : VM (List D)} (h : VJ F p rA f g) : VJ F (p && true) rE (fTup f) (vTup g) := fun X st env v r v' E e =>
  Cn.bind (fun r v' q => h X st env v r v' E q) e fun as ds s1 v1 ev1 E1 k1 ra e => by
    split at e
    · rename_i hz
      cases e
      have hz : szW as.length = true := by rw [RXs.length ra]; exact hz
      rw [if_pos hz]
      exact .ok0 E1 (.tup ra)
    · cases e
theorem vj_lst {f : FA} {g : VM (List D)} (h : VJ F p rA f g) : VJ F (p && true) rF (fLst f) (vLst g) := fun X st env v r v' E e =>
  Cn.bind (fun r v' q => h X st env v r v' E q) e fun as ds s1 v1 ev1 E1 k1 ra e => by
    split at e
    · rename_i hz
      cases e
      have hz : szW as.length = true := by rw [RXs.length ra]; exact hz
      rw [newL_ok hz]
      exact .ok E1 _ ⟨rx_new (fun k z => (E1.x k z).1) ra, _, rfl, ev1.1⟩
    · cases e
def vEmp : VM D := vret (.dict [])
theorem vj_emp : VJ F true rE fEmp vEmp := fun X st env v r v' E e => by
  cases e
  exact .ok E [.emp] (.emp (by simp) fun z => Nat.lt_irrefl _ (E.x _ z).1)
def vNeg (f : VM D) : VM D := vU (fun d => match d with | .int i => some (.int (-i)) | _ => none) f
theorem vj_neg {f : FE} {g : VM D} (h : VJ F p rE f g) : VJ F (p && true) rE (fNeg f) (vNeg g) := fun X st env v r v' E e =>
  Cn.bind (fun r v' q => h X st env v r v' E q) e fun a d s1 v1 ev1 E1 k1 ra e => by
    cases d with
    | int i => cases ra; cases e; exact .ok0 E1 (.int _)
    | _ => cases e
/-! a < b < c -/
def vChain (o o' : D → D → Option D) (ga gb gc : VM D) : VM D := fun v => vbnd (ga v) fun a v => vbnd (gb v) fun b v => match o a b with
  | some (.bool true) => vbnd (gc v) fun c v => (o' b c).map fun r => (.ok r, v)
  | some (.bool false) => some (.ok (.bool false), v)
  | _ => none
theorem vj_chain {o o' : O2} {u u' : D → D → Option D} {fa fb fc : FE} {ga gb gc : VM D} (h1 : OPV o u) (h2 : OPV o' u') (ha : VJ F p1 rE fa ga) (hb : VJ F p2 rE fb gb) (hc : VJ F p3 rE fc gc) : VJ F (p1 && (p2 && (p3 && true))) rE (fChain o o' fa fb fc) (vChain u u' ga gb gc) := fun X st env v r v' E e =>
  Cn.bind (fun r v' q => ha X st env v r v' E q) e fun a d s1 v1 ev1 E1 k1 ra e =>
  Cn.bind (fun r v' q => (hb X s1 env v1 r v' E1 q).down dn_E ev1.1) e fun b db s2 v2 ev2 E2 k2 rb e => by
    have ra2 := ev2.rx ra
    have hX : ∀ k, X k → k < s2.length := fun k z => (E2.x k z).1
    split at e
    · rename_i q
      obtain ⟨l, w, e1, r1⟩ := h1 hX (.inl ra2) (.inl rb) q
      cases r1
      have E3 := E2.app l
      have e3 : Ev (Yf F X) s2 (s2 ++ l) := Ev.app l
      have go := Cn.bind (p := p3) (p2 := true) (r1 := rE) (r2 := rE) (kf := fun c st => o' b c st) (fun r v' q => (hc X (s2 ++ l) env v2 r v' E3 q).down dn_E (Nat.le_trans (Nat.le_trans ev1.1 ev2.1) (by simp : s2.length ≤ (s2 ++ l).length))) e fun c dc s3 v3 ev3 E4 k3 rc e => op_last h2 E4 (.inl (ev3.rx (e3.rx rb))) (.inl rc) e
      obtain ⟨r', s4, x1, x2, x3, x4, x5, x6⟩ := go
      refine ⟨r', s4, ?_, e3.trans x2, x3, x4, fun z => ?_, x6⟩
      · rw [e1]; exact x1
      · obtain ⟨y1, y2⟩ := x5 z
        exact ⟨y1, (Ev.app l).trans y2⟩
    · rename_i q
      cases e
      obtain ⟨l, w, e1, r1⟩ := h1 hX (.inl ra2) (.inl rb) q
      cases r1
      rw [e1]
      exact cn_pure (.ok E2 l (.bl false))
    · cases e
end
end DV

namespace DV
open PySem DI
section
variable {F : Fr} {p p1 p2 p3 : Bool}
/-! ### slices -/
def vPart (g : VM D) : VM (Option Int) := fun v => vbnd (g v) fun d v => match d with
  | .int i => some (.ok (some i), v)
  | _ => none
def vNoPart : VM (Option Int) := vret none
theorem vj_noPart : VJ F true rQ fNoPart vNoPart := fun X st env v r v' E e => by cases e; exact .ok0 E rfl
theorem vj_part {f : FE} {g : VM D} (h : VJ F p rE f g) : VJ F (p && true) rQ (fPart f) (vPart g) := fun X st env v r v' E e =>
  Cn.bind (fun r v' q => h X st env v r v' E q) e fun a d s1 v1 ev1 E1 k1 ra e => by
    cases d with
    | int i => cases ra; cases e; exact .ok0 E1 rfl
    | _ => cases e
def cutD (ds : List D) (lo hi : Option Int) : List D := (ds.drop (HT.sIx ds.length 0 lo)).take (HT.sIx ds.length ds.length hi - HT.sIx ds.length 0 lo)
theorem cut_rx {st : Sto} {X : XS} {ws : List W} {ds : List D} (r : RXs st X ws ds) (lo hi : Option Int) : RXs st X (cutW ws lo hi) (cutD ds lo hi) := by
  unfold cutW cutD
  rw [r.length]
  exact (r.drop _).take _
def vSliceL (d : D) (lo hi : Option Int) : Option D := match d with
  | .list ds => some (.list (cutD ds lo hi))
  | _ => none
def vSlice (d : D) (lo hi : Option Int) : Option D := match d with
  | .list ds => some (.list (cutD ds lo hi))
  | .tuple ds => some (.tuple (cutD ds lo hi))
  | _ => none
def vSl (op : D → Option Int → Option Int → Option D) (ga : VM D) (gl gh : VM (Option Int)) : VM D := fun v => vbnd (ga v) fun a v => vbnd (gl v) fun lo v => vbnd (gh v) fun hi v => (op a lo hi).map fun r => (.ok r, v)
theorem sl_core {rel : Re W D} (hd : Dn rel) {op : D → Option Int → Option Int → Option D} (ho : ∀ {L : Nat} {st : Sto} {X : XS} {a : W} {d r : D} {lo hi : Option Int}, (∀ k, X k → k < st.length) → L ≤ st.length → Top st X a d → op d lo hi = some r → ∃ l w, opSl a lo hi st = some (.ok w, st ++ l) ∧ rel L (st ++ l) X w r)
    {fa : FE} {fl fh : FO} {ga : VM D} {gl gh : VM (Option Int)} (ha : VJ F p rO fa ga) (hl : VJ F true rQ fl gl) (hh : VJ F true rQ fh gh) : VJ F (p && (true && (true && true))) rel (fSl fa fl fh) (vSl op ga gl gh) := fun X st env v r v' E e =>
  Cn.bind (fun r v' q => ha X st env v r v' E q) e fun a d s1 v1 ev1 E1 k1 ra e => by
    have pr : ∀ {f : FO} {g : VM (Option Int)} {s : Sto} {v : VEnv} {L : Nat}, VJ F true rQ f g → EnvV F X s env v → ∀ r v', g v = some (r, v') → Cn F true (fun L st' X b e => b = e ∧ Ev N0 s st') X L s env v (f env s) r v' := fun h E r v' q => by
      obtain ⟨r', s2, h1, h2, h3, h4, h5, h6⟩ := h X _ env _ r v' E q
      have n0 := (h5 rfl).2
      refine ⟨r', s2, h1, h2, h3, h4, h5, ?_⟩
      cases r' <;> cases r <;> first | exact h6 | exact ⟨h6, n0⟩
    refine Cn.bind (pr hl E1) e fun lo lo' s2 v2 ev2 E2 k2 rl e => ?_
    refine Cn.bind (pr hh E2) e fun hi hi' s3 v3 ev3 E3 k3 rh e => ?_
    obtain ⟨rfl, n1⟩ := rl
    obtain ⟨rfl, n2⟩ := rh
    cases q : op d lo hi with
    | none => rw [q] at e; cases e
    | some r0 =>
      rw [q] at e; cases e
      obtain ⟨l, w, h1, h2⟩ := ho (L := st.length) (fun k z => (E3.x k z).1) (Nat.le_trans ev1.1 (Nat.le_trans ev2.1 ev3.1)) (Top.n0 ra (n1.trans n2)) q
      rw [h1]
      exact .ok E3 l h2
theorem vj_slL {fa : FE} {fl fh : FO} {ga : VM D} {gl gh : VM (Option Int)} (ha : VJ F p rO fa ga) (hl : VJ F true rQ fl gl) (hh : VJ F true rQ fh gh) : VJ F (p && (true && (true && true))) rF (fSl fa fl fh) (vSl vSliceL ga gl gh) :=
  sl_core dn_F (fun {L st X a d r lo hi} hX hL h q => by
    unfold vSliceL at q
    split at q
    · cases q
      obtain ⟨ws, n, r1, rfl, e1⟩ := h.list
      refine ⟨[.lst (cutW ws lo hi)], .ref st.length, ?_, rx_new hX (cut_rx r1 lo hi), _, rfl, hL⟩
      show (match st[n]? with | some (.lst ws) => some (R.ok (W.ref st.length), st ++ [Ob.lst (cutW ws lo hi)]) | _ => none) = _
      rw [e1]
    · cases q) ha hl hh
theorem vj_sl {fa : FE} {fl fh : FO} {ga : VM D} {gl gh : VM (Option Int)} (ha : VJ F p rO fa ga) (hl : VJ F true rQ fl gl) (hh : VJ F true rQ fh gh) : VJ F (p && (true && (true && true))) rE (fSl fa fl fh) (vSl vSlice ga gl gh) :=
  sl_core dn_E (fun {L st X a d r lo hi} hX hL h q => by
    unfold vSlice at q
    split at q
    · cases q
      obtain ⟨ws, n, r1, rfl, e1⟩ := h.list
      refine ⟨[.lst (cutW ws lo hi)], .ref st.length, ?_, rx_new hX (cut_rx r1 lo hi)⟩
      show (match st[n]? with | some (.lst ws) => some (R.ok (W.ref st.length), st ++ [Ob.lst (cutW ws lo hi)]) | _ => none) = _
      rw [e1]
    · cases q
      obtain ⟨ws, r1, rfl⟩ := h.tuple
      exact ⟨[], .tup (cutW ws lo hi), by rw [List.append_nil]; rfl, .tup ((cut_rx r1 lo hi).app [])⟩
    · cases q) ha hl hh
/-! ### what is walked -/
def itemsV : D → Option (List D)
  | .list ds => some ds
  | .tuple ds => some ds
  | .str x => some (x.cps.toList.map sgD)
  | _ => none
/-- the walk's items stand for ds, as long as nothing of Y is written -/
def Src (Y : XS) (X : XS) (G : Gt) (st : Sto) (ds : List D) : Prop := ∃ ws, RXs st X ws ds ∧ ∀ st', Ev Y st st' → ∀ i, G st' i = some ws[i]?
def rngD (lo : Int) (n : Nat) : List D := (List.range n).map fun i : Nat => .int (lo + i)
theorem src_rng {Y X : XS} {st : Sto} (lo : Int) (n : Nat) : Src Y X (gRng lo n) st (rngD lo n) := by
  refine ⟨(List.range n).map fun i : Nat => W.int (lo + i), ?_, fun st' _ i => ?_⟩
  · unfold rngD
    induction List.range n with
    | nil => exact .nil
    | cons a l ih => exact .cons (.int _) ih
  · show some (if i < n then some (W.int (lo + i)) else none) = _
    rw [List.getElem?_map]
    by_cases h : i < n
    · rw [if_pos h, List.getElem?_range h]; rfl
    · rw [if_neg h, List.getElem?_eq_none (by simpa using h)]; rfl
theorem src_of {X : XS} {st : Sto} {w : W} {d : D} {ds : List D} (r : RX st X w d) (h : itemsV d = some ds) : Src (Yf F X) X (gOf w) st ds ∧ cnt w st = some ds.length := by
  cases r with
  | tup rs => cases h; exact ⟨⟨_, rs, fun st' _ i => rfl⟩, by show some _ = _; rw [rs.length]⟩
  | @ref k ws _ e n rs =>
    cases h
    refine ⟨⟨ws, rs, fun st' ev i => ?_⟩, ?_⟩
    · show (match st'[k]? with | some (.lst ws) => some ws[i]? | _ => none) = _
      rw [ev.2 k _ e fun z => n z.1]
    · show (match st[k]? with | some (.lst ws) => some ws.length | _ => none) = _
      rw [e, ← rs.length]
  | str x =>
    cases h
    refine ⟨⟨x.cps.toList.map fun c => .str ⟨#[c]⟩, ?_, fun st' _ i => ?_⟩, ?_⟩
    · induction x.cps.toList with
      | nil => exact .nil
      | cons a l ih => exact .cons (.str _) ih
    · show some ((x.cps[i]?).map fun c => W.str ⟨#[c]⟩) = _
      rw [List.getElem?_map, Array.getElem?_toList]
    · show some x.cps.size = _
      rw [List.length_map, Array.length_toList]
  | non => cases h
  | bl b => cases h
  | int i => cases h
  | emp e n => cases h
  | dct _ _ _ _ => cases h
theorem src_top {X : XS} {st : Sto} {w : W} {d : D} {ds : List D} (r : Top st X w d) (h : itemsV d = some ds) : Src N0 X (gOf w) st ds ∧ cnt w st = some ds.length := by
  rcases r with r | ⟨n, rfl, hn, r⟩
  · obtain ⟨⟨ws, h1, h2⟩, h3⟩ := src_of (F := ⟨0, none, N0, false, none⟩) r h
    exact ⟨⟨ws, h1, fun st' ev i => h2 st' (ev.n0 _) i⟩, h3⟩
  · rcases r.no with ⟨es, rfl⟩ | ⟨_, rfl⟩
    · cases h
      obtain ⟨ws, e, rs⟩ := r.list
      refine ⟨⟨ws, rs, fun st' ev i => ?_⟩, ?_⟩
      · show (match st'[n]? with | some (.lst ws) => some ws[i]? | _ => none) = _
        rw [ev.2 n _ e id]
      · show (match st[n]? with | some (.lst ws) => some ws.length | _ => none) = _
        rw [e, ← rs.length]
    · cases h
/-! ### [e for x in it if t] -/
def vlcL (j : Nat) (t : VM Bool) (f : VM D) : List D → List D → VM (List D)
  | [], acc, v => if szW acc.length then some (.ok acc, v) else none
  | d :: ds, acc, v => match t (v.set j (some (false, d))) with
    | some (.ok true, v1) => match f v1 with
      | some (.ok y, v2) => if szW acc.length then vlcL j t f ds (acc ++ [y]) v2 else none
      | _ => none
    | some (.ok false, v1) => vlcL j t f ds acc v1
    | _ => none
def vLcI (j : Nat) (t : VM Bool) (f : VM D) (ds : List D) : VM D := fun v => match v.getD j none with
  | some (true, _) => none
  | o => match vlcL j t f ds [] (v.set j none) with
    | some (.ok r, v2) => some (.ok (.list r), v2.set j o)
    | _ => none
def vLc (gi : VM D) (j : Nat) (t : VM Bool) (f : VM D) : VM D := fun v => vbnd (gi v) fun d v => match itemsV d with
  | some ds => vLcI j t f ds v
  | none => none
theorem EnvV.restore {X : XS} {st st' : Sto} {env : Evn} {v v1 : VEnv} {j : Nat} {o : Option W} (E0 : EnvV F X st env v) (ev : Ev (Yf F X) st st') (h0 : Z0 F j) (hv : ∀ d, v.getD j none ≠ some (true, d)) (E1 : EnvV F X st' (env.set j o) v1) : EnvV F X st' env (v1.set j (v.getD j none)) := by
  have es : (env.set j o).set j (env.getD j none) = env := by
    rw [List.set_set]
    apply List.ext_getElem?
    intro m
    by_cases z : j = m
    · subst z
      by_cases hl : j < env.length
      · rw [List.getElem?_set_self hl, List.getD_eq_getElem?_getD, List.getElem?_eq_getElem hl]; rfl
      · rw [List.getElem?_eq_none (by simpa using Nat.le_of_not_lt hl), List.getElem?_eq_none (by omega)]
    · rw [List.getElem?_set_ne z]
  have := E1.put (X' := X) (i := j) (w := env.getD j none) (o := v.getD j none) h0 E1.x (fun k z => (E1.b k z).1) (fun _ _ _ _ _ _ r => r) (fun _ _ _ _ _ _ a b => ⟨a, b⟩) (fun d q => ?_) (fun d q => absurd q (hv d))
  · rw [es] at this; exact this
  · have hv : v[j]? = some (some (false, d)) := by
      rw [List.getD_eq_getElem?_getD] at q
      cases z : v[j]? with
      | none => rw [z] at q; cases q
      | some y => rw [z] at q; have q : y = some (false, d) := q; rw [q]
    obtain ⟨w, a, b⟩ := E0.rd j d hv
    exact ⟨w, by rw [List.getD_eq_getElem?_getD, a]; rfl, ev.rx b⟩
theorem lc_loop {X : XS} {Y : XS} {G : Gt} {j : Nat} {ft : FT} {ff : FE} {gt : VM Bool} {gf : VM D} {env : Evn} {st0 : Sto} {ws : List W} (ht : VJ F p1 rQ ft gt) (hf : VJ F p2 rE ff gf) (h0 : Z0 F j)
    (hY : ∀ s s', Ev (Yf F X) s s' → ((p1 && p2) = true → Ev N0 s s') → Ev Y s s') (hG : ∀ st', Ev Y st0 st' → ∀ i, G st' i = some ws[i]?) :
    ∀ (ds : List D) (i : Nat) (acc : List W) (accv : List D) (st : Sto) (o : Option W) (v : VEnv) (r : VR (List D)) (v' : VEnv), i + ds.length = ws.length → Ev Y st0 st → RXs st X (ws.drop i) ds → RXs st X acc accv → EnvV F X st (env.set j o) v → vlcL j gt gf ds accv v = some (r, v') →
      ∃ us es st' o', r = .ok es ∧ lcLoop G j ft ff (env.set j none) (ds.length + 1) i acc st = some (.ok us, st') ∧ Ev (Yf F X) st st' ∧ ((p1 && p2) = true → Ev N0 st st') ∧ RXs st' X us es ∧ EnvV F X st' (env.set j o') v' ∧ VK F (v.set j none) (v'.set j none) ∧ ((p1 && p2) = true → v'.set j none = v.set j none)
  | [], i, acc, accv, st, o, v, r, v', hi, e0, rd, ra, E, h => by
    unfold vlcL at h
    split at h
    · rename_i hz
      cases h
      refine ⟨acc, accv, st, o, rfl, ?_, .refl, fun _ => .refl, ra, E, .refl, fun _ => rfl⟩
      unfold lcLoop
      rw [hG st e0 i, List.getElem?_eq_none (by simp at hi; omega)]
      have : szW acc.length = true := by rw [ra.length]; exact hz
      simp only [this, if_true]; rfl
    · cases h
  | d :: ds, i, acc, accv, st, o, v, r, v', hi, e0, rd, ra, E, h => by
    unfold vlcL at h
    have hlt : i < ws.length := by simp at hi; omega
    have dr : ws.drop i = ws[i] :: ws.drop (i + 1) := List.drop_eq_getElem_cons hlt
    rw [dr] at rd
    cases rd with
    | cons rw rrest =>
      have E1 : EnvV F X st ((env.set j none).set j (some ws[i])) (v.set j (some (false, d))) := by
        have := E.set (i := j) h0 rw
        rw [List.set_set] at this ⊢
        exact this
      have eset : (env.set j none).set j (some ws[i]) = env.set j (some ws[i]) := by rw [List.set_set]
      have vset : ∀ u : VEnv, VK F (v.set j (some (false, d))) u → VK F (v.set j none) (u.set j none) := fun u k => by
        refine ⟨by have := k.len; simpa using this, fun m e q => ?_, fun m e q => ?_⟩
        · by_cases z : j = m
          · subst z; cases (set_at q).1
          · rw [List.getElem?_set_ne z] at q ⊢
            have := k.rd m e q
            rw [List.getElem?_set_ne z] at this
            exact this
        · by_cases z : j = m
          · subst z; cases (set_at q).1
          · rw [List.getElem?_set_ne z] at q ⊢
            obtain ⟨e', q'⟩ := k.ow m e q
            rw [List.getElem?_set_ne z] at q'
            exact ⟨e', q'⟩
      have vsetE : ∀ u : VEnv, u = v.set j (some (false, d)) → u.set j none = v.set j none := fun u h => by rw [h, List.set_set]
      have st_G : G st i = some (some ws[i]) := by rw [hG st e0 i, List.getElem?_eq_getElem hlt]
      split at h
      · rename_i v1 q1
        obtain ⟨r1, s1, a1, b1, c1, d1, e1, f1⟩ := ht X st _ _ _ _ E1 q1
        cases r1 with
        | exc x => exact f1.elim
        | ok b1' =>
          cases (show b1' = true from f1)
          split at h
          · rename_i y v2 q2
            split at h
            · rename_i hz
              obtain ⟨r2, s2, a2, b2, c2, d2, e2, f2⟩ := hf X s1 _ _ _ _ c1 q2
              cases r2 with
              | exc x => exact f2.elim
              | ok yw =>
                have f2 : RX s2 X yw y := f2
                have ev12 := b1.trans b2
                have n12 : (p1 && p2) = true → Ev N0 st s2 := fun z => by rw [Bool.and_eq_true] at z; exact (e1 z.1).2.trans (e2 z.2).2
                rw [eset] at c2
                obtain ⟨us, es, s3, o3, g1, g2, g3, g4, g5, g6, g7, g8⟩ := lc_loop ht hf h0 hY hG ds (i + 1) (acc ++ [yw]) (accv ++ [y]) s2 (some ws[i]) v2 r v' (by simp at hi ⊢; omega) (e0.trans (hY _ _ ev12 n12)) (ev12.rxs rrest) ((ev12.rxs ra).append (.cons f2 .nil)) c2 h
                refine ⟨us, es, s3, o3, g1, ?_, ev12.trans g3, fun z => (n12 z).trans (g4 z), g5, g6, (vset v2 (d1.trans d2)).trans g7, fun z => ?_⟩
                · unfold lcLoop
                  rw [st_G]; simp only
                  rw [a1]; simp only
                  rw [a2]; simp only
                  have : szW acc.length = true := by rw [ra.length]; exact hz
                  simp only [this, if_true]
                  exact g2
                · rw [g8 z]
                  rw [Bool.and_eq_true] at z
                  exact vsetE v2 ((e2 z.2).1.trans (e1 z.1).1)
            · cases h
          · cases h
      · rename_i v1 q1
        obtain ⟨r1, s1, a1, b1, c1, d1, e1, f1⟩ := ht X st _ _ _ _ E1 q1
        cases r1 with
        | exc x => exact f1.elim
        | ok b1' =>
          cases (show b1' = false from f1)
          have n1 : (p1 && p2) = true → Ev N0 st s1 := fun z => by rw [Bool.and_eq_true] at z; exact (e1 z.1).2
          rw [eset] at c1
          obtain ⟨us, es, s3, o3, g1, g2, g3, g4, g5, g6, g7, g8⟩ := lc_loop ht hf h0 hY hG ds (i + 1) acc accv s1 (some ws[i]) v1 r v' (by simp at hi ⊢; omega) (e0.trans (hY _ _ b1 n1)) (b1.rxs rrest) (b1.rxs ra) c1 h
          refine ⟨us, es, s3, o3, g1, ?_, b1.trans g3, fun z => (n1 z).trans (g4 z), g5, g6, (vset v1 d1).trans g7, fun z => ?_⟩
          · unfold lcLoop
            rw [st_G]; simp only
            rw [a1]; simp only
            exact g2
          · rw [g8 z]
            rw [Bool.and_eq_true] at z
            exact vsetE v1 (e1 z.1).1
      · cases h
theorem vk_back {v v2 : VEnv} {j : Nat} (hv : ∀ d, v.getD j none ≠ some (true, d)) (k : VK F (v.set j none) (v2.set j none)) : VK F v (v2.set j (v.getD j none)) := by
  have l : v2.length = v.length := by have := k.len; simpa using this
  refine ⟨by simp [l], fun m e q => ?_, fun m e q => ?_⟩
  · by_cases z : j = m
    · subst z
      have q1 := (set_at q).1
      rw [List.getD_eq_getElem?_getD] at q1
      cases z : v[j]? with
      | none => rw [z] at q1; cases q1
      | some y => rw [z] at q1; have q1 : y = some (false, e) := q1; rw [q1]
    · rw [List.getElem?_set_ne z] at q
      have := k.rd m e (by rw [List.getElem?_set_ne z]; exact q)
      rw [List.getElem?_set_ne z] at this
      exact this
  · by_cases z : j = m
    · subst z; exact absurd (set_at q).1 (hv e)
    · rw [List.getElem?_set_ne z] at q
      obtain ⟨e', q'⟩ := k.ow m e (by rw [List.getElem?_set_ne z]; exact q)
      rw [List.getElem?_set_ne z] at q'
      exact ⟨e', q'⟩
theorem back_eq {v v2 : VEnv} {j : Nat} (h : v2.set j none = v.set j none) : v2.set j (v.getD j none) = v := by
  have l : v2.length = v.length := by have := congrArg List.length h; simpa using this
  apply List.ext_getElem?
  intro m
  by_cases z : j = m
  · subst z
    by_cases hl : j < v2.length
    · rw [List.getElem?_set_self hl, List.getD_eq_getElem?_getD, List.getElem?_eq_getElem (by omega : j < v.length)]; rfl
    · rw [List.getElem?_eq_none (by simpa using Nat.le_of_not_lt hl), List.getElem?_eq_none (by omega)]
  · rw [List.getElem?_set_ne z]
    have := congrArg (fun l => l[m]?) h
    simp only [List.getElem?_set_ne z] at this
    exact this
/-- behind the items -/
theorem lc_end {X : XS} {Y : XS} {G : Gt} {j : Nat} {ft : FT} {ff : FE} {gt : VM Bool} {gf : VM D} {env : Evn} {st : Sto} {v v' : VEnv} {ds : List D} {r : VR D} {L : Nat} (hL : L ≤ st.length) (ht : VJ F p1 rQ ft gt) (hf : VJ F p2 rE ff gf) (h0 : Z0 F j)
    (hY : ∀ s s', Ev (Yf F X) s s' → ((p1 && p2) = true → Ev N0 s s') → Ev Y s s') (hG : Src Y X G st ds) (E : EnvV F X st env v) (e : vLcI j gt gf ds v = some (r, v')) : Cn F (p1 && p2) rF X L st env v (bnd (lcLoop G j ft ff (env.set j none) (ds.length + 1) 0 [] st) addL) r v' := by
  obtain ⟨ws, rs, hG⟩ := hG
  unfold vLcI at e
  split at e
  · cases e
  · rename_i hv
    have hv : ∀ d, v.getD j none ≠ some (true, d) := fun d z => hv d z
    split at e
    · rename_i es v2 q
      cases e
      obtain ⟨us, es', s3, o3, g1, g2, g3, g4, g5, g6, g7, g8⟩ := lc_loop ht hf h0 hY hG ds 0 [] [] st none (v.set j none) _ v2 (by rw [rs.length]; simp) .refl rs .nil (E.drop h0) q
      cases g1
      rw [g2]
      have E2 := E.restore g3 h0 hv g6
      rw [List.set_set] at g7
      refine ⟨.ok (.ref s3.length), s3 ++ [.lst us], rfl, g3.trans (.app _), E2.app _, vk_back hv g7, fun z => ?_, rx_new (fun k z => (g6.x k z).1) g5, _, rfl, Nat.le_trans hL g3.1⟩
      refine ⟨back_eq ?_, (g4 z).trans (.app _)⟩
      have := g8 z
      rw [List.set_set] at this
      exact this
    · cases e
theorem vj_lc {fi : FE} {gi : VM D} {j : Nat} {ft : FT} {ff : FE} {gt : VM Bool} {gf : VM D} (hi : VJ F p rE fi gi) (ht : VJ F p1 rQ ft gt) (hf : VJ F p2 rE ff gf) (h0 : Z0 F j) : VJ F (p && (p1 && p2)) rF (fLc fi j ft ff) (vLc gi j gt gf) := fun X st env v r v' E e =>
  Cn.bind (fun r v' q => hi X st env v r v' E q) e fun a d s1 v1 ev1 E1 k1 ra e => by
    split at e
    · rename_i ds hd
      obtain ⟨h1, h2⟩ := src_of (F := F) ra hd
      rw [h2]
      exact lc_end ev1.1 ht hf h0 (fun s s' h _ => h) h1 E1 e
    · cases e
/-- over a list that may be written: the parts write nothing -/
theorem vj_lcO {fi : FE} {gi : VM D} {j : Nat} {ft : FT} {ff : FE} {gt : VM Bool} {gf : VM D} (hi : VJ F p rO fi gi) (ht : VJ F true rQ ft gt) (hf : VJ F true rE ff gf) (h0 : Z0 F j) : VJ F (p && (true && true)) rF (fLc fi j ft ff) (vLc gi j gt gf) := fun X st env v r v' E e =>
  Cn.bind (fun r v' q => hi X st env v r v' E q) e fun a d s1 v1 ev1 E1 k1 ra e => by
    split at e
    · rename_i ds hd
      obtain ⟨h1, h2⟩ := src_top ra hd
      rw [h2]
      exact lc_end ev1.1 ht hf h0 (fun s s' _ h => h rfl) h1 E1 e
    · cases e
def rngV1 (ds : List D) : Option (Int × Nat) := match ds with
  | [.int n] => if decide (-(2 ^ 62) ≤ n) && decide (n < 2 ^ 62) then some (0, n.toNat) else none
  | _ => none
def rngV2 (ds : List D) : Option (Int × Nat) := match ds with
  | [.int lo, .int hi] => if (decide (-(2 ^ 62) ≤ lo) && decide (lo < 2 ^ 62)) && (decide (-(2 ^ 62) ≤ hi) && decide (hi < 2 ^ 62)) then some (lo, (hi - lo).toNat) else none
  | _ => none
def RgV (rg : List W → Option (Int × Nat)) (rv : List D → Option (Int × Nat)) : Prop := ∀ {st : Sto} {X : XS} {ws : List W} {ds : List D} {o : Int × Nat}, RXs st X ws ds → rv ds = some o → rg ws = some o
theorem rgv1 : RgV rng1 rngV1 := fun {st X ws ds o} r h => by
  unfold rngV1 at h
  split at h
  · cases r with
    | cons a b => cases b; cases a; exact h
  · cases h
theorem rgv2 : RgV rng2 rngV2 := fun {st X ws ds o} r h => by
  unfold rngV2 at h
  split at h
  · cases r with
    | cons a b => cases b with | cons c d => cases d; cases a; cases c; exact h
  · cases h
def vLcR (rv : List D → Option (Int × Nat)) (ga : VM (List D)) (j : Nat) (t : VM Bool) (f : VM D) : VM D := fun v => vbnd (ga v) fun ds v => match rv ds with
  | some (lo, n) => vLcI j t f (rngD lo n) v
  | none => none
theorem vj_lcR {rg : List W → Option (Int × Nat)} {rv : List D → Option (Int × Nat)} (hr : RgV rg rv) {fa : FA} {ga : VM (List D)} {j : Nat} {ft : FT} {ff : FE} {gt : VM Bool} {gf : VM D} (hi : VJ F p rA fa ga) (ht : VJ F p1 rQ ft gt) (hf : VJ F p2 rE ff gf) (h0 : Z0 F j) : VJ F (p && (p1 && p2)) rF (fLcR rg fa j ft ff) (vLcR rv ga j gt gf) := fun X st env v r v' E e =>
  Cn.bind (fun r v' q => hi X st env v r v' E q) e fun as ds s1 v1 ev1 E1 k1 ra e => by
    split at e
    · rename_i lo n hd
      have h2 := hr ra hd
      rw [h2]
      simp only
      have hl : (rngD lo n).length = n := by simp [rngD]
      have := lc_end (G := gRng lo n) (ds := rngD lo n) ev1.1 ht hf h0 (fun s s' h _ => h) (src_rng lo n) E1 e
      rw [hl] at this
      exact this
    · cases e
end
end DV

namespace DV
open PySem DI
def XOk (st : Sto) (X : XS) : Prop := ∀ k, X k → k < st.length ∧ ∀ fs, st[k]? ≠ some (.xd fs)
def rFr (fr : Bool) : Re W D := fun L st X w d => RX st X w d ∧ (fr = true → ∃ n, w = .ref n ∧ L ≤ n)
theorem dn_Fr {fr : Bool} : Dn (rFr fr) := fun _ _ _ _ _ _ h ⟨a, b⟩ => ⟨a, fun z => let ⟨n, c, d⟩ := b z; ⟨n, c, Nat.le_trans h d⟩⟩
/-- a def that writes nothing that stood before -/
def VP (fr : Bool) (f : OC) (g : List D → Option (VR D)) : Prop := ∀ (X : XS) (st : Sto) (ws : List W) (ds : List D) (r : VR D), XOk st X → RXs st X ws ds → g ds = some r → ∃ r' st', f ws st = some (r', st') ∧ Ev N0 st st' ∧ RR (rFr fr) st.length st' X r' r
/-- a def that writes the list or dict which is its first argument -/
def VI (fr : Bool) (f : OC) (g : D → List D → Option (VR D × D)) : Prop := ∀ (X : XS) (st : Sto) (n : Nat) (o : Ob) (e : D) (ws : List W) (ds : List D) (r : VR D) (d' : D), XOk st X → X n → st[n]? = some o → ObX st X o e → RXs st X ws ds → g e ds = some (r, d') →
  ∃ r' st' o', f (.ref n :: ws) st = some (r', st') ∧ Ev (fun k => k = n) st st' ∧ st'[n]? = some o' ∧ ObX st' X o' d' ∧ RR (rFr fr) st.length st' X r' r
theorem EnvV.xok {F : Fr} {X : XS} {st : Sto} {env : Evn} {v : VEnv} (E : EnvV F X st env v) : XOk st X := E.x
theorem EnvV.nn {F : Fr} {X : XS} {st st' : Sto} {env : Evn} {v : VEnv} (E : EnvV F X st env v) (ev : Ev N0 st st') : EnvV F X st' env v := E.n0 ev.1 fun k o e => ev.2 k o e id
theorem vk_set {F : Fr} {v : VEnv} {i : Nat} {d e : D} (h : v[i]? = some (some (true, d))) : VK F v (v.set i (some (true, e))) := by
  refine ⟨by simp, fun m x q => ?_, fun m x q => ?_⟩
  · by_cases z : i = m
    · subst z; cases (set_at q).1
    · rw [List.getElem?_set_ne z] at q; exact q
  · by_cases z : i = m
    · subst z; exact ⟨d, h⟩
    · rw [List.getElem?_set_ne z] at q; exact ⟨x, q⟩
section
variable {F : Fr} {p p1 p2 p3 : Bool}
/-! ### calls -/
def vCall (g : List D → Option (VR D)) (gs : VM (List D)) : VM D := fun v => vbnd (gs v) fun ds v => (g ds).map fun r => (r, v)
theorem vj_callFr {fr : Bool} {f : OC} {g : List D → Option (VR D)} {fs : FA} {gs : VM (List D)} (hf : VP fr f g) (ha : VJ F p rA fs gs) : VJ F (p && true) (rFr fr) (fCB f fs) (vCall g gs) := fun X st env v r v' E e =>
  Cn.bind (fun r v' q => ha X st env v r v' E q) e fun as ds s1 v1 ev1 E1 k1 ra e => by
    cases q : g ds with
    | none => rw [q] at e; cases e
    | some r0 =>
      rw [q] at e; cases e
      obtain ⟨r', s2, h1, h2, h3⟩ := hf X s1 as ds r E1.xok ra q
      refine Cn.down dn_Fr ev1.1 ?_
      exact ⟨r', s2, h1, h2.n0 _, E1.nn h2, .refl, fun _ => ⟨rfl, h2⟩, h3⟩
theorem vj_call {fr : Bool} {f : OC} {g : List D → Option (VR D)} {fs : FA} {gs : VM (List D)} (hf : VP fr f g) (ha : VJ F p rA fs gs) : VJ F (p && true) rE (fCB f fs) (vCall g gs) := (vj_callFr hf ha).imp fun _ _ _ _ _ h => h.1
theorem vj_callF {f : OC} {g : List D → Option (VR D)} {fs : FA} {gs : VM (List D)} (hf : VP true f g) (ha : VJ F p rA fs gs) : VJ F (p && true) rF (fCB f fs) (vCall g gs) := (vj_callFr hf ha).imp fun _ _ _ _ _ h => ⟨h.1, h.2 rfl⟩
/-! arguments that may be lists which are written here -/
inductive Tops (st : Sto) (X : XS) : List W → List D → Prop
  | nil : Tops st X [] []
  | cons {w : W} {d : D} {ws : List W} {ds : List D} : Top st X w d → Tops st X ws ds → Tops st X (w :: ws) (d :: ds)
theorem Tops.n0 {X : XS} {st st' : Sto} (ev : Ev N0 st st') : ∀ {ws : List W} {ds : List D}, Tops st X ws ds → Tops st' X ws ds
  | _, _, .nil => .nil
  | _, _, .cons a b => .cons (Top.n0 a ev) (Tops.n0 ev b)
theorem Tops.rxs {X : XS} {st : Sto} : ∀ {ws : List W} {ds : List D}, Tops st X ws ds → RXs st N0 ws ds
  | _, _, .nil => .nil
  | _, _, .cons a b => .cons (let ⟨_, r⟩ := Top.rx a; r.anti fun _ z => z.elim) (Tops.rxs b)
def rT : Re (List W) (List D) := fun _ st X ws ds => Tops st X ws ds
theorem dn_T : Dn rT := fun _ _ _ _ _ _ _ h => h
theorem vj_nilT : VJ F true rT fNil vNil := fun X st env v r v' E e => by cases e; exact .ok0 E .nil
theorem vj_consT {f : FE} {fs : FA} {g : VM D} {gs : VM (List D)} (h : VJ F p rO f g) (hs : VJ F true rT fs gs) : VJ F (p && (true && true)) rT (fCons f fs) (vCons g gs) := fun X st env v r v' E e =>
  Cn.bind (fun r v' q => h X st env v r v' E q) e fun a d s1 v1 ev1 E1 k1 ra e => by
    have key : ∀ r v', gs v1 = some (r, v') → Cn F true (fun L st' X b e => Tops st' X b e ∧ Ev N0 s1 st') X st.length s1 env v1 (fs env s1) r v' := fun r v' q => by
      obtain ⟨r', s2, h1, h2, h3, h4, h5, h6⟩ := hs X s1 env v1 r v' E1 q
      have n0 := (h5 rfl).2
      refine ⟨r', s2, h1, h2, h3, h4, h5, ?_⟩
      cases r' <;> cases r <;> first | exact h6 | exact ⟨h6, n0⟩
    exact Cn.bind key e fun as ds s2 v2 ev2 E2 k2 rs e => by
      cases e
      exact .ok0 E2 (.cons (Top.n0 ra rs.2) rs.1)
/-- flat, or a list of flat things -/
def flat1 (fr : Bool) : VR D → Bool
  | .ok (.list ds) => fr && flatAll ds
  | .ok d => flat d
  | .exc _ fs => flatAll (fs.map (·.2))
theorem flat1_ok {fr : Bool} {X : XS} {st st' : Sto} {r' : R W} {r : VR D} (hX : XOk st X) (ev : Ev N0 st st') (h : RR (rFr fr) st.length st' N0 r' r) (hf : flat1 fr r = true) : RR (rFr fr) st.length st' X r' r := by
  cases r with
  | exc c fs =>
    cases r' with
    | ok a => exact h.elim
    | exc x =>
      obtain ⟨h1, h2⟩ := h
      refine ⟨h1, ?_⟩
      cases hd : x.dict with
      | none => rw [hd] at h2; exact h2
      | some n =>
        rw [hd] at h2
        obtain ⟨ne, ws, e1, e2, e3, e4⟩ := h2
        refine ⟨ne, ws, e1, fun z => ?_, e3, e4.flat hf⟩
        obtain ⟨a, b⟩ := hX n z
        have e := List.getElem?_eq_getElem a
        exact b ws (by rw [e, ← e1, ev.2 n _ e id])
  | ok d =>
    cases r' with
    | exc x => exact h.elim
    | ok w =>
      obtain ⟨h1, h2⟩ := h
      refine ⟨?_, h2⟩
      cases d with
      | list ds =>
        have hf : (fr && flatAll ds) = true := hf
        rw [Bool.and_eq_true] at hf
        obtain ⟨n, rfl, hn⟩ := h2 hf.1
        cases h1 with
        | ref e _ rs => exact .ref e (fun z => Nat.lt_irrefl _ (Nat.lt_of_lt_of_le (hX _ z).1 hn)) (rs.flat hf.2)
      | none => exact h1.flat rfl
      | bool b => exact h1.flat rfl
      | int i => exact h1.flat rfl
      | str x => exact h1.flat rfl
      | tuple ds => exact h1.flat hf
      | dict kvs => cases hf
def vCallO (fr : Bool) (g : List D → Option (VR D)) (gs : VM (List D)) : VM D := fun v => vbnd (gs v) fun ds v => match g ds with
  | some r => if flat1 fr r then some (r, v) else none
  | none => none
theorem vj_callOFr {fr : Bool} {f : OC} {g : List D → Option (VR D)} {fs : FA} {gs : VM (List D)} (hf : VP fr f g) (ha : VJ F p rT fs gs) : VJ F (p && true) (rFr fr) (fCB f fs) (vCallO fr g gs) := fun X st env v r v' E e =>
  Cn.bind (fun r v' q => ha X st env v r v' E q) e fun as ds s1 v1 ev1 E1 k1 ra e => by
    split at e
    · rename_i r0 q
      split at e
      · rename_i hz
        cases e
        obtain ⟨r', s2, h1, h2, h3⟩ := hf N0 s1 as ds r (fun k z => z.elim) (Tops.rxs ra) q
        refine Cn.down dn_Fr ev1.1 ?_
        exact ⟨r', s2, h1, h2.n0 _, E1.nn h2, .refl, fun _ => ⟨rfl, h2⟩, flat1_ok E1.xok h2 h3 hz⟩
      · cases e
    · cases e
theorem vj_callO {fr : Bool} {f : OC} {g : List D → Option (VR D)} {fs : FA} {gs : VM (List D)} (hf : VP fr f g) (ha : VJ F p rT fs gs) : VJ F (p && true) rE (fCB f fs) (vCallO fr g gs) := (vj_callOFr hf ha).imp fun _ _ _ _ _ h => h.1
theorem vj_callOF {f : OC} {g : List D → Option (VR D)} {fs : FA} {gs : VM (List D)} (hf : VP true f g) (ha : VJ F p rT fs gs) : VJ F (p && true) rF (fCB f fs) (vCallO true g gs) := (vj_callOFr hf ha).imp fun _ _ _ _ _ h => ⟨h.1, h.2 rfl⟩
/-! a call that writes the list of variable i -/
def vCallI (g : D → List D → Option (VR D × D)) (i : Nat) (gs : VM (List D)) : VM D := fun v => match gs v with
  | some (.ok ds, v) => match v[i]? with
    | some (some (true, d)) => match g d ds with
      | some (r, d') => some (r, v.set i (some (true, d')))
      | none => none
    | _ => none
  | _ => none
theorem vj_callIFr {fr : Bool} {f : OC} {g : D → List D → Option (VR D × D)} {i : Nat} {fs : FA} {gs : VM (List D)} (hf : VI fr f g) (ha : VJ F p rA fs gs) : VJ F false (rFr fr) (fCB f (fCons (fVar i) fs)) (vCallI g i gs) := fun X st env v r v' E e => by
  unfold vCallI at e
  split at e
  · rename_i ds v1 q
    split at e
    · rename_i d hd
      split at e
      · rename_i r0 d' hg
        cases e
        obtain ⟨r', s1, h1, h2, h3, h4, h5, h6⟩ := ha X st env v _ _ E q
        obtain ⟨d0, hd0⟩ := h4.ow i d hd
        obtain ⟨n, he, _⟩ := E.own i d0 hd0
        have hv : fVar i env st = some (.ok (.ref n), st) := by unfold fVar; rw [he]; rfl
        have hstep : fCB f (fCons (fVar i) fs) env st = bnd (fs env st) fun ws st => f (.ref n :: ws) st := by
          unfold fCB fCons
          rw [hv]
          show bnd (bnd (fs env st) _) _ = _
          cases fs env st with
          | none => rfl
          | some o => obtain ⟨r, s⟩ := o; cases r <;> rfl
        cases r' with
        | exc x => exact h6.elim
        | ok ws =>
          obtain ⟨m, a, b, ⟨ob, o1, o3⟩, c⟩ := h3.own i d hd
          rw [he] at a; cases a
          obtain ⟨r2, s2, ob', k1, k2, k4, k5, k6⟩ := hf X s1 _ ob d ws ds r d' h3.xok b o1 o3 h6 hg
          obtain ⟨E2, ev2⟩ := h3.upd hd he k2 k4 k5
          refine ⟨r2, s2, ?_, h2.trans ev2, E2, h4.trans (vk_set hd), fun z => (by cases z), ?_⟩
          · rw [hstep, h1]; exact k1
          · cases r2 <;> cases r <;> first | exact k6 | exact dn_Fr _ _ _ _ _ _ h2.1 k6
      · cases e
    · cases e
  · cases e
theorem vj_callI {fr : Bool} {f : OC} {g : D → List D → Option (VR D × D)} {i : Nat} {fs : FA} {gs : VM (List D)} (hf : VI fr f g) (ha : VJ F p rA fs gs) : VJ F false rE (fCB f (fCons (fVar i) fs)) (vCallI g i gs) := (vj_callIFr hf ha).imp fun _ _ _ _ _ h => h.1
theorem vj_callIF {f : OC} {g : D → List D → Option (VR D × D)} {i : Nat} {fs : FA} {gs : VM (List D)} (hf : VI true f g) (ha : VJ F p rA fs gs) : VJ F false rF (fCB f (fCons (fVar i) fs)) (vCallI g i gs) := (vj_callIFr hf ha).imp fun _ _ _ _ _ h => ⟨h.1, h.2 rfl⟩
/-! ### xs.append(e), xs.insert(i, e) -/
def vApp (i : Nat) (ge : VM D) : VM D := fun v => match v[i]? with
  | some (some (true, .list _)) => vbnd (ge v) fun d v => match v[i]? with
    | some (some (true, .list ds)) => if szW (ds.length + 1) then some (.ok .none, v.set i (some (true, .list (ds ++ [d])))) else none
    | _ => none
  | _ => none
theorem own_isL {X : XS} {st : Sto} {env : Evn} {v : VEnv} {i : Nat} {ds : List D} (E : EnvV F X st env v) (h : v[i]? = some (some (true, .list ds))) : ∃ n ws, env[i]? = some (some (.ref n)) ∧ st[n]? = some (.lst ws) ∧ RXs st X ws ds ∧ isL (.ref n) st = true := by
  obtain ⟨n, a, b, ow, c⟩ := E.own i _ h
  obtain ⟨ws, o1, o3⟩ := ow.list
  refine ⟨n, ws, a, o1, o3, ?_⟩
  show (match st[n]? with | some (.lst _) => true | _ => false) = true
  rw [o1]
theorem vj_app {i : Nat} {fe : FE} {ge : VM D} (he : VJ F p rE fe ge) : VJ F false rE (fApp (fVar i) fe) (vApp i ge) := fun X st env v r v' E e => by
  unfold vApp at e
  split at e
  · rename_i ds0 hd0
    obtain ⟨n, ws0, hn, o1, o2, hl⟩ := own_isL E hd0
    have hv : fVar i env st = some (.ok (.ref n), st) := by unfold fVar; rw [hn]; rfl
    have hstep : fApp (fVar i) fe env st = bnd (fe env st) fun w st => (appL (.ref n) w st).map fun st => (.ok .non, st) := by
      unfold fApp
      rw [hv]
      show (if isL (.ref n) st then _ else _) = _
      rw [if_pos hl]
    rw [hstep]
    have go := Cn.bind (p := p) (p2 := false) (r1 := rE) (r2 := rE) (kf := fun w st => (appL (.ref n) w st).map fun st => (.ok .non, st)) (fun r v' q => he X st env v r v' E q) e fun a d s1 v1 ev1 E1 k1 ra e => by
      split at e
      · rename_i ds hd
        split at e
        · rename_i hz
          cases e
          obtain ⟨m, ws, hm, q1, q2, _⟩ := own_isL E1 hd
          rw [hn] at hm; cases hm
          have e1 : appL (.ref n) a s1 = some (s1.set n (.lst (ws ++ [a]))) := by
            show (match s1[n]? with | some (.lst ws) => if szW (ws.length + 1) then some (s1.set n (.lst (ws ++ [a]))) else none | _ => none) = _
            rw [q1]; simp only; rw [q2.length, if_pos hz]
          obtain ⟨E2, ev2⟩ := E1.write hd hn (q2.append (.cons ra .nil))
          exact ⟨.ok .non, s1.set n (.lst (ws ++ [a])), by rw [e1]; rfl, ev2, E2, vk_set hd, fun z => (by cases z), .non⟩
        · cases e
      · cases e
    obtain ⟨r', s1, h1, h2, h3, h4, h5, h6⟩ := go
    exact ⟨r', s1, h1, h2, h3, h4, fun z => (by cases z), h6⟩
  · cases e
def vIns (i : Nat) (gi ge : VM D) : VM D := fun v => match v[i]? with
  | some (some (true, .list _)) => vbnd (gi v) fun k v => vbnd (ge v) fun d v => match k, v[i]? with
    | .int k, some (some (true, .list ds)) => if szW (ds.length + 1) && (decide (0 ≤ k) && decide (k < 2 ^ 63)) then some (.ok .none, v.set i (some (true, .list (ds.take k.toNat ++ [d] ++ ds.drop k.toNat)))) else none
    | _, _ => none
  | _ => none
theorem vj_ins {i : Nat} {fi fe : FE} {gi ge : VM D} (hk : VJ F p1 rE fi gi) (he : VJ F p2 rE fe ge) : VJ F false rE (fIns (fVar i) fi fe) (vIns i gi ge) := fun X st env v r v' E e => by
  unfold vIns at e
  split at e
  · rename_i ds0 hd0
    obtain ⟨n, ws0, hn, o1, o2, hl⟩ := own_isL E hd0
    have hv : fVar i env st = some (.ok (.ref n), st) := by unfold fVar; rw [hn]; rfl
    have hstep : fIns (fVar i) fi fe env st = bnd (fi env st) fun k st => bnd (fe env st) fun w st => (insL (.ref n) k w st).map fun st => (.ok .non, st) := by
      unfold fIns
      rw [hv]
      show (if isL (.ref n) st then _ else _) = _
      rw [if_pos hl]
    rw [hstep]
    have go := Cn.bind (p := p1) (p2 := p2 && false) (r1 := rE) (r2 := rE) (kf := fun k st => bnd (fe env st) fun w st => (insL (.ref n) k w st).map fun st => (.ok .non, st)) (fun r v' q => hk X st env v r v' E q) e fun kw kd s1 v1 ev1 E1 k1 rk e =>
      Cn.bind (p := p2) (p2 := false) (r1 := rE) (r2 := rE) (kf := fun w st => (insL (.ref n) kw w st).map fun st => (.ok .non, st)) (fun r v' q => (he X s1 env v1 r v' E1 q).down dn_E ev1.1) e fun a d s2 v2 ev2 E2 k2 ra e => by
        cases kd with
        | int k =>
         cases rk
         have e : (match v2[i]? with | some (some (true, .list ds)) => if szW (ds.length + 1) && (decide (0 ≤ k) && decide (k < 2 ^ 63)) then some (VR.ok PyData.none, v2.set i (some (true, .list (ds.take k.toNat ++ [d] ++ ds.drop k.toNat)))) else none | _ => none) = some (r, v') := by
           cases q : v2[i]? with
           | none => rw [q] at e; exact e
           | some o =>
             rw [q] at e
             cases o with
             | none => exact e
             | some y => obtain ⟨y1, y2⟩ := y; cases y1 <;> cases y2 <;> exact e
         split at e
         · rename_i ds hd
           split at e
           · rename_i hz
             cases e
             obtain ⟨m, ws, hm, q1, q2, _⟩ := own_isL E2 hd
             rw [hn] at hm; cases hm
             have e1 : insL (.ref n) (.int k) a s2 = some (s2.set n (.lst (ws.take k.toNat ++ [a] ++ ws.drop k.toNat))) := by
               show (match s2[n]? with | some (.lst ws) => if szW (ws.length + 1) && (decide (0 ≤ k) && decide (k < 2 ^ 63)) then some (s2.set n (.lst (ws.take k.toNat ++ [a] ++ ws.drop k.toNat))) else none | _ => none) = _
               rw [q1]; simp only; rw [q2.length, if_pos hz]
             obtain ⟨E3, ev3⟩ := E2.write hd hn (((q2.take _).append (.cons ra .nil)).append (q2.drop _))
             exact ⟨.ok .non, _, by rw [e1]; rfl, ev3, E3, vk_set hd, fun z => (by cases z), .non⟩
           · cases e
         · cases e
        | _ => cases e
    obtain ⟨r', s1, h1, h2, h3, h4, h5, h6⟩ := go
    exact ⟨r', s1, h1, h2, h3, h4, fun z => (by cases z), h6⟩
  · cases e
end
end DV

namespace DV
open PySem DI
inductive VFl where | nx | rt (d : D) | bk | ct | exc (c : Str) (fs : List (Str × D))
abbrev VSM := VEnv → Option (VFl × VEnv)
theorem XX.anti {st : Sto} {X X' : XS} {x : Xc} {c : Str} {fs : List (Str × D)} (h : ∀ k, X' k → X k) (q : XX st X x c fs) : XX st X' x c fs := by
  obtain ⟨h1, h2⟩ := q
  refine ⟨h1, ?_⟩
  cases hd : x.dict with
  | none => rw [hd] at h2; exact h2
  | some n =>
    rw [hd] at h2
    obtain ⟨ne, ws, e1, e2, e3, e4⟩ := h2
    exact ⟨ne, ws, e1, fun z => e2 (h n z), e3, e4.anti h⟩
def FlR (F : Fr) (st : Sto) : Fl → VFl → Prop
  | .nx, .nx => True
  | .bk, .bk => True
  | .ct, .ct => True
  | .rt w, .rt d => RX st F.X0 w d ∧ (F.fr = true → ∃ n, w = .ref n ∧ F.L0 ≤ n)
  | .exc x, .exc c fs => XX st F.X0 x c fs
  | _, _ => False
def SCn (F : Fr) (X : XS) (st : Sto) (o : OutS) (fl : VFl) (v' : VEnv) : Prop :=
  ∃ fl' env' st' X', o = some (fl', env', st') ∧ Ev (Yf F X) st st' ∧ (∀ k, X' k → X k ∨ st.length ≤ k) ∧ EnvV F X' st' env' v' ∧ FlR F st' fl' fl
def VSj (F : Fr) (f : FS) (g : VSM) : Prop := ∀ X st env v fl v', EnvV F X st env v → g v = some (fl, v') → SCn F X st (f env st) fl v'
def vbS {α : Type} (o : VO α) (k : α → VSM) : Option (VFl × VEnv) := match o with
  | some (.ok a, v) => k a v
  | some (.exc c fs, v) => some (.exc c fs, v)
  | none => none
section
variable {F : Fr} {p p1 p2 p3 : Bool} {α β : Type} {r1 : Re α β}
theorem ev_comp {X X1 : XS} {st s1 s2 : Sto} (a : Ev (Yf F X) st s1) (g : ∀ k, X1 k → X k ∨ st.length ≤ k) (b : Ev (Yf F X1) s1 s2) : Ev (Yf F X) st s2 :=
  ⟨Nat.le_trans a.1 b.1, fun k o e n => b.2 k o (a.2 k o e n) fun z => n ⟨(g k z.1).elim id fun q => absurd (List.getElem?_eq_some_iff.mp e).1 (Nat.not_lt.mpr q), z.2⟩⟩
theorem gr_comp {X X1 X2 : XS} {st s1 : Sto} (h : st.length ≤ s1.length) (g : ∀ k, X1 k → X k ∨ st.length ≤ k) (g2 : ∀ k, X2 k → X1 k ∨ s1.length ≤ k) : ∀ k, X2 k → X k ∨ st.length ≤ k := fun k z => (g2 k z).elim (g k) fun q => .inr (Nat.le_trans h q)
theorem SCn.after {X X1 : XS} {st s1 : Sto} {o : OutS} {fl : VFl} {v' : VEnv} (a : Ev (Yf F X) st s1) (g : ∀ k, X1 k → X k ∨ st.length ≤ k) (h : SCn F X1 s1 o fl v') : SCn F X st o fl v' := by
  obtain ⟨fl', env', st', X', h1, h2, h3, h4, h5⟩ := h
  exact ⟨fl', env', st', X', h1, ev_comp a g h2, gr_comp a.1 g h3, h4, h5⟩
theorem SCn.bind {X : XS} {L : Nat} {st : Sto} {env : Evn} {v : VEnv} {o : Out α} {ov : VO β} {kf : α → Sto → OutS} {kg : β → VSM} {fl : VFl} {v' : VEnv}
    (h : ∀ r v', ov = some (r, v') → Cn F p r1 X L st env v o r v') (e : vbS ov kg = some (fl, v'))
    (hk : ∀ a b s1 v1, Ev (Yf F X) st s1 → EnvV F X s1 env v1 → VK F v v1 → (p = true → v1 = v ∧ Ev N0 st s1) → r1 L s1 X a b → kg b v1 = some (fl, v') → SCn F X st (kf a s1) fl v') :
    SCn F X st (bS o env kf) fl v' := by
  cases q : ov with
  | none => rw [q] at e; cases e
  | some x =>
    obtain ⟨rb, v1⟩ := x
    rw [q] at e
    obtain ⟨r', s1, ho, ev, E1, k1, pu, rr⟩ := h rb v1 q
    rw [ho]
    cases rb with
    | exc c fs =>
      cases e
      cases r' with
      | ok a => exact rr.elim
      | exc x => exact ⟨.exc x, env, s1, X, rfl, ev, fun k z => .inl z, E1, XX.anti (fun k z => (E1.b k z).1) rr⟩
    | ok b =>
      cases r' with
      | exc x => exact rr.elim
      | ok a => exact hk a b s1 v1 ev E1 k1 pu rr e
/-! ### sequences, sets -/
def vNext : VSM := fun v => some (.nx, v)
theorem vs_next : VSj F fNext vNext := fun X st env v fl v' E e => by cases e; exact ⟨.nx, env, st, X, rfl, .refl, fun k z => .inl z, E, trivial⟩
def vSeq (f g : VSM) : VSM := fun v => match f v with
  | some (.nx, v1) => g v1
  | o => o
theorem vs_seq {f f2 : FS} {g g2 : VSM} (h : VSj F f g) (h2 : VSj F f2 g2) : VSj F (fSeq f f2) (vSeq g g2) := fun X st env v fl v' E e => by
  unfold vSeq at e
  split at e
  · rename_i v1 q
    obtain ⟨fl', env1, s1, X1, a, b, c, d, g⟩ := h X st env v _ _ E q
    cases fl' with
    | nx =>
      have := (h2 X1 s1 env1 v1 fl v' d e).after b c
      unfold fSeq
      rw [a]
      exact this
    | _ => exact g.elim
  · rename_i nx
    obtain ⟨fl', env1, s1, X1, a, b, c, d, g⟩ := h X st env v _ _ E e
    refine ⟨fl', env1, s1, X1, ?_, b, c, d, g⟩
    unfold fSeq
    rw [a]
    cases fl' with
    | nx =>
      cases fl with
      | nx => exact absurd e (nx v')
      | _ => exact g.elim
    | _ => rfl
def vSet (i : Nat) (g : VM D) : VSM := fun v => vbS (g v) fun d v => some (.nx, v.set i (some (false, d)))
theorem vs_set {i : Nat} {f : FE} {g : VM D} (h0 : Z0 F i) (h : VJ F p rE f g) : VSj F (fSet i f) (vSet i g) := fun X st env v fl v' E e =>
  SCn.bind (fun r v' q => h X st env v r v' E q) e fun a d s1 v1 ev1 E1 k1 pu ra e => by
    cases e
    exact ⟨.nx, _, s1, X, rfl, ev1, fun k z => .inl z, E1.set h0 ra, trivial⟩
def vDrop (g : VM D) : VSM := fun v => vbS (g v) fun _ v => some (.nx, v)
theorem vs_drop {f : FE} {g : VM D} (h : VJ F p rE f g) : VSj F (fDrop f) (vDrop g) := fun X st env v fl v' E e =>
  SCn.bind (fun r v' q => h X st env v r v' E q) e fun a d s1 v1 ev1 E1 k1 pu ra e => by
    cases e
    exact ⟨.nx, _, s1, X, rfl, ev1, fun k z => .inl z, E1, trivial⟩
def vRet (g : VM D) : VSM := fun v => vbS (g v) fun d v => some (.rt d, v)
theorem vs_ret {f : FE} {g : VM D} (hf : F.fr = false) (h : VJ F p rE f g) : VSj F (fRet f) (vRet g) := fun X st env v fl v' E e =>
  SCn.bind (fun r v' q => h X st env v r v' E q) e fun a d s1 v1 ev1 E1 k1 pu ra e => by
    cases e
    exact ⟨.rt a, _, s1, X, rfl, ev1, fun k z => .inl z, E1, RX.anti (fun k z => (E1.b k z).1) ra, fun z => by rw [hf] at z; cases z⟩
theorem vs_retF {f : FE} {g : VM D} (h : VJ F p rF f g) : VSj F (fRet f) (vRet g) := fun X st env v fl v' E e =>
  SCn.bind (fun r v' q => h X st env v r v' E q) e fun a d s1 v1 ev1 E1 k1 pu ra e => by
    cases e
    obtain ⟨r1, n, r2, r3⟩ := ra
    exact ⟨.rt a, _, s1, X, rfl, ev1, fun k z => .inl z, E1, r1.anti (fun k z => (E1.b k z).1), fun z => ⟨n, r2, Nat.le_trans E.l0 r3⟩⟩
def vRetO (i : Nat) : VSM := fun v => match v[i]? with
  | some (some (true, d)) => some (.rt d, v)
  | _ => none
theorem vs_retOwn {i : Nat} (h0 : i = 0 → F.io = none) : VSj F (fRet (fVar i)) (vRetO i) := fun X st env v fl v' E e => by
  unfold vRetO at e
  split at e
  · rename_i d hd
    cases e
    obtain ⟨n, a, b, c, g⟩ := E.own i d hd
    have hv : fVar i env st = some (.ok (.ref n), st) := by unfold fVar; rw [a]; rfl
    have hL : F.L0 ≤ n := by
      split at g
      · rename_i z; rw [h0 z.1] at g; cases g
      · exact g
    refine ⟨.rt (.ref n), env, st, X, ?_, .refl, fun k z => .inl z, E, c.rx.anti fun k z => ⟨(E.b k z).1, fun q => ?_⟩, fun _ => ⟨n, rfl, hL⟩⟩
    · unfold fRet; rw [hv]; rfl
    · have := (E.b k z).2; omega
  · cases e
def vIfS (c : VM Bool) (f g : VSM) : VSM := fun v => vbS (c v) fun b v => if b then f v else g v
theorem vs_if {c : FT} {f f2 : FS} {gc : VM Bool} {g g2 : VSM} (hc : VJ F p rQ c gc) (h : VSj F f g) (h2 : VSj F f2 g2) : VSj F (fIfS c f f2) (vIfS gc g g2) := fun X st env v fl v' E e =>
  SCn.bind (fun r v' q => hc X st env v r v' E q) e fun a d s1 v1 ev1 E1 k1 pu ra e => by
    cases (show a = d from ra)
    cases a with
    | true => exact (h X s1 env v1 fl v' E1 e).after ev1 fun k z => .inl z
    | false => exact (h2 X s1 env v1 fl v' E1 e).after ev1 fun k z => .inl z
/-! ### variables whose lists are written -/
def isLst : D → Bool
  | .list _ => true
  | .dict _ => true
  | _ => false
def fl1 : D → Bool
  | .list ds => flatAll ds
  | .dict ps => flatAll (ps.map (·.1)) && flatAll (ps.map (·.2))
  | _ => true
theorem ObX.flat {st st' : Sto} {X X' : XS} {o : Ob} {d : D} (r : ObX st X o d) (h : fl1 d = true) : ObX st' X' o d := by
  unfold ObX at r ⊢
  split at r
  · exact RXs.flat r h
  · trivial
  · rename_i p ps
    have h : (flatAll ((p :: ps).map (·.1)) && flatAll ((p :: ps).map (·.2))) = true := h
    rw [Bool.and_eq_true] at h
    exact ⟨RXs.flat r.1 h.1, RXs.flat r.2 h.2⟩
  · exact r.elim
def vSetO (i : Nat) (g : VM D) : VSM := fun v => vbS (g v) fun d v => if isLst d then some (.nx, v.set i (some (true, d))) else none
theorem vs_setOwn {i : Nat} {f : FE} {g : VM D} (h0 : Z0 F i) (h : VJ F true rF f g) : VSj F (fSet i f) (vSetO i g) := fun X st env v fl v' E e =>
  SCn.bind (fun r v' q => h X st env v r v' E q) e fun a d s1 v1 ev1 E1 k1 pu ra e => by
    split at e
    · rename_i hz
      cases e
      obtain ⟨r1, n, rfl, hn⟩ := ra
      obtain ⟨rfl, n0⟩ := pu rfl
      have up : ∀ k o, st[k]? = some o → ¬ X k → s1[k]? = some o ∧ ¬ (X k ∨ k = n) := fun k o e nx => ⟨n0.2 k o e id, fun z => z.elim nx fun q => by
        have := (List.getElem?_eq_some_iff.mp e).1
        omega⟩
      refine ⟨.nx, _, s1, fun k => X k ∨ k = n, rfl, ev1, fun k z => z.elim .inl fun q => .inr (q ▸ hn), E1.setOwn h0 r1 (Nat.le_trans E.l0 hn) (fun j u e qj q1 q2 => ?_) (fun j m e qj q1 q2 => ?_), trivial⟩
      · obtain ⟨w', b1, b2⟩ := E.rd j e q1
        rw [q2] at b1; cases b1
        exact b2.to up
      · obtain ⟨m', b1, b2, ⟨ob, b3, b5⟩, _⟩ := E.own j e q1
        rw [q2] at b1; cases b1
        refine ⟨fun z => ?_, ob, n0.2 _ _ b3 id, b5.to up⟩
        have := (E.x _ b2).1
        omega
    · cases e
def ownFlat (i : Nat) (v : VEnv) : Bool := (List.range v.length).all fun j => (j == i) || (match v[j]? with
  | some (some (true, d)) => fl1 d
  | _ => true)
/-- the same, where lists may have been written meanwhile: they hold flat things -/
def vSetOF (i : Nat) (g : VM D) : VSM := fun v => vbS (g v) fun d v => if isLst d && ownFlat i v then some (.nx, v.set i (some (true, d))) else none
theorem vs_setOwnF {i : Nat} {f : FE} {g : VM D} (h0 : Z0 F i) (h : VJ F p rF f g) : VSj F (fSet i f) (vSetOF i g) := fun X st env v fl v' E e =>
  SCn.bind (fun r v' q => h X st env v r v' E q) e fun a d s1 v1 ev1 E1 k1 pu ra e => by
    split at e
    · rename_i hz
      rw [Bool.and_eq_true] at hz
      cases e
      obtain ⟨r1, n, rfl, hn⟩ := ra
      have up : ∀ k o, st[k]? = some o → ¬ X k → s1[k]? = some o ∧ ¬ (X k ∨ k = n) := fun k o e nx => ⟨ev1.2 k o e fun z => nx z.1, fun z => z.elim nx fun q => by
        have := (List.getElem?_eq_some_iff.mp e).1
        omega⟩
      refine ⟨.nx, _, s1, fun k => X k ∨ k = n, rfl, ev1, fun k z => z.elim .inl fun q => .inr (q ▸ hn), E1.setOwn h0 r1 (Nat.le_trans E.l0 hn) (fun j u e qj q1 q2 => ?_) (fun j m e qj q1 q2 => ?_), trivial⟩
      · obtain ⟨w', b1, b2⟩ := E.rd j e (k1.rd j e q1)
        rw [q2] at b1; cases b1
        exact b2.to up
      · obtain ⟨e0, q0⟩ := k1.ow j e q1
        obtain ⟨m0, c1, c2, _⟩ := E.own j e0 q0
        rw [q2] at c1; cases c1
        obtain ⟨m', b1, b2, ⟨ob, b3, b5⟩, _⟩ := E1.own j e q1
        rw [q2] at b1; cases b1
        refine ⟨fun z => ?_, ob, b3, b5.flat ?_⟩
        · have := (E.x _ c2).1
          omega
        · have := List.all_eq_true.mp hz.2 j (List.mem_range.mpr (List.getElem?_eq_some_iff.mp q1).1)
          rw [Bool.or_eq_true] at this
          rcases this with z | z
          · exact absurd (eq_of_beq z) qj
          · rw [q1] at z; exact z
    · cases e
/-- from here on a variable's list is not written -/
def vFrz (i : Nat) (g : VSM) : VSM := fun v => g (frz i v)
theorem vs_frz {i : Nat} {f : FS} {g : VSM} (h0 : Z0 F i) (h : VSj F f g) : VSj F f (vFrz i g) := fun X st env v fl v' E e => by
  obtain ⟨X', hx, E'⟩ := E.frz h0
  exact (h X' st env _ fl v' E' e).after .refl fun k z => .inl (hx k z)
/-- xs[i] = e -/
def vPutK (i : Nat) (d : D) (k : D) : VSM := fun v => match k with
  | .int k => (match v[i]? with
    | some (some (true, .list ds)) => (L2.ixN ds.length k).map fun m => (.nx, v.set i (some (true, .list (ds.set m d))))
    | _ => none)
  | _ => none
def vPut (i : Nat) (gi ge : VM D) : VSM := fun v => vbS (ge v) fun d v => match v[i]? with
  | some (some (true, _)) => vbS (gi v) (vPutK i d)
  | _ => none
theorem vs_put {i : Nat} {fi fe : FE} {gi ge : VM D} (hk : VJ F p1 rE fi gi) (he : VJ F p2 rE fe ge) : VSj F (fPut (fVar i) fi fe) (vPut i gi ge) := fun X st env v fl v' E e =>
  SCn.bind (fun r v' q => he X st env v r v' E q) e fun a d s1 v1 ev1 E1 k1 pu ra e => by
    split at e
    · rename_i d0 hd0
      obtain ⟨n, hn, _⟩ := E1.own i d0 hd0
      have hv : fVar i env s1 = some (.ok (.ref n), s1) := by unfold fVar; rw [hn]; rfl
      rw [hv]
      refine SCn.after ev1 (fun k z => .inl z) ?_
      refine SCn.bind (p := p1) (r1 := rE) (L := s1.length) (kf := fun k st => (putL (.ref n) k a st).map fun st => (.nx, env, st)) (fun r v' q => hk X s1 env v1 r v' E1 q) e fun kw kd s2 v2 ev2 E2 k2 pu2 rk e => ?_
      cases kd with
      | int k =>
        cases rk
        have e : (match v2[i]? with | some (some (true, .list ds)) => (L2.ixN ds.length k).map fun m => (VFl.nx, v2.set i (some (true, .list (ds.set m d)))) | _ => none) = some (fl, v') := e
        split at e
        · rename_i ds hd
          cases q : L2.ixN ds.length k with
          | none => rw [q] at e; cases e
          | some m =>
            rw [q] at e; cases e
            obtain ⟨m', ws, hm, q1, q2, _⟩ := own_isL E2 hd
            rw [hn] at hm; cases hm
            have e1 : putL (.ref n) (.int k) a s2 = some (s2.set n (.lst (ws.set m a))) := by
              show (match s2[n]? with | some (.lst ws) => (L2.ixN ws.length k).map fun j => s2.set n (.lst (ws.set j a)) | _ => none) = _
              rw [q1]; simp only; rw [q2.length, q]; rfl
            obtain ⟨E3, ev3⟩ := E2.write hd hn (RXs.set (ev2.rx ra) m q2)
            exact ⟨.nx, env, _, X, by rw [e1]; rfl, ev2.trans ev3, fun k z => .inl z, E3, trivial⟩
        · cases e
      | _ => cases e
    · cases e
/-! ### for -/
def vloop (j : Nat) (b : VSM) : List D → VSM
  | [], v => some (.nx, v)
  | d :: ds, v => match b (v.set j (some (false, d))) with
    | some (.nx, v1) => vloop j b ds v1
    | some (.ct, v1) => vloop j b ds v1
    | some (.bk, v1) => some (.nx, v1)
    | o => o
theorem loop_sc {X0 : XS} {st0 : Sto} {G : Gt} {ws : List W} {j : Nat} {fb : FS} {gb : VSM} (hb : VSj F fb gb) (h0 : Z0 F j) (hG : ∀ st', Ev (Yf F X0) st0 st' → ∀ i, G st' i = some ws[i]?) :
    ∀ (ds : List D) (i : Nat) (X : XS) (st : Sto) (env : Evn) (v : VEnv) (fl : VFl) (v' : VEnv), i + ds.length = ws.length → RXs st X (ws.drop i) ds → Ev (Yf F X0) st0 st → (∀ k, X k → X0 k ∨ st0.length ≤ k) → EnvV F X st env v → vloop j gb ds v = some (fl, v') → SCn F X st (loop G j fb (ds.length + 1) i env st) fl v'
  | [], i, X, st, env, v, fl, v', hi, rd, ev, gr, E, e => by
    cases e
    refine ⟨.nx, env, st, X, ?_, .refl, fun k z => .inl z, E, trivial⟩
    unfold loop
    rw [hG st ev i, List.getElem?_eq_none (by simp at hi; omega)]
  | d :: ds, i, X, st, env, v, fl, v', hi, rd, ev, gr, E, e => by
    have hlt : i < ws.length := by simp at hi; omega
    have dr : ws.drop i = ws[i] :: ws.drop (i + 1) := List.drop_eq_getElem_cons hlt
    rw [dr] at rd
    cases rd with
    | cons ra rr =>
      have stG : G st i = some (some ws[i]) := by rw [hG st ev i, List.getElem?_eq_getElem hlt]
      have E1 := E.set h0 ra
      unfold vloop at e
      have nxt : ∀ {v1 env1 s1 X1}, Ev (Yf F X) st s1 → (∀ k, X1 k → X k ∨ st.length ≤ k) → EnvV F X1 s1 env1 v1 → vloop j gb ds v1 = some (fl, v') → SCn F X st (loop G j fb (ds.length + 1) (i + 1) env1 s1) fl v' := fun {v1 env1 s1 X1} ev1 gr1 E2 e => by
        refine SCn.after ev1 gr1 (loop_sc hb h0 hG ds (i + 1) X1 s1 env1 v1 fl v' (by simp at hi ⊢; omega) (rr.to fun k o q n => ⟨ev1.2 k o q fun z => n z.1, fun z => (gr1 k z).elim n fun q2 => absurd (List.getElem?_eq_some_iff.mp q).1 (Nat.not_lt.mpr q2)⟩) (ev_comp ev gr ev1) (gr_comp ev.1 gr gr1) E2 e)
      have step : ∀ o, fb (env.set j (some ws[i])) st = o → loop G j fb ((d :: ds).length + 1) i env st = (match o with
          | some (.nx, env1, st1) => loop G j fb (ds.length + 1) (i + 1) env1 st1
          | some (.ct, env1, st1) => loop G j fb (ds.length + 1) (i + 1) env1 st1
          | some (.bk, env1, st1) => some (.nx, env1, st1)
          | o => o) := fun o q => by
        show loop G j fb ((ds.length + 1) + 1) i env st = _
        rw [loop, stG]; simp only; rw [q]
        all_goals (
          rcases o with _ | ⟨f, e1, s1⟩
          · rfl
          · cases f <;> rfl)
      split at e
      · rename_i v1 q
        obtain ⟨fl', env1, s1, X1, a, b, c, g, h⟩ := hb X st _ _ _ _ E1 q
        cases fl' with
        | nx => rw [step _ a]; exact nxt b c g e
        | _ => exact h.elim
      · rename_i v1 q
        obtain ⟨fl', env1, s1, X1, a, b, c, g, h⟩ := hb X st _ _ _ _ E1 q
        cases fl' with
        | ct => rw [step _ a]; exact nxt b c g e
        | _ => exact h.elim
      · rename_i v1 q
        cases e
        obtain ⟨fl', env1, s1, X1, a, b, c, g, h⟩ := hb X st _ _ _ _ E1 q
        cases fl' with
        | bk => rw [step _ a]; exact ⟨.nx, env1, s1, X1, rfl, b, c, g, trivial⟩
        | _ => exact h.elim
      · rename_i n1 n2 n3
        obtain ⟨fl', env1, s1, X1, a, b, c, g, h⟩ := hb X st _ _ _ _ E1 e
        refine ⟨fl', env1, s1, X1, ?_, b, c, g, h⟩
        rw [step _ a]
        cases fl' with
        | nx => cases fl with | nx => exact absurd e (n1 v') | _ => exact h.elim
        | ct => cases fl with | ct => exact absurd e (n2 v') | _ => exact h.elim
        | bk => cases fl with | bk => exact absurd e (n3 v') | _ => exact h.elim
        | rt w => rfl
        | exc x => rfl
def vFor (gi : VM D) (j : Nat) (b : VSM) : VSM := fun v => vbS (gi v) fun d v => match itemsV d with
  | some ds => vloop j b ds v
  | none => none
theorem vs_for {fi : FE} {gi : VM D} {j : Nat} {fb : FS} {gb : VSM} (hi : VJ F p rE fi gi) (h0 : Z0 F j) (hb : VSj F fb gb) : VSj F (fFor fi j fb) (vFor gi j gb) := fun X st env v fl v' E e =>
  SCn.bind (fun r v' q => hi X st env v r v' E q) e fun a d s1 v1 ev1 E1 k1 pu ra e => by
    split at e
    · rename_i ds hd
      obtain ⟨⟨ws, h1, h2⟩, h3⟩ := src_of (F := F) ra hd
      rw [h3]
      exact (loop_sc hb h0 h2 ds 0 X s1 env v1 fl v' (by rw [h1.length]; simp) h1 .refl (fun k z => .inl z) E1 e).after ev1 fun k z => .inl z
    · cases e
def vForR (rv : List D → Option (Int × Nat)) (ga : VM (List D)) (j : Nat) (b : VSM) : VSM := fun v => vbS (ga v) fun ds v => match rv ds with
  | some (lo, n) => vloop j b (rngD lo n) v
  | none => none
theorem vs_forR {rg : List W → Option (Int × Nat)} {rv : List D → Option (Int × Nat)} (hr : RgV rg rv) {fa : FA} {ga : VM (List D)} {j : Nat} {fb : FS} {gb : VSM} (hi : VJ F p rA fa ga) (h0 : Z0 F j) (hb : VSj F fb gb) : VSj F (fForR rg fa j fb) (vForR rv ga j gb) := fun X st env v fl v' E e =>
  SCn.bind (fun r v' q => hi X st env v r v' E q) e fun as ds s1 v1 ev1 E1 k1 pu ra e => by
    split at e
    · rename_i lo n hd
      rw [hr ra hd]
      simp only
      obtain ⟨ws, h1, h2⟩ := src_rng (Y := Yf F X) (X := X) (st := s1) lo n
      have hl : (rngD lo n).length = n := by simp [rngD]
      have := (loop_sc hb h0 h2 (rngD lo n) 0 X s1 env v1 fl v' (by rw [h1.length]; simp) h1 .refl (fun k z => .inl z) E1 e).after ev1 fun k z => .inl z
      rw [hl] at this
      exact this
    · cases e
/-! for i, x in enumerate(e) -/
def vloop2 (j1 j2 : Nat) (b : VSM) : Nat → List D → VSM
  | _, [], v => some (.nx, v)
  | i, d :: ds, v => match b ((v.set j1 (some (false, .int i))).set j2 (some (false, d))) with
    | some (.nx, v1) => vloop2 j1 j2 b (i + 1) ds v1
    | some (.ct, v1) => vloop2 j1 j2 b (i + 1) ds v1
    | some (.bk, v1) => some (.nx, v1)
    | o => o
theorem loop2_sc {X0 : XS} {st0 : Sto} {G : Gt} {ws : List W} {j1 j2 : Nat} {fb : FS} {gb : VSM} (hb : VSj F fb gb) (h1 : Z0 F j1) (h2 : Z0 F j2) (hG : ∀ st', Ev (Yf F X0) st0 st' → ∀ i, G st' i = some ws[i]?) :
    ∀ (ds : List D) (i : Nat) (X : XS) (st : Sto) (env : Evn) (v : VEnv) (fl : VFl) (v' : VEnv), i + ds.length = ws.length → RXs st X (ws.drop i) ds → Ev (Yf F X0) st0 st → (∀ k, X k → X0 k ∨ st0.length ≤ k) → EnvV F X st env v → vloop2 j1 j2 gb i ds v = some (fl, v') → SCn F X st (loop2 G j1 j2 fb (ds.length + 1) i env st) fl v'
  | [], i, X, st, env, v, fl, v', hi, rd, ev, gr, E, e => by
    cases e
    refine ⟨.nx, env, st, X, ?_, .refl, fun k z => .inl z, E, trivial⟩
    unfold loop2
    rw [hG st ev i, List.getElem?_eq_none (by simp at hi; omega)]
  | d :: ds, i, X, st, env, v, fl, v', hi, rd, ev, gr, E, e => by
    have hlt : i < ws.length := by simp at hi; omega
    have dr : ws.drop i = ws[i] :: ws.drop (i + 1) := List.drop_eq_getElem_cons hlt
    rw [dr] at rd
    cases rd with
    | cons ra rr =>
      have stG : G st i = some (some ws[i]) := by rw [hG st ev i, List.getElem?_eq_getElem hlt]
      have E1 := (E.set h1 (.int (i : Nat))).set h2 ra
      unfold vloop2 at e
      have nxt : ∀ {v1 env1 s1 X1}, Ev (Yf F X) st s1 → (∀ k, X1 k → X k ∨ st.length ≤ k) → EnvV F X1 s1 env1 v1 → vloop2 j1 j2 gb (i + 1) ds v1 = some (fl, v') → SCn F X st (loop2 G j1 j2 fb (ds.length + 1) (i + 1) env1 s1) fl v' := fun {v1 env1 s1 X1} ev1 gr1 E2 e => by
        refine SCn.after ev1 gr1 (loop2_sc hb h1 h2 hG ds (i + 1) X1 s1 env1 v1 fl v' (by simp at hi ⊢; omega) (rr.to fun k o q n => ⟨ev1.2 k o q fun z => n z.1, fun z => (gr1 k z).elim n fun q2 => absurd (List.getElem?_eq_some_iff.mp q).1 (Nat.not_lt.mpr q2)⟩) (ev_comp ev gr ev1) (gr_comp ev.1 gr gr1) E2 e)
      have step : ∀ o, fb ((env.set j1 (some (.int (i : Nat)))).set j2 (some ws[i])) st = o → loop2 G j1 j2 fb ((d :: ds).length + 1) i env st = (match o with
          | some (.nx, env1, st1) => loop2 G j1 j2 fb (ds.length + 1) (i + 1) env1 st1
          | some (.ct, env1, st1) => loop2 G j1 j2 fb (ds.length + 1) (i + 1) env1 st1
          | some (.bk, env1, st1) => some (.nx, env1, st1)
          | o => o) := fun o q => by
        show loop2 G j1 j2 fb ((ds.length + 1) + 1) i env st = _
        rw [loop2, stG]; simp only; rw [q]
        all_goals (
          rcases o with _ | ⟨f, e1, s1⟩
          · rfl
          · cases f <;> rfl)
      split at e
      · rename_i v1 q
        obtain ⟨fl', env1, s1, X1, a, b, c, g, h⟩ := hb X st _ _ _ _ E1 q
        cases fl' with
        | nx => rw [step _ a]; exact nxt b c g e
        | _ => exact h.elim
      · rename_i v1 q
        obtain ⟨fl', env1, s1, X1, a, b, c, g, h⟩ := hb X st _ _ _ _ E1 q
        cases fl' with
        | ct => rw [step _ a]; exact nxt b c g e
        | _ => exact h.elim
      · rename_i v1 q
        cases e
        obtain ⟨fl', env1, s1, X1, a, b, c, g, h⟩ := hb X st _ _ _ _ E1 q
        cases fl' with
        | bk => rw [step _ a]; exact ⟨.nx, env1, s1, X1, rfl, b, c, g, trivial⟩
        | _ => exact h.elim
      · rename_i n1 n2 n3
        obtain ⟨fl', env1, s1, X1, a, b, c, g, h⟩ := hb X st _ _ _ _ E1 e
        refine ⟨fl', env1, s1, X1, ?_, b, c, g, h⟩
        rw [step _ a]
        cases fl' with
        | nx => cases fl with | nx => exact absurd e (n1 v') | _ => exact h.elim
        | ct => cases fl with | ct => exact absurd e (n2 v') | _ => exact h.elim
        | bk => cases fl with | bk => exact absurd e (n3 v') | _ => exact h.elim
        | rt w => rfl
        | exc x => rfl
def seqV : D → Option (List D)
  | .list ds => some ds
  | .tuple ds => some ds
  | _ => none
def vForE (gi : VM D) (j1 j2 : Nat) (b : VSM) : VSM := fun v => vbS (gi v) fun d v => match seqV d with
  | some ds => vloop2 j1 j2 b 0 ds v
  | none => none
theorem vs_forE {fi : FE} {gi : VM D} {j1 j2 : Nat} {fb : FS} {gb : VSM} (hi : VJ F p rE fi gi) (h1 : Z0 F j1) (h2 : Z0 F j2) (hb : VSj F fb gb) : VSj F (fForE fi j1 j2 fb) (vForE gi j1 j2 gb) := fun X st env v fl v' E e =>
  SCn.bind (fun r v' q => hi X st env v r v' E q) e fun a d s1 v1 ev1 E1 k1 pu ra e => by
    split at e
    · rename_i ds hd
      have hd' : itemsV d = some ds := by cases d <;> first | exact hd | cases hd
      obtain ⟨⟨ws, hh1, hh2⟩, h3⟩ := src_of (F := F) ra hd'
      have go := (loop2_sc hb h1 h2 hh2 ds 0 X s1 env v1 fl v' (by rw [hh1.length]; simp) hh1 .refl (fun k z => .inl z) E1 e).after ev1 fun k z => .inl z
      cases ra with
      | tup rs => rw [h3]; exact go
      | ref _ _ _ => rw [h3]; exact go
      | _ => cases hd
    · cases e
end
end DV

namespace DV
open PySem DI
section
variable {F : Fr} {p p1 p2 p3 : Bool}
/-! ### raise C(e) -/
def vRaise1 (c f : Str) (g : VM D) : VSM := fun v => vbS (g v) fun d v => some (.exc c [(f, d)], v)
theorem vs_raise1 {c f : Str} {fe : FE} {g : VM D} (h : VJ F p rE fe g) : VSj F (fRaise1 c f fe) (vRaise1 c f g) := fun X st env v fl v' E e =>
  SCn.bind (fun r v' q => h X st env v r v' E q) e fun a d s1 v1 ev1 E1 k1 pu ra e => by
    cases e
    refine ⟨.exc ⟨c, some s1.length⟩, env, s1 ++ [.xd [(f, a)]], X, rfl, ev1.trans (.app _), fun k z => .inl z, E1.app _, rfl, (by simp), [(f, a)], by simp, fun z => ?_, rfl, .cons ((RX.app ra _).anti fun k z => (E1.b k z).1) .nil⟩
    have := (E1.x _ (E1.b _ z).1).1
    omega
def vRaise0 (c : Str) : VSM := fun v => some (.exc c [], v)
theorem vs_raise0 {c : Str} : VSj F (fRaise0 c) (vRaise0 c) := fun X st env v fl v' E e => by
  cases e
  exact ⟨.exc ⟨c, none⟩, env, st, X, rfl, .refl, fun k z => .inl z, E, rfl, rfl⟩
/-! ### try .. except C as e: the suite's parts are silent -/
/-- in the suite of a caught one: nothing is made, nothing is written -/
def VX (F : Fr) (x : Xc) (c : Str) (fs : List (Str × D)) (f : FE) (g : VM D) : Prop := ∀ X st env v r v', EnvV F X st env v → XX st X x c fs → g v = some (r, v') → ∃ w d, f env st = some (.ok w, st) ∧ r = .ok d ∧ v' = v ∧ RX st X w d
def VXs (F : Fr) (x : Xc) (c : Str) (fs : List (Str × D)) (f : FA) (g : VM (List D)) : Prop := ∀ X st env v r v', EnvV F X st env v → XX st X x c fs → g v = some (r, v') → ∃ w d, f env st = some (.ok w, st) ∧ r = .ok d ∧ v' = v ∧ RXs st X w d
variable {x : Xc} {c : Str} {fs : List (Str × D)}
theorem vx_c {w : W} {d : D} (h : cD w = some d := by rfl) : VX F x c fs (fC w) (vC d) := fun X st env v r v' E _ e => by
  cases e; exact ⟨w, d, rfl, rfl, rfl, cD_ok h⟩
theorem vx_var {i : Nat} : VX F x c fs (fVar i) (vVar i) := fun X st env v r v' E _ h => by
  obtain ⟨d, q, rfl, rfl⟩ := vVar_some h
  obtain ⟨w, a, b⟩ := E.rd i d q
  exact ⟨w, d, by unfold fVar; rw [a]; rfl, rfl, rfl, b⟩
theorem look_rx {st : Sto} {X : XS} {f : Str} : ∀ {ws : List (Str × W)} {fs : List (Str × D)} {d : D}, ws.map (·.1) = fs.map (·.1) → RXs st X (ws.map (·.2)) (fs.map (·.2)) → fs.lookup f = some d → ∃ w, ws.lookup f = some w ∧ RX st X w d
  | _, [], _, _, _, h => by cases h
  | [], _ :: _, _, e, _, _ => by cases e
  | (g', u) :: ws, (g, d') :: fs, d, e, r, h => by
    have e1 : g' = g := (List.cons.inj e).1
    have e2 := (List.cons.inj e).2
    subst e1
    cases r with
    | cons r1 r2 =>
      rw [List.lookup_cons] at h ⊢
      split at h
      · cases h; exact ⟨u, rfl, r1⟩
      · exact look_rx e2 r2 h
def vXf (fs : List (Str × D)) (f : Str) : VM D := fun v => match fs.lookup f with
  | some d => some (.ok d, v)
  | none => none
theorem vx_xf {f : Str} (hd : x.dict.isSome = true) : VX F x c fs (fXf x f) (vXf fs f) := fun X st env v r v' E q h => by
  unfold vXf at h
  split at h
  · rename_i d hl
    cases h
    obtain ⟨n, hn⟩ := Option.isSome_iff_exists.mp hd
    have q2 := q.2
    rw [hn] at q2
    obtain ⟨_, ws, e1, e2, e3, e4⟩ := q2
    obtain ⟨w, h1, h2⟩ := look_rx e3 e4 hl
    refine ⟨w, d, ?_, rfl, rfl, h2⟩
    unfold fXf
    rw [hn]; simp only; rw [e1]; simp only
    unfold fldW
    rw [h1]; rfl
  · cases h
def vIsE (b : Bool) : VM D := vret (.bool b)
theorem vx_isE {b : Bool} : VX F x c fs (fIsE x (some b)) (vIsE b) := fun X st env v r v' E q h => by
  cases h
  refine ⟨.bl b, .bool b, ?_, rfl, rfl, .bl b⟩
  unfold fIsE
  cases hd : x.dict with
  | none => rfl
  | some n =>
    have q2 := q.2
    rw [hd] at q2
    obtain ⟨_, ws, e1, _⟩ := q2
    simp only
    rw [e1]; rfl
theorem vxs_nil : VXs F x c fs fNil vNil := fun X st env v r v' E _ e => by cases e; exact ⟨[], [], rfl, rfl, rfl, .nil⟩
theorem vxs_cons {f : FE} {fs' : FA} {g : VM D} {gs : VM (List D)} (h : VX F x c fs f g) (hs : VXs F x c fs fs' gs) : VXs F x c fs (fCons f fs') (vCons g gs) := fun X st env v r v' E q e => by
  unfold vCons at e
  cases h1 : g v with
  | none => rw [h1] at e; cases e
  | some o =>
    obtain ⟨ro, v1⟩ := o
    obtain ⟨w, d, a1, rfl, rfl, a4⟩ := h X st env v _ _ E q h1
    rw [h1] at e
    cases h2 : gs v1 with
    | none =>
      have e : vbnd (gs v1) (fun ds v => some (VR.ok (d :: ds), v)) = some (r, v') := e
      rw [h2] at e; cases e
    | some o =>
      obtain ⟨ro, v2⟩ := o
      obtain ⟨ws, ds, b1, rfl, rfl, b4⟩ := hs X st env _ _ _ E q h2
      have e : vbnd (gs v2) (fun ds v => some (VR.ok (d :: ds), v)) = some (r, v') := e
      rw [h2] at e
      cases e
      refine ⟨w :: ws, d :: ds, ?_, rfl, rfl, .cons a4 b4⟩
      unfold fCons
      rw [a1]
      show bnd (fs' env st) _ = _
      rw [b1]; rfl
/-- the suite as a statement -/
def VXS (F : Fr) (x : Xc) (c : Str) (fs : List (Str × D)) (f : FS) (g : VSM) : Prop := ∀ X st env v fl v', EnvV F X st env v → XX st X x c fs → g v = some (fl, v') → SCn F X st (f env st) fl v'
theorem vxs_set {i : Nat} {f : FE} {g : VM D} (h0 : Z0 F i) (h : VX F x c fs f g) : VXS F x c fs (fSet i f) (vSet i g) := fun X st env v fl v' E q e => by
  unfold vSet at e
  cases h1 : g v with
  | none => rw [h1] at e; cases e
  | some o =>
    obtain ⟨ro, v1⟩ := o
    obtain ⟨w, d, a1, rfl, rfl, a4⟩ := h X st env v _ _ E q h1
    rw [h1] at e
    cases e
    exact ⟨.nx, _, st, X, by unfold fSet; rw [a1]; rfl, .refl, fun k z => .inl z, E.set h0 a4, trivial⟩
theorem vxs_setL {i : Nat} {f : FA} {g : VM (List D)} (h0 : Z0 F i) (h : VXs F x c fs f g) : VXS F x c fs (fSet i (fLst f)) (vSet i (vLst g)) := fun X st env v fl v' E q e => by
  unfold vSet vLst at e
  cases h1 : g v with
  | none => rw [h1] at e; cases e
  | some o =>
    obtain ⟨ro, v1⟩ := o
    obtain ⟨ws, ds, a1, rfl, rfl, a4⟩ := h X st env v _ _ E q h1
    rw [h1] at e
    have e : vbS (if szW ds.length then some (VR.ok (PyData.list ds), v1) else none) (fun d v => some (VFl.nx, v.set i (some (false, d)))) = some (fl, v') := e
    split at e
    · rename_i hz
      cases e
      have hz : szW ws.length = true := by rw [a4.length]; exact hz
      refine ⟨.nx, _, st ++ [.lst ws], X, ?_, .app _, fun k z => .inl z, (E.app _).set h0 (rx_new (fun k z => (E.x k z).1) a4), trivial⟩
      unfold fSet fLst
      rw [a1]
      show bS (newL ws st) env _ = _
      rw [newL_ok hz]; rfl
    · cases e
theorem vxs_ret {f : FE} {g : VM D} (hf : F.fr = false) (h : VX F x c fs f g) : VXS F x c fs (fRet f) (vRet g) := fun X st env v fl v' E q e => by
  unfold vRet at e
  cases h1 : g v with
  | none => rw [h1] at e; cases e
  | some o =>
    obtain ⟨ro, v1⟩ := o
    obtain ⟨w, d, a1, rfl, rfl, a4⟩ := h X st env v _ _ E q h1
    rw [h1] at e
    cases e
    exact ⟨.rt w, _, st, X, by unfold fRet; rw [a1]; rfl, .refl, fun k z => .inl z, E, a4.anti fun k z => (E.b k z).1, fun z => by rw [hf] at z; cases z⟩
theorem vxs_retL {f : FA} {g : VM (List D)} (h : VXs F x c fs f g) : VXS F x c fs (fRet (fLst f)) (vRet (vLst g)) := fun X st env v fl v' E q e => by
  unfold vRet vLst at e
  cases h1 : g v with
  | none => rw [h1] at e; cases e
  | some o =>
    obtain ⟨ro, v1⟩ := o
    obtain ⟨ws, ds, a1, rfl, rfl, a4⟩ := h X st env v _ _ E q h1
    rw [h1] at e
    have e : vbS (if szW ds.length then some (VR.ok (PyData.list ds), v1) else none) (fun d v => some (VFl.rt d, v)) = some (fl, v') := e
    split at e
    · rename_i hz
      cases e
      have hz : szW ws.length = true := by rw [a4.length]; exact hz
      refine ⟨.rt (.ref st.length), _, st ++ [.lst ws], X, ?_, .app _, fun k z => .inl z, E.app _, (rx_new (fun k z => (E.x k z).1) a4).anti fun k z => (E.b k z).1, fun _ => ⟨_, rfl, E.l0⟩⟩
      unfold fRet fLst
      rw [a1]
      show bS (newL ws st) env _ = _
      rw [newL_ok hz]; rfl
    · cases e
/-- what an except-suite does, where the class has fields -/
def vsuF (g : VSM) (fs : List (Str × D)) : VSM := match fs with
  | [] => fun _ => none
  | _ :: _ => g
theorem vxs_suF {b : FS} {g : VSM} (h : ∀ n, x.dict = some n → VXS F x c fs b g) : VXS F x c fs (suF b x) (vsuF g fs) := fun X st env v fl v' E q e => by
  cases hd : x.dict with
  | none =>
    have q2 := q.2
    rw [hd] at q2
    have q2 : fs = [] := q2
    subst q2
    cases e
  | some n =>
    have : suF b x = b := by unfold suF; rw [hd]
    rw [this]
    cases fs with
    | nil => cases e
    | cons f fs => exact h n hd X st env v fl v' E q e
def vsuN (g : VSM) (fs : List (Str × D)) : VSM := match fs with
  | [] => g
  | _ :: _ => fun _ => none
theorem vxs_suN {b : FS} {g : VSM} (h : x.dict = none → VXS F x c fs b g) : VXS F x c fs (suN b x) (vsuN g fs) := fun X st env v fl v' E q e => by
  cases hd : x.dict with
  | none =>
    have : suN b x = b := by unfold suN; rw [hd]
    rw [this]
    cases fs with
    | nil => exact h hd X st env v fl v' E q e
    | cons f fs => cases e
  | some n =>
    have q2 := q.2
    rw [hd] at q2
    cases fs with
    | nil => exact absurd rfl q2.1
    | cons f fs => cases e
theorem XX.up {X : XS} {st : Sto} {env : Evn} {v : VEnv} {x : Xc} {c : Str} {fs : List (Str × D)} (E : EnvV F X st env v) (q : XX st F.X0 x c fs) (hf : flatAll (fs.map (·.2)) = true) : XX st X x c fs := by
  obtain ⟨h1, h2⟩ := q
  refine ⟨h1, ?_⟩
  cases hd : x.dict with
  | none => rw [hd] at h2; exact h2
  | some n =>
    rw [hd] at h2
    obtain ⟨ne, ws, e1, e2, e3, e4⟩ := h2
    exact ⟨ne, ws, e1, fun z => (E.x n z).2 ws e1, e3, e4.flat hf⟩
def vTry (gb : VSM) (tab : List (Str × Bool)) (i : Nat) (gs : Str → List (Str × D) → VSM) : VSM := fun v => match gb v with
  | some (.exc c fs, v1) => if flatAll (fs.map (·.2)) && decide (i < v1.length) then (match tab.lookup c with
    | some true => (match gs c fs (v1.set i none) with
      | some (.exc _ _, _) => none
      | some (fl, v2) => some (fl, v2.set i none)
      | none => none)
    | some false => some (.exc c fs, v1)
    | none => none) else none
  | o => o
theorem vs_try {fb : FS} {gb : VSM} {tab : List (Str × Bool)} {i : Nat} {su : Xc → FS} {gs : Str → List (Str × D) → VSM} (h0 : Z0 F i) (hb : VSj F fb gb) (hsu : ∀ x c fs, x.cls = c → tab.lookup c = some true → VXS F x c fs (su x) (gs c fs)) : VSj F (fTry fb tab i su) (vTry gb tab i gs) := fun X st env v fl v' E e => by
  unfold vTry at e
  split at e
  · rename_i c fs v1 q
    obtain ⟨fl', env1, s1, X1, a, b, g, h, k⟩ := hb X st env v _ _ E q
    cases fl' with
    | exc x =>
      have hx : x.cls = c := k.1
      split at e
      · rename_i hfl
        rw [Bool.and_eq_true] at hfl
        have hl : i < env1.length := by rw [h.len]; exact of_decide_eq_true hfl.2
        have kx := XX.up h k hfl.1
        cases ht : tab.lookup c with
        | none => rw [ht] at e; cases e
        | some bb =>
          rw [ht] at e
          cases bb with
          | false =>
            cases e
            refine ⟨.exc x, env1, s1, X1, ?_, b, g, h, k⟩
            unfold fTry
            rw [a]; simp only; rw [hx, ht]
          | true =>
            have h2 := h.drop (i := i) (o := none) h0
            have e : (match gs c fs (v1.set i none) with | some (.exc _ _, _) => none | some (fl, v2) => some (fl, v2.set i none) | none => none) = some (fl, v') := e
            split at e
            · cases e
            · rename_i fl2 v2 nx q2
              cases e
              obtain ⟨fl3, env3, s3, X3, a3, b3, c3, d3, k3⟩ := (hsu x c fs hx ht X1 s1 _ _ _ _ h2 kx q2).after b g
              refine ⟨fl3, env3.set i none, s3, X3, ?_, b3, c3, d3.drop h0, k3⟩
              unfold fTry
              rw [a]; simp only; rw [hx, ht]; simp only; rw [if_pos hl, a3]
              cases fl3 with
              | exc y =>
                cases fl with
                | exc c' fs' => exact (nx c' fs' rfl).elim
                | _ => exact k3.elim
              | _ => rfl
            · cases e
      · cases e
    | _ => exact k.elim
  · rename_i n1
    obtain ⟨fl', env1, s1, X1, a, b, g, h, k⟩ := hb X st env v _ _ E e
    refine ⟨fl', env1, s1, X1, ?_, b, g, h, k⟩
    unfold fTry
    rw [a]
    cases fl' with
    | exc x =>
      cases fl with
      | exc c fs => exact absurd e (n1 c fs v')
      | _ => exact k.elim
    | _ => rfl
end
/-! ### defs -/
def vmk (fr : Bool) (n m : Nat) (g : VSM) : List D → Option (VR D) := fun ds => if ds.length = n then match g ((ds.map fun d => some (false, d)) ++ List.replicate (m - n) none) with
  | some (.nx, _) => if fr then none else some (.ok .none)
  | some (.rt d, _) => some (.ok d)
  | some (.exc c fs, _) => some (.exc c fs)
  | _ => none
  else none
theorem start_get {ws : List W} {ds : List D} {k : Nat} {i : Nat} {x : Bool × D} (hl : ws.length = ds.length) (h : ((ds.map fun d => some (false, d)) ++ List.replicate k none)[i]? = some (some x)) : ∃ d, x = (false, d) ∧ ds[i]? = some d ∧ (ws.map some ++ List.replicate k none)[i]? = (ws[i]?).map some := by
  by_cases hi : i < ds.length
  · rw [List.getElem?_append_left (by simpa using hi), List.getElem?_map] at h
    cases q : ds[i]? with
    | none => rw [q] at h; cases h
    | some d => rw [q] at h; cases h; exact ⟨d, rfl, rfl, by rw [List.getElem?_append_left (by simpa [hl] using hi), List.getElem?_map]⟩
  · rw [List.getElem?_append_right (by simpa using Nat.le_of_not_lt hi)] at h
    rw [List.getElem?_replicate] at h
    split at h <;> cases h
/-- the start of a def's frame -/
theorem env_start {F : Fr} {X : XS} {st : Sto} {ws : List W} {ds : List D} {k : Nat} (hF : F.L0 = st.length ∧ F.io = none ∧ F.X0 = X ∧ F.sc = none) (hX : XOk st X) (r : RXs st X ws ds) : EnvV F X st (ws.map some ++ List.replicate k none) ((ds.map fun d => some (false, d)) ++ List.replicate k none) := by
  obtain ⟨h1, h2, h3, h4⟩ := hF
  have nO : ∀ i d, ((ds.map fun d => some (false, d)) ++ List.replicate k none)[i]? ≠ some (some (true, d)) := fun i d h => by
    obtain ⟨_, z, _⟩ := start_get r.length h
    cases z
  refine ⟨by simp [r.length], hX, fun k z => ?_, by omega, fun i d h => ?_, fun i d h => absurd h (nO i d), fun i j n d e ne a b c => absurd a (nO i d), fun n hn => ?_, fun ns hns => ?_⟩
  · rw [h3] at z; exact ⟨z, by rw [h1]; exact (hX k z).1⟩
  · obtain ⟨_, z, a, b⟩ := start_get r.length h
    cases z
    obtain ⟨w, c, e⟩ := r.get a
    exact ⟨w, by rw [b, c]; rfl, e⟩
  · rw [h2] at hn; cases hn
  · rw [h4] at hns; cases hns
theorem vp_of {fr : Bool} {n m : Nat} {f : FS} {g : VSM} {d : OC} (hd : d = mkF n m f) (h : ∀ L0 X0, VSj ⟨L0, none, X0, fr, none⟩ f g) : VP fr d (vmk fr n m g) := by
  intro X st ws ds r hX rs e
  subst hd
  unfold vmk at e
  split at e
  · rename_i hn
    have hw : ws.length = n := by rw [rs.length]; exact hn
    have E : EnvV ⟨st.length, none, X, fr, none⟩ X st _ _ := env_start (k := m - n) ⟨rfl, rfl, rfl, rfl⟩ hX rs
    have fin : ∀ s', Ev (Yf ⟨st.length, none, X, fr, none⟩ X) st s' → Ev N0 st s' := fun s' ev => ⟨ev.1, fun k o q _ => ev.2 k o q fun z => by
      have := (List.getElem?_eq_some_iff.mp q).1
      rcases z.2 with z | z
      · have z : st.length ≤ k := z
        omega
      · cases z⟩
    split at e
    · rename_i v' q
      obtain ⟨fl', env', s', X', a, b, c, g', k⟩ := h st.length X X st _ _ _ _ E q
      split at e
      · cases e
      · rename_i hfr
        cases e
        cases fl' with
        | nx => exact ⟨.ok .non, s', by unfold mkF; rw [if_pos hw, a], fin _ b, .non, fun z => absurd z hfr⟩
        | _ => exact k.elim
    · rename_i dd v' q
      cases e
      obtain ⟨fl', env', s', X', a, b, c, g', k⟩ := h st.length X X st _ _ _ _ E q
      cases fl' with
      | rt w => exact ⟨.ok w, s', by unfold mkF; rw [if_pos hw, a], fin _ b, k⟩
      | _ => exact k.elim
    · rename_i cc fs v' q
      cases e
      obtain ⟨fl', env', s', X', a, b, c, g', k⟩ := h st.length X X st _ _ _ _ E q
      cases fl' with
      | exc x => exact ⟨.exc x, s', by unfold mkF; rw [if_pos hw, a], fin _ b, k⟩
      | _ => exact k.elim
    · cases e
  · cases e
def vmkI (fr : Bool) (n m : Nat) (g : VSM) : D → List D → Option (VR D × D) := fun d ds => if ds.length + 1 = n then match g ((some (true, d) :: ds.map fun d => some (false, d)) ++ List.replicate (m - n) none) with
  | some (.nx, v) => if fr then none else (match v[0]? with | some (some (true, d')) => some (.ok .none, d') | _ => none)
  | some (.rt r, v) => (match v[0]? with | some (some (true, d')) => some (.ok r, d') | _ => none)
  | some (.exc c fs, v) => (match v[0]? with | some (some (true, d')) => some (.exc c fs, d') | _ => none)
  | _ => none
  else none
theorem env_startI {F : Fr} {X : XS} {st : Sto} {n : Nat} {o : Ob} {e0 : D} {ws : List W} {ds : List D} {k : Nat} (hF : F.L0 = st.length ∧ F.io = some n ∧ F.X0 = X ∧ F.sc = none) (hX : XOk st X) (hn : X n) (hu : st[n]? = some o) (ru : ObX st X o e0) (r : RXs st X ws ds) :
    EnvV F X st ((W.ref n :: ws).map some ++ List.replicate k none) ((some (true, e0) :: ds.map fun d => some (false, d)) ++ List.replicate k none) := by
  obtain ⟨h1, h2, h3, h4⟩ := hF
  have nO : ∀ i d, ((some (true, e0) :: ds.map fun d => some (false, d)) ++ List.replicate k none)[i]? = some (some (true, d)) → i = 0 ∧ d = e0 := fun i d h => by
    cases i with
    | zero => exact ⟨rfl, by have h : some (some (true, e0)) = some (some (true, d)) := h; cases h; rfl⟩
    | succ i =>
      obtain ⟨_, z, _⟩ := start_get (i := i) (k := k) r.length (by simpa using h)
      cases z
  refine ⟨by simp [r.length], hX, fun k z => ?_, by omega, fun i d h => ?_, fun i d h => ?_, fun i j m d e ne a b c => ?_, fun m hm => ?_, fun ns hns => ?_⟩
  · rw [h3] at z; exact ⟨z, by rw [h1]; exact (hX k z).1⟩
  · cases i with
    | zero => cases (show some (some (true, e0)) = some (some (false, d)) from h)
    | succ i =>
      obtain ⟨_, z, a, b⟩ := start_get (i := i) (k := k) r.length (by simpa using h)
      cases z
      obtain ⟨w, c, e⟩ := r.get a
      refine ⟨w, ?_, e⟩
      rw [c] at b
      simpa using b
  · obtain ⟨rfl, rfl⟩ := nO i d h
    exact ⟨n, rfl, hn, ⟨o, hu, ru⟩, by rw [if_pos ⟨rfl, by rw [h2]; rfl⟩]; exact h2⟩
  · exact absurd ((nO i d a).1.trans (nO j e b).1.symm) ne
  · rw [h2] at hm; cases hm
    exact ⟨by rw [h3]; exact hn, ⟨_, rfl⟩, rfl⟩
  · rw [h4] at hns; cases hns
theorem vi_of {fr : Bool} {n m : Nat} {f : FS} {g : VSM} {d : OC} (hd : d = mkF n m f) (h : ∀ L0 k X0, VSj ⟨L0, some k, X0, fr, none⟩ f g) : VI fr d (vmkI fr n m g) := by
  intro X st k ob e0 ws ds r d' hX hk hu ru rs e
  subst hd
  unfold vmkI at e
  split at e
  · rename_i hn
    have hw : (W.ref k :: ws).length = n := by simp [rs.length]; exact hn
    have E : EnvV ⟨st.length, some k, X, fr, none⟩ X st _ _ := env_startI (k := m - n) ⟨rfl, rfl, rfl, rfl⟩ hX hk hu ru rs
    have fin : ∀ s', Ev (Yf ⟨st.length, some k, X, fr, none⟩ X) st s' → Ev (fun j => j = k) st s' := fun s' ev => ⟨ev.1, fun j o q nj => ev.2 j o q fun z => by
      have := (List.getElem?_eq_some_iff.mp q).1
      rcases z.2 with z | z
      · have z : st.length ≤ j := z
        omega
      · cases z; exact nj rfl⟩
    have last : ∀ {s' env' v' X'} , EnvV ⟨st.length, some k, X, fr, none⟩ X' s' env' v' → ∀ dd, v'[0]? = some (some (true, dd)) → ∃ o', s'[k]? = some o' ∧ ObX s' X o' dd := fun {s' env' v' X'} E' dd hv => by
      obtain ⟨m', a, b, ⟨o', c1, c3⟩, g'⟩ := E'.own 0 dd hv
      rw [(E'.io k rfl).2.2] at a; cases a
      exact ⟨o', c1, c3.anti fun j z => (E'.b j z).1⟩
    split at e
    · rename_i v' q
      obtain ⟨fl', env', s', X', a, b, c, g', kk⟩ := h st.length k X X st _ _ _ _ E q
      split at e
      · cases e
      · rename_i hfr
        split at e
        · rename_i dd hv
          cases e
          obtain ⟨o', z2, z3⟩ := last g' _ hv
          cases fl' with
          | nx => exact ⟨.ok .non, s', o', by unfold mkF; rw [if_pos hw, a], fin _ b, z2, z3, .non, fun z => absurd z hfr⟩
          | _ => exact kk.elim
        · cases e
    · rename_i rr v' q
      split at e
      · rename_i dd hv
        cases e
        obtain ⟨fl', env', s', X', a, b, c, g', kk⟩ := h st.length k X X st _ _ _ _ E q
        obtain ⟨o', z2, z3⟩ := last g' _ hv
        cases fl' with
        | rt w => exact ⟨.ok w, s', o', by unfold mkF; rw [if_pos hw, a], fin _ b, z2, z3, kk⟩
        | _ => exact kk.elim
      · cases e
    · rename_i cc fs v' q
      split at e
      · rename_i dd hv
        cases e
        obtain ⟨fl', env', s', X', a, b, c, g', kk⟩ := h st.length k X X st _ _ _ _ E q
        obtain ⟨o', z2, z3⟩ := last g' _ hv
        cases fl' with
        | exc x => exact ⟨.exc x, s', o', by unfold mkF; rw [if_pos hw, a], fin _ b, z2, z3, kk⟩
        | _ => exact kk.elim
      · cases e
    · cases e
  · cases e
/-! ### the law -/
def scLen (ns : List Int) : VM D := vret (.int ns.length)
theorem vj_scLen {F : Fr} {ns : List Int} (h : F.sc = some ns) : VJ F true rE (fCB opLen (fCons (fVar 0) fNil)) (scLen ns) := fun X st env v r v' E e => by
  cases e
  obtain ⟨_, c⟩ := E.sc ns h
  have hv : fVar 0 env st = some (.ok (.ils (ns.map .int)), st) := by unfold fVar; rw [c]; rfl
  have : fCB opLen (fCons (fVar 0) fNil) env st = some (.ok (.int ns.length), st) := by
    rw [cb1, hv]
    show some (R.ok (W.int ((ns.map W.int).length : Nat)), st) = _
    rw [List.length_map]
  rw [this]
  exact .ok0 E (.int _)
theorem law_of {m : Nat} {f : FS} {g : VSM} {d : OC} {ns : List Int} (hd : d = mkF 1 m f) (h : VSj ⟨0, none, N0, false, some ns⟩ f g) {v' : VEnv} (e : g (List.replicate (1 + (m - 1)) none) = some (.rt (.bool true), v')) : ∃ st', d [.ils (ns.map .int)] [] = some (.ok (.bl true), st') := by
  subst hd
  have E : EnvV ⟨0, none, N0, false, some ns⟩ N0 [] (some (W.ils (ns.map .int)) :: List.replicate (m - 1) none) (List.replicate (1 + (m - 1)) none) := by
    have no : ∀ i d, (List.replicate (1 + (m - 1)) (none : Option (Bool × D)))[i]? ≠ some (some d) := fun i d h => by
      rw [List.getElem?_replicate] at h
      split at h <;> cases h
    refine ⟨by simp; omega, fun k z => z.elim, fun k z => z.elim, Nat.le_refl _, fun i d h => absurd h (no i _), fun i d h => absurd h (no i _), fun i j n d e ne a b c => absurd a (no i _), fun n hn => (by cases hn), fun ns' hns => ?_⟩
    cases hns
    refine ⟨?_, rfl⟩
    rw [List.getElem?_replicate, if_pos (by omega)]
  obtain ⟨fl', env', s', X', a, b, c, g', k⟩ := h N0 [] _ _ _ _ E e
  cases fl' with
  | rt w =>
    have k1 : RX s' N0 w (.bool true) := k.1
    cases k1
    refine ⟨s', ?_⟩
    unfold mkF
    have : ([W.ils (ns.map .int)].length = 1) := rfl
    rw [if_pos this]
    have e0 : [W.ils (ns.map .int)].map some ++ List.replicate (m - 1) none = some (W.ils (ns.map .int)) :: List.replicate (m - 1) none := rfl
    rw [e0, a]
  | _ => exact k.elim
end DV

namespace DV
open PySem DI
/-! ### steps -/
section
variable {env env1 : Evn} {st s1 s2 s3 : Sto} {a b c w : W} {fa fb fc : FE} {ws : List W} {fs : FA}
theorem e_var {i : Nat} (h : env[i]? = some (some w)) : fVar i env st = some (.ok w, st) := by unfold fVar; rw [h]; rfl
theorem e_op {op : O2} {o : Out W} (ha : fa env st = some (.ok a, s1)) (hb : fb env s1 = some (.ok b, s2)) (ho : op a b s2 = o) : fOp op fa fb env st = o := by
  unfold fOp; rw [ha]; show bnd (fb env s1) _ = _; rw [hb]; exact ho
theorem e_cb {op : OC} {o : Out W} (ha : fs env st = some (.ok ws, s1)) (ho : op ws s1 = o) : fCB op fs env st = o := by
  unfold fCB; rw [ha]; exact ho
theorem e_nil : fNil env st = some (.ok [], st) := rfl
theorem e_cons (ha : fa env st = some (.ok a, s1)) (hb : fs env s1 = some (.ok ws, s2)) : fCons fa fs env st = some (.ok (a :: ws), s2) := by
  unfold fCons; rw [ha]; show bnd (fs env s1) _ = _; rw [hb]; rfl
theorem e_isi {T : String} {o : Out W} (ha : fa env st = some (.ok a, s1)) (ho : opIsi T [a] s1 = o) : fIsi T fa env st = o := by
  unfold fIsi; rw [ha]; exact ho
theorem t_test {b : Bool} (ha : fa env st = some (.ok (.bl b), s1)) : fTest fa env st = some (.ok b, s1) := by
  unfold fTest; rw [ha]; rfl
theorem t_not {ft : FT} {b : Bool} (ha : ft env st = some (.ok b, s1)) : fNotT ft env st = some (.ok (!b), s1) := by
  unfold fNotT; rw [ha]; rfl
theorem t_orT {ft fu : FT} (ha : ft env st = some (.ok true, s1)) : fOrT ft fu env st = some (.ok true, s1) := by
  unfold fOrT; rw [ha]; rfl
theorem t_orF {ft fu : FT} {o : Out Bool} (ha : ft env st = some (.ok false, s1)) (hb : fu env s1 = o) : fOrT ft fu env st = o := by
  unfold fOrT; rw [ha]; exact hb
theorem t_andF {ft fu : FT} (ha : ft env st = some (.ok false, s1)) : fAndT ft fu env st = some (.ok false, s1) := by
  unfold fAndT; rw [ha]; rfl
theorem t_andT {ft fu : FT} {o : Out Bool} (ha : ft env st = some (.ok true, s1)) (hb : fu env s1 = o) : fAndT ft fu env st = o := by
  unfold fAndT; rw [ha]; exact hb
theorem e_andF (ha : fa env st = some (.ok (.bl false), s1)) : fAnd fa fb env st = some (.ok (.bl false), s1) := by
  unfold fAnd; rw [ha]; rfl
theorem e_andT {o : Out W} (ha : fa env st = some (.ok (.bl true), s1)) (hb : fb env s1 = o) : fAnd fa fb env st = o := by
  unfold fAnd; rw [ha]; exact hb
theorem e_tup (ha : fs env st = some (.ok ws, s1)) (hz : ws.length ≤ 1000000) : fTup fs env st = some (.ok (.tup ws), s1) := by
  unfold fTup; rw [ha]; show (if szW ws.length then _ else _) = _; have z : szW ws.length = true := decide_eq_true hz; rw [if_pos z]; rfl
theorem e_lst (ha : fs env st = some (.ok ws, s1)) (hz : ws.length ≤ 1000000) : fLst fs env st = some (.ok (.ref s1.length), s1 ++ [.lst ws]) := by
  unfold fLst; rw [ha]; show newL ws s1 = _; unfold newL; have z : szW ws.length = true := decide_eq_true hz; rw [if_pos z]
theorem s_set {i : Nat} (ha : fa env st = some (.ok a, s1)) : fSet i fa env st = some (.nx, env.set i (some a), s1) := by
  unfold fSet; rw [ha]; rfl
theorem s_ret (ha : fa env st = some (.ok a, s1)) : fRet fa env st = some (.rt a, env, s1) := by
  unfold fRet; rw [ha]; rfl
theorem s_seq {f g : FS} {o : OutS} (h1 : f env st = some (.nx, env1, s1)) (h2 : g env1 s1 = o) : fSeq f g env st = o := by
  unfold fSeq; rw [h1]; exact h2
theorem s_rt {f g : FS} (h1 : f env st = some (.rt a, env1, s1)) : fSeq f g env st = some (.rt a, env1, s1) := by
  unfold fSeq; rw [h1]
theorem s_ifT {c : FT} {f g : FS} {o : OutS} (h1 : c env st = some (.ok true, s1)) (h2 : f env s1 = o) : fIfS c f g env st = o := by
  unfold fIfS; rw [h1]; exact h2
theorem s_ifF {c : FT} {f g : FS} {o : OutS} (h1 : c env st = some (.ok false, s1)) (h2 : g env s1 = o) : fIfS c f g env st = o := by
  unfold fIfS; rw [h1]; exact h2
theorem f_rt {n m : Nat} {f : FS} (hn : ws.length = n) (h : f (ws.map some ++ List.replicate (m - n) none) st = some (.rt w, env1, s1)) : mkF n m f ws st = some (.ok w, s1) := by
  unfold mkF; rw [if_pos hn, h]
theorem e_lc {j n : Nat} {ft : FT} (ha : fa env st = some (.ok a, s1)) (hn : cnt a s1 = some n) (hl : lcLoop (gOf a) j ft fb (env.set j none) (n + 1) 0 [] s1 = some (.ok ws, s2)) : fLc fa j ft fb env st = some (.ok (.ref s2.length), s2 ++ [.lst ws]) := by
  unfold fLc; rw [ha]; show (match cnt a s1 with | some n => _ | none => _) = _; rw [hn]; show bnd (lcLoop _ _ _ _ _ _ _ _ _) addL = _; rw [hl]; rfl
theorem e_chainF {o o' : O2} (ha : fa env st = some (.ok a, s1)) (hb : fb env s1 = some (.ok b, s2)) (ho : o a b s2 = some (.ok (.bl false), s3)) : fChain o o' fa fb fc env st = some (.ok (.bl false), s3) := by
  unfold fChain; rw [ha]; show bnd (fb env s1) _ = _; rw [hb]; show bnd (o a b s2) _ = _; rw [ho]; rfl
theorem e_chainT {o o' : O2} {s4 : Sto} {ot : Out W} (ha : fa env st = some (.ok a, s1)) (hb : fb env s1 = some (.ok b, s2)) (ho : o a b s2 = some (.ok (.bl true), s3)) (hc : fc env s3 = some (.ok c, s4)) (h2 : o' b c s4 = ot) : fChain o o' fa fb fc env st = ot := by
  unfold fChain; rw [ha]; show bnd (fb env s1) _ = _; rw [hb]; show bnd (o a b s2) _ = _; rw [ho]; show bnd (fc env s3) _ = _; rw [hc]; exact h2
end
theorem o_mod (i j : Int) (st : Sto) (h : 0 < j) : opMod (.int i) (.int j) st = some (.ok (.int (i % j)), st) := by
  show (if cMod i j then DI.ret (W.int (i % j)) st else none) = _
  have : cMod i j = true := decide_eq_true h
  rw [this]; rfl
theorem o_mulR (i j : Int) (st : Sto) (h : -(2 ^ 64) < j) (h2 : j < 2 ^ 64) : opMul (.int i) (.int j) st = some (.ok (.int (i * j)), st) := by
  show (if cMul i j then DI.ret (W.int (i * j)) st else none) = _
  have : cMul i j = true := by unfold cMul; rw [decide_eq_true h, decide_eq_true h2]; simp
  rw [this]; rfl
theorem pow18 (st : Sto) : opPow (.int 10) (.int 18) st = some (.ok (.int 1000000000000000000), st) := by
  show (if cPow 10 18 then DI.ret (W.int (10 ^ (18 : Int).toNat)) st else none) = _
  have h1 : cPow 10 18 = true := by decide +kernel
  have h2 : (10 : Int) ^ (18 : Int).toNat = 1000000000000000000 := by decide +kernel
  rw [h1, h2]; rfl
def streamB : FS := (fSeq (fSet 2 (fC (.int 0)))
      (fSeq (fIfS (fTest (fOp opLt (fVar 1) (fCB opLen (fCons (fVar 0) fNil)))) (fSet 2 (fOp opIx (fVar 0) (fVar 1))) fNext)
      (fSeq (fSet 3 (fCB opMax2 (fCons (fVar 2) (fCons (fOp opSub (fNeg (fC (.int 1))) (fVar 2)) fNil))))
      (fSeq (fSet 4 (fOp opMod (fOp opMul (fOp opAdd (fOp opAdd (fOp opAdd (fOp opMod (fVar 3) (fC (.int 2147483629))) (fOp opMul (fOp opMul (fC (.int 7919)) (fVar 1)) (fVar 1))) (fOp opMul (fC (.int 31)) (fVar 1))) (fC (.int 17))) (fC (.int 48271))) (fC (.int 2147483647))))
      (fRet (fLst (fCons (fOp opMul (fVar 3) (fCB opInt (fCons (fOp opGe (fVar 3) (fOp opPow (fC (.int 10)) (fC (.int 18)))) fNil))) (fCons (fVar 4) fNil))))))))
def streamOC : OC := mkF 2 5 streamB

/-! ### the stream's start -/
def cell (ns : List Int) (k : Nat) : Int := ns.getD k 0
def sSz (ns : List Int) (k : Nat) : Int := if -1 - cell ns k > cell ns k then -1 - cell ns k else cell ns k
def sA (ns : List Int) (k : Nat) : Int := sSz ns k * (if decide ((1000000000000000000 : Int) ≤ sSz ns k) then 1 else 0)
def sB (ns : List Int) (k : Nat) : Int := (sSz ns k % 2147483629 + 7919 * k * k + 31 * k + 17) * 48271 % 2147483647
theorem stream_ok (ns : List Int) (k : Nat) (hk : k < 1000) (st : Sto) : streamOC [.ils (ns.map W.int), .int k] st = some (.ok (.ref st.length), st ++ [.lst [.int (sA ns k), .int (sB ns k)]]) := by
  have go : fSeq (fSet 3 (fCB opMax2 (fCons (fVar 2) (fCons (fOp opSub (fNeg (fC (.int 1))) (fVar 2)) fNil))))
      (fSeq (fSet 4 (fOp opMod (fOp opMul (fOp opAdd (fOp opAdd (fOp opAdd (fOp opMod (fVar 3) (fC (.int 2147483629))) (fOp opMul (fOp opMul (fC (.int 7919)) (fVar 1)) (fVar 1))) (fOp opMul (fC (.int 31)) (fVar 1))) (fC (.int 17))) (fC (.int 48271))) (fC (.int 2147483647))))
      (fRet (fLst (fCons (fOp opMul (fVar 3) (fCB opInt (fCons (fOp opGe (fVar 3) (fOp opPow (fC (.int 10)) (fC (.int 18)))) fNil))) (fCons (fVar 4) fNil))))) [some (.ils (ns.map W.int)), some (.int k), some (.int (cell ns k)), none, none] st
      = some (.rt (.ref st.length), [some (.ils (ns.map W.int)), some (.int k), some (.int (cell ns k)), some (.int (sSz ns k)), some (.int (sB ns k))], st ++ [.lst [.int (sA ns k), .int (sB ns k)]]) := by
    refine s_seq (s_set (a := .int (sSz ns k)) (e_cb (e_cons (e_var rfl) (e_cons (e_op rfl (e_var rfl) rfl) e_nil)) rfl)) (s_seq (s1 := st) (s_set (a := .int (sB ns k)) ?_) (s_ret (e_lst (e_cons (e_op (b := .int (if decide ((1000000000000000000 : Int) ≤ sSz ns k) then 1 else 0)) (s2 := st) (e_var rfl) ?_ ?_) (e_cons (e_var rfl) e_nil)) (by simp))))
    · have kk : (-(2 ^ 64) : Int) < (k : Int) ∧ (k : Int) < 2 ^ 64 := ⟨by omega, by omega⟩
      exact e_op (e_op (e_op (e_op (e_op (e_op (e_var rfl) rfl (o_mod (sSz ns k) _ st (by decide))) (e_op (e_op rfl (e_var rfl) (o_mulR _ _ _ kk.1 kk.2)) (e_var rfl) (o_mulR _ _ _ kk.1 kk.2)) rfl) (e_op rfl (e_var rfl) (o_mulR _ _ _ kk.1 kk.2)) rfl) rfl rfl) rfl (o_mulR _ _ _ (by decide) (by decide))) rfl (o_mod _ _ _ (by decide))
    · refine e_cb (e_cons (a := .bl (decide ((1000000000000000000 : Int) ≤ sSz ns k))) (e_op (e_var rfl) (e_op rfl rfl (pow18 st)) rfl) e_nil) ?_
      rfl
    · refine o_mulR _ _ _ ?_ ?_
      · show (-(2 ^ 64) : Int) < (if decide ((1000000000000000000 : Int) ≤ sSz ns k) then 1 else 0); split <;> decide
      · show (if decide ((1000000000000000000 : Int) ≤ sSz ns k) then (1 : Int) else 0) < 2 ^ 64; split <;> decide
  have ln : fCB opLen (fCons (fVar 0) fNil) [some (.ils (ns.map W.int)), some (.int k), some (.int 0), none, none] st = some (.ok (.int (ns.map W.int).length), st) := rfl
  have t : fTest (fOp opLt (fVar 1) (fCB opLen (fCons (fVar 0) fNil))) [some (.ils (ns.map W.int)), some (.int k), some (.int 0), none, none] st = some (.ok (decide ((k : Int) < ((ns.map W.int).length : Int))), st) := t_test (e_op (e_var rfl) ln rfl)
  have fin : fIfS (fTest (fOp opLt (fVar 1) (fCB opLen (fCons (fVar 0) fNil)))) (fSet 2 (fOp opIx (fVar 0) (fVar 1))) fNext [some (.ils (ns.map W.int)), some (.int k), some (.int 0), none, none] st = some (.nx, [some (.ils (ns.map W.int)), some (.int k), some (.int (cell ns k)), none, none], st) := by
    by_cases hl : k < ns.length
    · have hd : decide ((k : Int) < ((ns.map W.int).length : Int)) = true := decide_eq_true (by simp; omega)
      rw [hd] at t
      have ge : (ns.map W.int)[k]? = some (.int (cell ns k)) := by simp [hl, cell]
      refine s_ifT t (s_set (e_op (e_var rfl) (e_var rfl) ?_))
      show ((L2.atI (ns.map W.int) (k : Int)).map fun w => (R.ok w, st)) = _
      rw [L2.atI_nat ge]; rfl
    · have hd : decide ((k : Int) < ((ns.map W.int).length : Int)) = false := decide_eq_false (by simp; omega)
      rw [hd] at t
      have : cell ns k = 0 := by simp [cell, Nat.le_of_not_lt hl]
      rw [this]
      exact s_ifF t rfl
  exact f_rt rfl (s_seq (s_set rfl) (s_seq fin go))
def strD (ns : List Int) (k : Nat) : D := .list [.int (sA ns k), .int (sB ns k)]
def vStream (ns : List Int) (g : VM D) : VM D := fun v => vbnd (g v) fun d v => match d with
  | .int i => if decide (0 ≤ i) && decide (i < 1000) then some (.ok (strD ns i.toNat), v) else none
  | _ => none
theorem vj_stream {F : Fr} {p : Bool} {ns : List Int} {f : OC} {fe : FE} {g : VM D} (hf : f = streamOC) (hs : F.sc = some ns) (h : VJ F p rE fe g) : VJ F (p && true) rF (fCB f (fCons (fVar 0) (fCons fe fNil))) (vStream ns g) := fun X st env v r v' E e => by
  subst hf
  obtain ⟨_, c⟩ := E.sc ns hs
  have hv : fVar 0 env st = some (.ok (.ils (ns.map .int)), st) := by unfold fVar; rw [c]; rfl
  rw [cb2, hv]
  show Cn F (p && true) rF X st.length st env v (bnd (fe env st) fun b st => streamOC [.ils (ns.map .int), b] st) r v'
  refine Cn.bind (fun r v' q => h X st env v r v' E q) e fun a d s1 v1 ev1 E1 k1 ra e => ?_
  cases d with
  | int i =>
    cases ra
    have e : (if decide (0 ≤ i) && decide (i < 1000) then some (VR.ok (strD ns i.toNat), v1) else none) = some (r, v') := e
    split at e
    · rename_i hz
      rw [Bool.and_eq_true] at hz
      cases e
      have h0 : 0 ≤ i := of_decide_eq_true hz.1
      have h1 : i < 1000 := of_decide_eq_true hz.2
      have so := stream_ok ns i.toNat (by omega) s1
      rw [Int.toNat_of_nonneg h0] at so
      rw [so]
      exact .ok E1 _ ⟨rx_new (fun k z => (E1.x k z).1) (.cons (.int _) (.cons (.int _) .nil)), _, rfl, ev1.1⟩
    · cases e
  | _ => cases e
end DV

namespace DV
open PySem DI
/-! ### keys -/
mutual
def nkD : D → Option NestedKey
  | .none => some .none
  | .bool b => some (.num (if b = true then 1 else 0))
  | .int i => some (.num i)
  | .str x => some (.text x)
  | .tuple ds => (nkDs ds).map .tup
  | _ => none
def nkDs : List D → Option (List NestedKey)
  | [] => some []
  | d :: ds => match nkD d, nkDs ds with
    | some k, some ks => some (k :: ks)
    | _, _ => none
end
section
variable {st : Sto} {X : XS}
mutual
theorem RX.nk : ∀ {w : W} {d : D}, RX st X w d → nkW w = nkD d
  | _, _, .non => rfl
  | _, _, .bl b => rfl
  | _, _, .int i => rfl
  | _, _, .str x => rfl
  | _, _, .tup r => by unfold nkW nkD; rw [RXs.nk r]
  | _, _, .ref e n r => rfl
  | _, _, .emp e n => rfl
  | _, _, .dct e n r s => rfl
theorem RXs.nk : ∀ {ws : List W} {ds : List D}, RXs st X ws ds → nkWs ws = nkDs ds
  | _, _, .nil => rfl
  | _, _, .cons a b => by unfold nkWs nkDs; rw [RX.nk a, RXs.nk b]; all_goals (cases nkD _ <;> cases nkDs _ <;> rfl)
end
def keyD (d : D) : Option NestedKey := match d with
  | .tuple _ => (match nkD d with
    | some k => if k.depth ≤ 8 then some k else none
    | none => none)
  | _ => none
theorem RX.key {w : W} {d : D} (r : RX st X w d) : keyW w = keyD d := by
  have h := r.nk
  cases r with
  | tup r => unfold keyW keyD; simp only; rw [h]; all_goals (cases nkD _ <;> rfl)
  | _ => rfl
theorem Top.key {w : W} {d : D} (r : Top st X w d) : keyW w = keyD d := let ⟨_, r⟩ := Top.rx r; r.key
def lookD : List (D × D) → NestedKey → Option D
  | [], _ => none
  | p :: ps, k => if nkD p.1 = some k then some p.2 else lookD ps k
theorem lookd_rx {k : NestedKey} : ∀ {kvs : List (W × W)} {ps : List (D × D)}, RXs st X (kvs.map (·.1)) (ps.map (·.1)) → RXs st X (kvs.map (·.2)) (ps.map (·.2)) → (lookD ps k = none ∧ lookW kvs k = none) ∨ ∃ w d, lookD ps k = some d ∧ lookW kvs k = some w ∧ RX st X w d
  | [], [], _, _ => .inl ⟨rfl, rfl⟩
  | [], _ :: _, h, _ => by cases h
  | _ :: _, [], h, _ => by cases h
  | p :: kvs, q :: ps, .cons a b, .cons c d => by
    have e := a.nk
    unfold lookD lookW
    by_cases z : nkD q.1 = some k
    · rw [if_pos z, if_pos (by rw [e]; exact z)]; exact .inr ⟨_, _, rfl, rfl, c⟩
    · rw [if_neg z, if_neg (by rw [e]; exact z)]; exact lookd_rx b d
theorem Top.dct {w : W} {ps : List (D × D)} (h : Top st X w (.dict ps)) : ∃ n kvs, w = .ref n ∧ dctOf (.ref n) st = some kvs ∧ RXs st X (kvs.map (·.1)) (ps.map (·.1)) ∧ RXs st X (kvs.map (·.2)) (ps.map (·.2)) := by
  obtain ⟨n, rfl, hh⟩ := h.dict
  rcases hh with ⟨e, rfl⟩ | ⟨kvs, e, _, r, s⟩
  · exact ⟨n, [], rfl, by unfold dctOf; simp only; rw [e], .nil, .nil⟩
  · exact ⟨n, kvs, rfl, by unfold dctOf; simp only; rw [e], r, s⟩
theorem Top.ndct {w : W} {d : D} (h : Top st X w d) (hd : ∀ ps, d ≠ .dict ps) : dctOf w st = Option.none := by
  obtain ⟨_, r⟩ := h.rx
  unfold dctOf
  cases r with
  | ref e n r => simp only; rw [e]
  | emp e n => exact absurd rfl (hd _)
  | dct e n r s => exact absurd rfl (hd _)
  | _ => rfl
end
/-! ### in, d[k] -/
def vInD : D → D → Option D := fun d e => match e with
  | .dict ps => (match keyD d with
    | some k => some (.bool (lookD ps k).isSome)
    | none => none)
  | e => vIn d e
def vNotInD : D → D → Option D := fun d e => match e with
  | .dict ps => (match keyD d with
    | some k => some (.bool (!(lookD ps k).isSome))
    | none => none)
  | e => vNotIn d e
theorem look_some {st : Sto} {X : XS} {k : NestedKey} {kvs : List (W × W)} {ps : List (D × D)} (r : RXs st X (kvs.map (·.1)) (ps.map (·.1))) (s : RXs st X (kvs.map (·.2)) (ps.map (·.2))) : (lookW kvs k).isSome = (lookD ps k).isSome := by
  rcases lookd_rx (k := k) r s with ⟨a, b⟩ | ⟨_, _, a, b, _⟩ <;> rw [a, b] <;> rfl
theorem opv_inD : OPV opInD vInD := by
  intro st X a b d e r hX ha hb q
  unfold vInD at q
  split at q
  · rename_i ps
    split at q
    · rename_i k hk
      cases q
      obtain ⟨n, kvs, rfl, h1, h2, h3⟩ := hb.dct
      refine ⟨[], .bl (lookD ps k).isSome, ?_, .bl _⟩
      unfold opInD
      rw [ha.key, hk, h1]; simp only; rw [look_some h2 h3, List.append_nil]; rfl
    · cases q
  · rename_i ne
    obtain ⟨l, w, h1, h2⟩ := opv_in hX ha hb q
    refine ⟨l, w, ?_, h2⟩
    unfold opInD
    rw [hb.ndct fun ps z => ne ps z]
    cases keyW a <;> exact h1
theorem opv_notInD : OPV opNotInD vNotInD := by
  intro st X a b d e r hX ha hb q
  unfold vNotInD at q
  split at q
  · rename_i ps
    split at q
    · rename_i k hk
      cases q
      obtain ⟨n, kvs, rfl, h1, h2, h3⟩ := hb.dct
      refine ⟨[], .bl (!(lookD ps k).isSome), ?_, .bl _⟩
      unfold opNotInD
      rw [ha.key, hk, h1]; simp only; rw [look_some h2 h3, List.append_nil]; rfl
    · cases q
  · rename_i ne
    obtain ⟨l, w, h1, h2⟩ := opv_notIn hX ha hb q
    refine ⟨l, w, ?_, h2⟩
    unfold opNotInD
    rw [hb.ndct fun ps z => ne ps z]
    cases keyW a <;> exact h1
def vIxD : D → D → Option D := fun d e => match d with
  | .dict ps => (match keyD e with
    | some k => lookD ps k
    | none => none)
  | d => vIx d e
theorem opv_ixD : OPV opIxD vIxD := by
  intro st X a b d e r hX ha hb q
  unfold vIxD at q
  split at q
  · rename_i ps
    split at q
    · rename_i k hk
      obtain ⟨n, kvs, rfl, h1, h2, h3⟩ := ha.dct
      rcases lookd_rx (k := k) h2 h3 with ⟨z, _⟩ | ⟨w, d, z1, z2, z3⟩
      · rw [q] at z; cases z
      · rw [q] at z1; cases z1
        refine ⟨[], w, ?_, z3.app []⟩
        unfold opIxD
        rw [hb.key, hk, h1]; simp only; rw [z2, List.append_nil]; rfl
    · cases q
  · rename_i ne
    obtain ⟨l, w, h1, h2⟩ := opv_ix hX ha hb q
    refine ⟨l, w, ?_, h2⟩
    unfold opIxD
    rw [ha.ndct fun ps z => ne ps z]
    exact h1
/-! ### d[k] = v -/
def putP (k : NestedKey) (d : D) (p : D × D) : D × D := if nkD p.1 = some k then (p.1, d) else p
def storeD (ps : List (D × D)) (kd : D) (k : NestedKey) (d : D) : List (D × D) := if (lookD ps k).isSome then ps.map (putP k d) else ps ++ [(kd, d)]
section
variable {st : Sto} {X : XS}
theorem put_rx {k : NestedKey} {w : W} {d : D} (rw' : RX st X w d) : ∀ {kvs : List (W × W)} {ps : List (D × D)}, RXs st X (kvs.map (·.1)) (ps.map (·.1)) → RXs st X (kvs.map (·.2)) (ps.map (·.2)) → RXs st X ((kvs.map (putW k w)).map (·.1)) ((ps.map (putP k d)).map (·.1)) ∧ RXs st X ((kvs.map (putW k w)).map (·.2)) ((ps.map (putP k d)).map (·.2))
  | [], [], _, _ => ⟨.nil, .nil⟩
  | [], _ :: _, h, _ => by cases h
  | _ :: _, [], h, _ => by cases h
  | p :: kvs, q :: ps, .cons a b, .cons c e => by
    obtain ⟨i1, i2⟩ := put_rx (k := k) rw' b e
    have hn := a.nk
    simp only [List.map_cons]
    by_cases z : nkD q.1 = some k
    · have e1 : putW k w p = (p.1, w) := by unfold putW; rw [if_pos (by rw [hn]; exact z)]
      have e2 : putP k d q = (q.1, d) := by unfold putP; rw [if_pos z]
      rw [e1, e2]; exact ⟨.cons a i1, .cons rw' i2⟩
    · have e1 : putW k w p = p := by unfold putW; rw [if_neg (by rw [hn]; exact z)]
      have e2 : putP k d q = q := by unfold putP; rw [if_neg z]
      rw [e1, e2]; exact ⟨.cons a i1, .cons c i2⟩
theorem store_rx {k : NestedKey} {kw w : W} {kd d : D} (rk : RX st X kw kd) (rw' : RX st X w d) {kvs : List (W × W)} {ps : List (D × D)} (h1 : RXs st X (kvs.map (·.1)) (ps.map (·.1))) (h2 : RXs st X (kvs.map (·.2)) (ps.map (·.2))) :
    RXs st X ((storeW kvs kw k w).map (·.1)) ((storeD ps kd k d).map (·.1)) ∧ RXs st X ((storeW kvs kw k w).map (·.2)) ((storeD ps kd k d).map (·.2)) := by
  unfold storeW storeD
  rw [look_some h1 h2]
  split
  · exact put_rx rw' h1 h2
  · simp only [List.map_append]
    exact ⟨h1.append (.cons rk .nil), h2.append (.cons rw' .nil)⟩
theorem store_ne {ps : List (D × D)} {kd d : D} {k : NestedKey} : storeD ps kd k d ≠ [] := by
  unfold storeD
  split
  · rename_i h
    cases ps with
    | nil => cases h
    | cons p ps => simp
  · simp
theorem store_obx {kvs : List (W × W)} {ps : List (D × D)} (hn : ps ≠ []) (h1 : RXs st X (kvs.map (·.1)) (ps.map (·.1))) (h2 : RXs st X (kvs.map (·.2)) (ps.map (·.2))) : ObX st X (.dct kvs) (.dict ps) := by
  cases ps with
  | nil => exact absurd rfl hn
  | cons p ps => exact ⟨h1, h2⟩
end
theorem rxs_len {st : Sto} {X : XS} {kvs : List (W × W)} {ps : List (D × D)} (h : RXs st X (kvs.map (·.1)) (ps.map (·.1))) : kvs.length = ps.length := by have := h.length; simpa using this
def vPutKD (i : Nat) (d : D) (kd : D) : VSM := fun v => match v[i]? with
  | some (some (true, .dict ps)) => (match keyD kd with
    | some k => if szW (ps.length + 1) then some (.nx, v.set i (some (true, .dict (storeD ps kd k d)))) else none
    | none => none)
  | _ => none
def vPutD (i : Nat) (gi ge : VM D) : VSM := fun v => vbS (ge v) fun d v => match v[i]? with
  | some (some (true, _)) => vbS (gi v) (vPutKD i d)
  | _ => none
section
variable {F : Fr} {p p1 p2 : Bool}
theorem vs_putD {i : Nat} {fi fe : FE} {gi ge : VM D} (hk : VJ F p1 rE fi gi) (he : VJ F p2 rE fe ge) : VSj F (fPutA (fVar i) fi fe) (vPutD i gi ge) := fun X st env v fl v' E e =>
  SCn.bind (fun r v' q => he X st env v r v' E q) e fun a d s1 v1 ev1 E1 k1 pu ra e => by
    split at e
    · rename_i d0 hd0
      obtain ⟨n, hn, _⟩ := E1.own i d0 hd0
      have hv : fVar i env s1 = some (.ok (.ref n), s1) := by unfold fVar; rw [hn]; rfl
      rw [hv]
      refine SCn.after ev1 (fun k z => .inl z) ?_
      refine SCn.bind (p := p1) (r1 := rE) (L := s1.length) (kf := fun k st => (putA (.ref n) k a st).map fun st => (.nx, env, st)) (fun r v' q => hk X s1 env v1 r v' E1 q) e fun kw kd s2 v2 ev2 E2 k2 pu2 rk e => ?_
      unfold vPutKD at e
      split at e
      · rename_i ps hd
        split at e
        · rename_i k hk
          split at e
          · rename_i hz
            cases e
            obtain ⟨m, hm, xm, ow, _⟩ := E2.own i _ hd
            rw [hn] at hm; cases hm
            obtain ⟨n', kvs, e0, q1, q2, q3⟩ := Top.dct (.inr ⟨_, rfl, xm, ow⟩)
            cases e0
            have rk : RX s2 X kw kd := rk
            have ra2 : RX s2 X a d := ev2.rx ra
            obtain ⟨s1', s2'⟩ := store_rx (k := k) rk ra2 q2 q3
            have e1 : putA (.ref n) kw a s2 = some (s2.set n (.dct (storeW kvs kw k a))) := by
              have : putD (.ref n) kw a s2 = some (s2.set n (.dct (storeW kvs kw k a))) := by
                unfold putD
                rw [q1, rk.key, hk]; simp only; rw [rxs_len q2, if_pos hz]
              unfold putA
              rw [this]
            obtain ⟨E3, ev3⟩ := E2.writeO hd hn (store_obx store_ne s1' s2')
            exact ⟨.nx, env, _, X, by rw [e1]; rfl, ev2.trans ev3, fun k z => .inl z, E3, trivial⟩
          · cases e
        · cases e
      · cases e
    · cases e
theorem vj_empF : VJ F true rF fEmp vEmp := fun X st env v r v' E e => by
  cases e
  exact .ok E [.emp] ⟨.emp (by simp) fun z => Nat.lt_irrefl _ (E.x _ z).1, _, rfl, Nat.le_refl _⟩
/-! a, b = e1, e2 -/
def vPar (i j : Nat) (g : VM (List D)) : VSM := fun v => vbS (g v) fun ds v => match ds with
  | [a, b] => some (.nx, (v.set i (some (false, a))).set j (some (false, b)))
  | _ => none
theorem vs_par {i j : Nat} {f : FA} {g : VM (List D)} (h1 : Z0 F i) (h2 : Z0 F j) (h : VJ F p rA f g) : VSj F (fPar i j f) (vPar i j g) := fun X st env v fl v' E e =>
  SCn.bind (fun r v' q => h X st env v r v' E q) e fun as ds s1 v1 ev1 E1 k1 pu ra e => by
    split at e
    · cases e
      have ra : RXs s1 X as [_, _] := ra
      cases ra with
      | cons a b =>
        cases b with
        | cons b c =>
          cases c
          exact ⟨.nx, _, s1, X, rfl, ev1, fun k z => .inl z, (E1.set h1 a).set h2 b, trivial⟩
    · cases e
end
end DV

namespace DV
open PySem DI
/-! ### sorted -/
abbrev leD (d e : D) : Bool := !PySem.W.dataLt e d
def keysV : D → Option (List D)
  | .list ds => some ds
  | .dict ps => some (ps.map (·.1))
  | _ => none
def vSorted (d : D) : Option D := match keysV d with
  | some ds => if sortOk ds && szW ds.length then some (.list (isort leD ds)) else none
  | none => none
theorem insO_map {α β : Type} {le : α → α → Bool} {le' : β → β → Bool} (f : α → β) (h : ∀ a b, le a b = le' (f a) (f b)) (a : α) : ∀ l : List α, (insO le a l).map f = insO le' (f a) (l.map f)
  | [] => rfl
  | b :: t => by
    show (if le a b then a :: b :: t else b :: insO le a t).map f = (if le' (f a) (f b) then f a :: f b :: t.map f else f b :: insO le' (f a) (t.map f))
    rw [h]
    split
    · rfl
    · show f b :: (insO le a t).map f = _; rw [insO_map f h a t]
theorem isort_map {α β : Type} {le : α → α → Bool} {le' : β → β → Bool} (f : α → β) (h : ∀ a b, le a b = le' (f a) (f b)) : ∀ l : List α, (isort le l).map f = isort le' (l.map f)
  | [] => rfl
  | a :: l => by show (insO le a (isort le l)).map f = insO le' (f a) (isort le' (l.map f)); rw [insO_map f h, isort_map f h l]
section
variable {st : Sto} {X : XS}
theorem RXs.pairs : ∀ {ws : List W} {ds : List D}, RXs st X ws ds → ∀ p ∈ ws.zip ds, RX st X p.1 p.2
  | _, _, .nil, p, h => by cases h
  | _, _, .cons a b, p, h => by
    rcases List.mem_cons.mp h with rfl | h
    · exact a
    · exact RXs.pairs b p h
theorem rxs_of_pairs : ∀ {l : List (W × D)}, (∀ p ∈ l, RX st X p.1 p.2) → RXs st X (l.map (·.1)) (l.map (·.2))
  | [], _ => .nil
  | p :: l, h => .cons (h p List.mem_cons_self) (rxs_of_pairs fun q hq => h q (List.mem_cons_of_mem _ hq))
theorem RXs.sort {ws : List W} {ds : List D} (r : RXs st X ws ds) : RXs st X ((isort leW (ws.zip ds)).map (·.1)) (isort leD ds) := by
  have e : (isort leW (ws.zip ds)).map (·.2) = isort leD ds := by
    rw [isort_map (le' := leD) (fun p : W × D => p.2) (fun a b => rfl), zip_snd_len r.length]
  rw [← e]
  exact rxs_of_pairs fun p hp => r.pairs p ((isort_perm _).mem_iff.mp hp)
theorem Top.els {w : W} {d : D} {ds : List D} (h : Top st X w d) (hd : keysV d = some ds) : ∃ es, elsOf w st = some es ∧ RXs st X es ds := by
  cases d with
  | list xs =>
    cases hd
    obtain ⟨ws, n, r, rfl, e⟩ := h.list
    exact ⟨ws, by unfold elsOf; simp only; rw [e], r⟩
  | dict ps =>
    cases hd
    obtain ⟨n, rfl, hh⟩ := h.dict
    rcases hh with ⟨e, rfl⟩ | ⟨kvs, e, _, r, s⟩
    · exact ⟨[], by unfold elsOf; simp only; rw [e], .nil⟩
    · exact ⟨kvs.map (·.1), by unfold elsOf; simp only; rw [e], r⟩
  | _ => cases hd
end
theorem depthAll_le' {ds : List D} {n : Nat} (h : ∀ x ∈ ds, x.depth ≤ n) : PyData.depthAll ds ≤ n := by
  induction ds with
  | nil => exact Nat.zero_le _
  | cons d ds ih => exact Nat.max_le.mpr ⟨h d List.mem_cons_self, ih fun x hx => h x (List.mem_cons_of_mem _ hx)⟩
theorem ocf_sorted : OC1F opSorted vSorted := by
  intro st X w d r hX h q
  unfold vSorted at q
  split at q
  · rename_i ds hd
    split at q
    · rename_i hz
      rw [Bool.and_eq_true] at hz
      cases q
      obtain ⟨es, e1, rs⟩ := h.els hd
      have hdp := (sortOk_ok hz.1).2.2
      have td : allD (toD st 22) es = some ds := rs.toD (Nat.lt_of_le_of_lt (depthAll_le' hdp) (by decide))
      refine ⟨[.lst ((isort leW (es.zip ds)).map (·.1))], ?_, rx_new hX rs.sort⟩
      unfold opSorted
      simp only
      rw [e1]; simp only
      rw [td]; simp only
      have hl : szW es.length = true := by rw [rs.length]; exact hz.2
      rw [hz.1, hl]; rfl
    · cases q
  · cases q
end DV

namespace DV
open PySem DI
/-! ### targets -/
abbrev VTg := D → VEnv → Option VEnv
abbrev VTgs := List D → VEnv → Option VEnv
def vtN (j : Nat) : VTg := fun d v => some (v.set j (some (false, d)))
def vt0 : VTgs := fun ds v => match ds with
  | [] => some v
  | _ => none
def vtC (t : VTg) (u : VTgs) : VTgs := fun ds v => match ds with
  | d :: r => (match t d v with
    | some v' => u r v'
    | none => none)
  | [] => none
def vtT (n : Nat) (u : VTgs) : VTg := fun d v => match d with
  | .tuple ds => if ds.length = n then u ds v else none
  | _ => none
def VTR (F : Fr) (js : List Nat) (t : Tg) (u : VTg) : Prop := ∀ {X : XS} {st : Sto} {env : Evn} {v v' : VEnv} {w : W} {d : D}, EnvV F X st env v → RX st X w d → u d v = some v' → ∃ env', t w env = some env' ∧ EnvV F X st env' v' ∧ wipeE env' js = wipeE env js
def VTsR (F : Fr) (js : List Nat) (t : Tgs) (u : VTgs) : Prop := ∀ {X : XS} {st : Sto} {env : Evn} {v v' : VEnv} {ws : List W} {ds : List D}, EnvV F X st env v → RXs st X ws ds → u ds v = some v' → ∃ env', t ws env = some env' ∧ EnvV F X st env' v' ∧ wipeE env' js = wipeE env js
theorem wipeE_length (env : Evn) : ∀ js : List Nat, (wipeE env js).length = env.length
  | [] => rfl
  | j :: js => by show ((wipeE env js).set j none).length = _; rw [List.length_set, wipeE_length]
theorem wipeE_out {env : Evn} {i : Nat} : ∀ {js : List Nat}, i ∉ js → (wipeE env js)[i]? = env[i]?
  | [], _ => rfl
  | j :: js, h => by
    show ((wipeE env js).set j none)[i]? = _
    rw [List.getElem?_set_ne (fun z : j = i => h (by rw [z]; exact List.mem_cons_self)), wipeE_out fun z => h (List.mem_cons_of_mem _ z)]
theorem wipeE_at {env : Evn} {i : Nat} : ∀ {js : List Nat}, i ∈ js → i < env.length → (wipeE env js)[i]? = some none
  | [], h, _ => by cases h
  | j :: js, h, hl => by
    show ((wipeE env js).set j none)[i]? = _
    by_cases q : j = i
    · subst q; exact List.getElem?_set_self (by rw [wipeE_length]; exact hl)
    · rw [List.getElem?_set_ne q]
      exact wipeE_at ((List.mem_cons.mp h).resolve_left fun z => q z.symm) hl
theorem wipeE_in {env : Evn} {j : Nat} {o : Option W} {js : List Nat} (h : j ∈ js) : wipeE (env.set j o) js = wipeE env js := by
  apply List.ext_getElem?
  intro i
  by_cases q : i ∈ js
  · by_cases l : i < env.length
    · rw [wipeE_at q (by simpa using l), wipeE_at q l]
    · rw [List.getElem?_eq_none (by rw [wipeE_length]; simp; omega), List.getElem?_eq_none (by rw [wipeE_length]; omega)]
  · rw [wipeE_out q, wipeE_out q, List.getElem?_set_ne fun z : j = i => q (by rw [← z]; exact h)]
section
variable {F : Fr} {p p1 p2 : Bool} {js : List Nat}
theorem vtr_name {j : Nat} (h0 : Z0 F j) (hj : j ∈ js) : VTR F js (tgN j) (vtN j) := by
  intro X st env v v' w d E r e
  cases e
  exact ⟨_, rfl, E.set h0 r, wipeE_in hj⟩
theorem vtsr_nil : VTsR F js tg0 vt0 := by
  intro X st env v v' ws ds E r e
  unfold vt0 at e
  split at e
  · cases e; cases r; exact ⟨env, rfl, E, rfl⟩
  · cases e
theorem vtsr_cons {t : Tg} {ts : Tgs} {u : VTg} {us : VTgs} (h : VTR F js t u) (hs : VTsR F js ts us) : VTsR F js (tgC t ts) (vtC u us) := by
  intro X st env v v' ws ds E r e
  unfold vtC at e
  split at e
  · rename_i d r'
    split at e
    · rename_i v1 e1
      cases r with
      | cons a b =>
        obtain ⟨env1, h1, E1, k1⟩ := h E a e1
        obtain ⟨env2, h2, E2, k2⟩ := hs E1 b e
        exact ⟨env2, by unfold tgC; simp only; rw [h1]; exact h2, E2, k2.trans k1⟩
    · cases e
  · cases e
theorem vtr_tup {n : Nat} {ts : Tgs} {us : VTgs} (h : VTsR F js ts us) : VTR F js (tgT n ts) (vtT n us) := by
  intro X st env v v' w d E r e
  unfold vtT at e
  split at e
  · rename_i ds
    split at e
    · rename_i hn
      cases r with
      | tup rs =>
        obtain ⟨env1, h1, E1, k1⟩ := h E rs e
        exact ⟨env1, by unfold tgT; simp only; rw [if_pos (by rw [rs.length]; exact hn)]; exact h1, E1, k1⟩
    · cases e
  · cases e
/-! ### a, b = e -/
def vUnp (g : VM D) (u : VTg) : VSM := fun v => vbS (g v) fun d v => (u d v).map fun v' => (.nx, v')
theorem vs_unp {f : FE} {g : VM D} {t : Tg} {u : VTg} (h : VJ F p rE f g) (ht : VTR F js t u) : VSj F (fUnpG f t) (vUnp g u) := fun X st env v fl v' E e =>
  SCn.bind (fun r v' q => h X st env v r v' E q) e fun a d s1 v1 ev1 E1 k1 pu ra e => by
    cases q : u d v1 with
    | none => rw [q] at e; cases e
    | some v2 =>
      rw [q] at e; cases e
      obtain ⟨env', h1, E2, _⟩ := ht E1 ra q
      exact ⟨.nx, env', s1, X, by rw [h1]; rfl, ev1, fun k z => .inl z, E2, trivial⟩
/-! ### what is walked -/
def rSrc (F : Fr) : Re (Gt × Nat) (List D) := fun _ st X g ds => Src (Yf F X) X g.1 st ds ∧ g.2 = ds.length
def rSrc0 : Re (Gt × Nat) (List D) := fun _ st X g ds => Src N0 X g.1 st ds ∧ g.2 = ds.length
theorem dn_S : Dn (rSrc F) := fun _ _ _ _ _ _ _ h => h
theorem dn_S0 : Dn rSrc0 := fun _ _ _ _ _ _ _ h => h
def vItems (g : VM D) : VM (List D) := fun v => vbnd (g v) fun d v => match itemsV d with
  | some ds => some (.ok ds, v)
  | none => none
theorem vi_val {f : FE} {g : VM D} (h : VJ F p rE f g) : VJ F (p && true) (rSrc F) (fiV f) (vItems g) := fun X st env v r v' E e =>
  Cn.bind (fun r v' q => h X st env v r v' E q) e fun a d s1 v1 ev1 E1 k1 ra e => by
    split at e
    · rename_i ds hd
      cases e
      obtain ⟨h1, h2⟩ := src_of (F := F) ra hd
      rw [h2]
      exact .ok0 E1 ⟨h1, rfl⟩
    · cases e
theorem vi_valO {f : FE} {g : VM D} (h : VJ F p rO f g) : VJ F (p && true) rSrc0 (fiV f) (vItems g) := fun X st env v r v' E e =>
  Cn.bind (fun r v' q => h X st env v r v' E q) e fun a d s1 v1 ev1 E1 k1 ra e => by
    split at e
    · rename_i ds hd
      cases e
      obtain ⟨h1, h2⟩ := src_top ra hd
      rw [h2]
      exact .ok0 E1 ⟨h1, rfl⟩
    · cases e
def enD : Nat → List D → List D
  | _, [] => []
  | i, d :: ds => .tuple [.int (i : Nat), d] :: enD (i + 1) ds
def enW : Nat → List W → List W
  | _, [] => []
  | i, d :: ds => .tup [.int (i : Nat), d] :: enW (i + 1) ds
theorem enD_len : ∀ (i : Nat) (ds : List D), (enD i ds).length = ds.length
  | _, [] => rfl
  | i, d :: ds => by simp [enD, enD_len (i + 1) ds]
theorem en_rx {st : Sto} {X : XS} : ∀ {ws : List W} {ds : List D} (i : Nat), RXs st X ws ds → RXs st X (enW i ws) (enD i ds)
  | _, _, _, .nil => .nil
  | _, _, i, .cons a b => .cons (.tup (.cons (.int _) (.cons a .nil))) (en_rx (i + 1) b)
theorem enW_get : ∀ (k : Nat) (ws : List W) (i : Nat), (enW k ws)[i]? = (ws[i]?).map fun w => W.tup [.int ((k + i : Nat) : Int), w]
  | _, [], i => by simp [enW]
  | k, w :: ws, 0 => by simp [enW]
  | k, w :: ws, i + 1 => by
    show (enW (k + 1) ws)[i]? = (ws[i]?).map _
    rw [enW_get (k + 1) ws i]
    have : k + 1 + i = k + (i + 1) := by omega
    rw [this]
theorem src_en {Y X : XS} {G : Gt} {st : Sto} {ds : List D} (h : Src Y X G st ds) : Src Y X (enG G) st (enD 0 ds) := by
  obtain ⟨ws, r, hG⟩ := h
  refine ⟨enW 0 ws, en_rx 0 r, fun st' ev i => ?_⟩
  unfold enG
  rw [hG st' ev i, enW_get]
  cases ws[i]? with
  | none => rfl
  | some w => simp
def vItemsE (g : VM D) : VM (List D) := fun v => vbnd (g v) fun d v => match seqV d with
  | some ds => some (.ok (enD 0 ds), v)
  | none => none
theorem seq_items {d : D} {ds : List D} (h : seqV d = some ds) : itemsV d = some ds := by cases d <;> first | exact h | cases h
theorem seq_w {st : Sto} {X : XS} {w : W} {d : D} {ds : List D} (r : Top st X w d) (h : seqV d = some ds) : (∀ x, w ≠ .str x) ∧ ∀ x, w ≠ .ils x := by
  obtain ⟨_, r⟩ := r.rx
  cases r <;> first | (cases h; done) | exact ⟨fun _ z => (by cases z), fun _ z => (by cases z)⟩
theorem en_at {a : W} {s1 : Sto} {n : Nat} (h : cnt a s1 = some n) (n1 : ∀ x, a ≠ .str x) (n2 : ∀ x, a ≠ .ils x) : enOf a s1 = some (.ok (enG (gOf a), n), s1) := by
  unfold enOf
  split
  · exact absurd rfl (n1 _)
  · exact absurd rfl (n2 _)
  · rw [h]; rfl
theorem vi_enum {f : FE} {g : VM D} (h : VJ F p rE f g) : VJ F (p && true) (rSrc F) (fiE f) (vItemsE g) := fun X st env v r v' E e =>
  Cn.bind (fun r v' q => h X st env v r v' E q) e fun a d s1 v1 ev1 E1 k1 ra e => by
    split at e
    · rename_i ds hd
      cases e
      obtain ⟨h1, h2⟩ := src_of (F := F) ra (seq_items hd)
      obtain ⟨n1, n2⟩ := seq_w (.inl ra) hd
      rw [en_at h2 n1 n2]
      exact .ok0 E1 ⟨src_en h1, (enD_len 0 ds).symm⟩
    · cases e
theorem vi_enumO {f : FE} {g : VM D} (h : VJ F p rO f g) : VJ F (p && true) rSrc0 (fiE f) (vItemsE g) := fun X st env v r v' E e =>
  Cn.bind (fun r v' q => h X st env v r v' E q) e fun a d s1 v1 ev1 E1 k1 ra e => by
    split at e
    · rename_i ds hd
      cases e
      obtain ⟨h1, h2⟩ := src_top ra (seq_items hd)
      obtain ⟨n1, n2⟩ := seq_w ra hd
      rw [en_at h2 n1 n2]
      exact .ok0 E1 ⟨src_en h1, (enD_len 0 ds).symm⟩
    · cases e
/-! ### for -/
def vloopG (u : VTg) (b : VSM) : List D → VSM
  | [], v => some (.nx, v)
  | d :: ds, v => match u d v with
    | none => none
    | some v0 => match b v0 with
      | some (.nx, v1) => vloopG u b ds v1
      | some (.ct, v1) => vloopG u b ds v1
      | some (.bk, v1) => some (.nx, v1)
      | o => o
theorem loopG_sc {X0 : XS} {st0 : Sto} {G : Gt} {ws : List W} {t : Tg} {u : VTg} {fb : FS} {gb : VSM} (hb : VSj F fb gb) (ht : VTR F js t u) (hG : ∀ st', Ev (Yf F X0) st0 st' → ∀ i, G st' i = some ws[i]?) :
    ∀ (ds : List D) (i : Nat) (X : XS) (st : Sto) (env : Evn) (v : VEnv) (fl : VFl) (v' : VEnv), i + ds.length = ws.length → RXs st X (ws.drop i) ds → Ev (Yf F X0) st0 st → (∀ k, X k → X0 k ∨ st0.length ≤ k) → EnvV F X st env v → vloopG u gb ds v = some (fl, v') → SCn F X st (loopG G t fb (ds.length + 1) i env st) fl v'
  | [], i, X, st, env, v, fl, v', hi, rd, ev, gr, E, e => by
    cases e
    refine ⟨.nx, env, st, X, ?_, .refl, fun k z => .inl z, E, trivial⟩
    unfold loopG
    rw [hG st ev i, List.getElem?_eq_none (by simp at hi; omega)]
  | d :: ds, i, X, st, env, v, fl, v', hi, rd, ev, gr, E, e => by
    have hlt : i < ws.length := by simp at hi; omega
    have dr : ws.drop i = ws[i] :: ws.drop (i + 1) := List.drop_eq_getElem_cons hlt
    rw [dr] at rd
    cases rd with
    | cons ra rr =>
      have stG : G st i = some (some ws[i]) := by rw [hG st ev i, List.getElem?_eq_getElem hlt]
      unfold vloopG at e
      split at e
      · cases e
      · rename_i v0 hu
        obtain ⟨env0, t1, E1, _⟩ := ht E ra hu
        have nxt : ∀ {v1 env1 s1 X1}, Ev (Yf F X) st s1 → (∀ k, X1 k → X k ∨ st.length ≤ k) → EnvV F X1 s1 env1 v1 → vloopG u gb ds v1 = some (fl, v') → SCn F X st (loopG G t fb (ds.length + 1) (i + 1) env1 s1) fl v' := fun {v1 env1 s1 X1} ev1 gr1 E2 e => by
          refine SCn.after ev1 gr1 (loopG_sc hb ht hG ds (i + 1) X1 s1 env1 v1 fl v' (by simp at hi ⊢; omega) (rr.to fun k o q n => ⟨ev1.2 k o q fun z => n z.1, fun z => (gr1 k z).elim n fun q2 => absurd (List.getElem?_eq_some_iff.mp q).1 (Nat.not_lt.mpr q2)⟩) (ev_comp ev gr ev1) (gr_comp ev.1 gr gr1) E2 e)
        have step : ∀ o, fb env0 st = o → loopG G t fb ((d :: ds).length + 1) i env st = (match o with
            | some (.nx, env1, st1) => loopG G t fb (ds.length + 1) (i + 1) env1 st1
            | some (.ct, env1, st1) => loopG G t fb (ds.length + 1) (i + 1) env1 st1
            | some (.bk, env1, st1) => some (.nx, env1, st1)
            | o => o) := fun o q => by
          show loopG G t fb ((ds.length + 1) + 1) i env st = _
          rw [loopG, stG]; simp only; rw [t1]; simp only; rw [q]
          all_goals (
            rcases o with _ | ⟨f, e1, s1⟩
            · rfl
            · cases f <;> rfl)
        split at e
        · rename_i v1 q
          obtain ⟨fl', env1, s1, X1, a, b, c, g, h⟩ := hb X st _ _ _ _ E1 q
          cases fl' with
          | nx => rw [step _ a]; exact nxt b c g e
          | _ => exact h.elim
        · rename_i v1 q
          obtain ⟨fl', env1, s1, X1, a, b, c, g, h⟩ := hb X st _ _ _ _ E1 q
          cases fl' with
          | ct => rw [step _ a]; exact nxt b c g e
          | _ => exact h.elim
        · rename_i v1 q
          cases e
          obtain ⟨fl', env1, s1, X1, a, b, c, g, h⟩ := hb X st _ _ _ _ E1 q
          cases fl' with
          | bk => rw [step _ a]; exact ⟨.nx, env1, s1, X1, rfl, b, c, g, trivial⟩
          | _ => exact h.elim
        · rename_i n1 n2 n3
          obtain ⟨fl', env1, s1, X1, a, b, c, g, h⟩ := hb X st _ _ _ _ E1 e
          refine ⟨fl', env1, s1, X1, ?_, b, c, g, h⟩
          rw [step _ a]
          cases fl' with
          | nx => cases fl with | nx => exact absurd e (n1 v') | _ => exact h.elim
          | ct => cases fl with | ct => exact absurd e (n2 v') | _ => exact h.elim
          | bk => cases fl with | bk => exact absurd e (n3 v') | _ => exact h.elim
          | rt w => rfl
          | exc x => rfl
def vForG (gi : VM (List D)) (u : VTg) (b : VSM) : VSM := fun v => vbS (gi v) fun ds v => vloopG u b ds v
theorem vs_forG {fi : FI} {gi : VM (List D)} {t : Tg} {u : VTg} {fb : FS} {gb : VSM} (hi : VJ F p (rSrc F) fi gi) (ht : VTR F js t u) (hb : VSj F fb gb) : VSj F (fForG fi t fb) (vForG gi u gb) := fun X st env v fl v' E e =>
  SCn.bind (fun r v' q => hi X st env v r v' E q) e fun a ds s1 v1 ev1 E1 k1 pu ra e => by
    obtain ⟨⟨ws, h1, h2⟩, h3⟩ := ra
    show SCn F X st (loopG a.1 t fb (a.2 + 1) 0 env s1) fl v'
    rw [h3]
    exact (loopG_sc hb ht h2 ds 0 X s1 env v1 fl v' (by rw [h1.length]; simp) h1 .refl (fun k z => .inl z) E1 e).after ev1 fun k z => .inl z
/-! ### [e for target in iterator if t] -/
def wipeV (v : VEnv) : List Nat → VEnv
  | [] => v
  | j :: js => (wipeV v js).set j none
def restV (v : VEnv) : List Nat → VEnv → VEnv
  | [], u => u
  | j :: js, u => (restV v js u).set j (v.getD j none)
def vlcG (js : List Nat) (u : VTg) (t : VM Bool) (f : VM D) : List D → List D → VM (List D)
  | [], acc, v => if szW acc.length then some (.ok acc, v) else none
  | d :: ds, acc, v => match u d (wipeV v js) with
    | none => none
    | some v0 => match t v0 with
      | some (.ok true, v1) => match f v1 with
        | some (.ok y, v2) => if szW acc.length then vlcG js u t f ds (acc ++ [y]) v2 else none
        | _ => none
      | some (.ok false, v1) => vlcG js u t f ds acc v1
      | _ => none
def noOw (v : VEnv) (j : Nat) : Bool := match v.getD j none with
  | some (true, _) => false
  | _ => true
def vLcIG (js : List Nat) (u : VTg) (t : VM Bool) (f : VM D) (ds : List D) : VM D := fun v => if js.all (noOw v) then (match vlcG js u t f ds [] v with
    | some (.ok r, v2) => some (.ok (.list r), restV v js v2)
    | _ => none) else none
theorem EnvV.drops {X : XS} {st : Sto} {env : Evn} {v : VEnv} (E : EnvV F X st env v) : ∀ {js : List Nat}, (∀ j ∈ js, Z0 F j) → EnvV F X st (wipeE env js) (wipeV v js)
  | [], _ => E
  | j :: js, h => (E.drops fun k hk => h k (List.mem_cons_of_mem _ hk)).drop (h j List.mem_cons_self)
def restE (env : Evn) : List Nat → Evn → Evn
  | [], u => u
  | j :: js, u => (restE env js u).set j (env.getD j none)
theorem EnvV.rests {X : XS} {st st' : Sto} {env env1 : Evn} {v v1 : VEnv} (E0 : EnvV F X st env v) (ev : Ev (Yf F X) st st') (E1 : EnvV F X st' env1 v1) : ∀ {js : List Nat}, (∀ j ∈ js, Z0 F j) → (∀ j ∈ js, noOw v j = true) → EnvV F X st' (restE env js env1) (restV v js v1)
  | [], _, _ => E1
  | j :: js, h0, hn => by
    have ih := E0.rests ev E1 (js := js) (fun k hk => h0 k (List.mem_cons_of_mem _ hk)) (fun k hk => hn k (List.mem_cons_of_mem _ hk))
    refine ih.put (X' := X) (h0 j List.mem_cons_self) ih.x (fun k z => (ih.b k z).1) (fun _ _ _ _ _ _ r => r) (fun _ _ _ _ _ _ a b => ⟨a, b⟩) (fun d q => ?_) (fun d q => ?_)
    · have hv : v[j]? = some (some (false, d)) := by
        rw [List.getD_eq_getElem?_getD] at q
        cases z : v[j]? with
        | none => rw [z] at q; cases q
        | some y => rw [z] at q; have q : y = some (false, d) := q; rw [q]
      obtain ⟨w, a, b⟩ := E0.rd j d hv
      exact ⟨w, by rw [List.getD_eq_getElem?_getD, a]; rfl, ev.rx b⟩
    · have := hn j List.mem_cons_self
      unfold noOw at this
      rw [q] at this
      cases this
theorem restE_eq {env env1 : Evn} : ∀ {js : List Nat}, wipeE env1 js = wipeE env js → restE env js env1 = env := by
  intro js h
  have hl : env1.length = env.length := by have := congrArg List.length h; rw [wipeE_length, wipeE_length] at this; exact this
  have len : ∀ ks : List Nat, (restE env ks env1).length = env.length := fun ks => by
    induction ks with
    | nil => exact hl
    | cons k ks ih => show ((restE env ks env1).set k _).length = _; rw [List.length_set, ih]
  have key : ∀ (ks : List Nat) (i : Nat), (restE env ks env1)[i]? = if i ∈ ks then env[i]? else env1[i]? := fun ks => by
    induction ks with
    | nil => intro i; simp [restE]
    | cons k ks ih =>
      intro i
      show ((restE env ks env1).set k (env.getD k none))[i]? = _
      by_cases q : k = i
      · subst q
        rw [if_pos List.mem_cons_self]
        by_cases l : k < env.length
        · rw [List.getElem?_set_self (by rw [len]; exact l), List.getD_eq_getElem?_getD, List.getElem?_eq_getElem l]; rfl
        · rw [List.getElem?_eq_none (by rw [List.length_set, len]; omega), List.getElem?_eq_none (by omega)]
      · rw [List.getElem?_set_ne q, ih i]
        by_cases z : i ∈ ks
        · rw [if_pos z, if_pos (List.mem_cons_of_mem _ z)]
        · rw [if_neg z, if_neg fun y => (List.mem_cons.mp y).elim (fun y => q y.symm) z]
  apply List.ext_getElem?
  intro i
  rw [key js i]
  by_cases z : i ∈ js
  · rw [if_pos z]
  · rw [if_neg z]
    have := congrArg (fun l => l[i]?) h
    simp only [wipeE_out z] at this
    exact this
theorem wipeV_length (v : VEnv) : ∀ js : List Nat, (wipeV v js).length = v.length
  | [] => rfl
  | j :: js => by show ((wipeV v js).set j none).length = _; rw [List.length_set, wipeV_length]
theorem wipeV_out {v : VEnv} {i : Nat} : ∀ {js : List Nat}, i ∉ js → (wipeV v js)[i]? = v[i]?
  | [], _ => rfl
  | j :: js, h => by
    show ((wipeV v js).set j none)[i]? = _
    rw [List.getElem?_set_ne (fun z : j = i => h (by rw [z]; exact List.mem_cons_self)), wipeV_out fun z => h (List.mem_cons_of_mem _ z)]
theorem wipeV_at {v : VEnv} {i : Nat} {x : Bool × D} : ∀ {js : List Nat}, i ∈ js → (wipeV v js)[i]? ≠ some (some x)
  | [], h => by cases h
  | j :: js, h => by
    show ((wipeV v js).set j none)[i]? ≠ _
    by_cases q : j = i
    · subst q; intro z; cases (set_at z).1
    · rw [List.getElem?_set_ne q]
      exact wipeV_at ((List.mem_cons.mp h).resolve_left fun z => q z.symm)
theorem restV_get {v u : VEnv} (hl : u.length = v.length) : ∀ (js : List Nat) (i : Nat), (restV v js u)[i]? = if i ∈ js then v[i]? else u[i]? := fun js => by
  have len : ∀ ks : List Nat, (restV v ks u).length = v.length := fun ks => by
    induction ks with
    | nil => exact hl
    | cons k ks ih => show ((restV v ks u).set k _).length = _; rw [List.length_set, ih]
  induction js with
  | nil => intro i; simp [restV]
  | cons k ks ih =>
    intro i
    show ((restV v ks u).set k (v.getD k none))[i]? = _
    by_cases q : k = i
    · subst q
      rw [if_pos List.mem_cons_self]
      by_cases l : k < v.length
      · rw [List.getElem?_set_self (by rw [len]; exact l), List.getD_eq_getElem?_getD, List.getElem?_eq_getElem l]; rfl
      · rw [List.getElem?_eq_none (by rw [List.length_set, len]; omega), List.getElem?_eq_none (by omega)]
    · rw [List.getElem?_set_ne q, ih i]
      by_cases z : i ∈ ks
      · rw [if_pos z, if_pos (List.mem_cons_of_mem _ z)]
      · rw [if_neg z, if_neg fun y => (List.mem_cons.mp y).elim (fun y => q y.symm) z]
/-- outside of js: nothing new is written or known -/
structure VKo (js : List Nat) (v v' : VEnv) : Prop where
  len : v'.length = v.length
  rd : ∀ (j : Nat) (d : D), j ∉ js → v'[j]? = some (some (false, d)) → v[j]? = some (some (false, d))
  ow : ∀ (j : Nat) (e : D), j ∉ js → v'[j]? = some (some (true, e)) → ∃ e', v[j]? = some (some (true, e'))
theorem VKo.refl {v : VEnv} : VKo js v v := ⟨rfl, fun _ _ _ h => h, fun _ e _ h => ⟨e, h⟩⟩
theorem VKo.trans {v1 v2 v3 : VEnv} (a : VKo js v1 v2) (b : VKo js v2 v3) : VKo js v1 v3 :=
  ⟨b.len.trans a.len, fun j d n h => a.rd j d n (b.rd j d n h), fun j e n q => let ⟨e', q'⟩ := b.ow j e n q; a.ow j e' n q'⟩
theorem VK.o {v v' : VEnv} (h : VK F v v') : VKo js v v' := ⟨h.len, fun j d _ q => h.rd j d q, fun j e _ q => h.ow j e q⟩
/-- a target writes its variables alone -/
def VTw (js : List Nat) (u : VTg) : Prop := ∀ d v v', u d v = some v' → v'.length = v.length ∧ ∀ i, i ∉ js → v'[i]? = v[i]?
def VTsw (js : List Nat) (u : VTgs) : Prop := ∀ ds v v', u ds v = some v' → v'.length = v.length ∧ ∀ i, i ∉ js → v'[i]? = v[i]?
theorem vtw_name {j : Nat} (hj : j ∈ js) : VTw js (vtN j) := fun d v v' e => by cases e; exact ⟨by simp, fun i hi => List.getElem?_set_ne fun z : j = i => hi (by rw [← z]; exact hj)⟩
theorem vtsw_nil : VTsw js vt0 := fun ds v v' e => by
  unfold vt0 at e
  split at e
  · cases e; exact ⟨rfl, fun _ _ => rfl⟩
  · cases e
theorem vtsw_cons {u : VTg} {us : VTgs} (h : VTw js u) (hs : VTsw js us) : VTsw js (vtC u us) := fun ds v v' e => by
  unfold vtC at e
  split at e
  · split at e
    · rename_i v1 e1
      obtain ⟨a, b⟩ := h _ _ _ e1
      obtain ⟨c, d⟩ := hs _ _ _ e
      exact ⟨c.trans a, fun i hi => (d i hi).trans (b i hi)⟩
    · cases e
  · cases e
theorem vtw_tup {n : Nat} {us : VTgs} (h : VTsw js us) : VTw js (vtT n us) := fun d v v' e => by
  unfold vtT at e
  split at e
  · split at e
    · exact h _ _ _ e
    · cases e
  · cases e
theorem lcG_loop {X : XS} {Y : XS} {G : Gt} {t : Tg} {u : VTg} {ft : FT} {ff : FE} {gt : VM Bool} {gf : VM D} {env : Evn} {st0 : Sto} {ws : List W} (ht : VJ F p1 rQ ft gt) (hf : VJ F p2 rE ff gf) (hu : VTR F js t u) (hw : VTw js u) (h0 : ∀ j ∈ js, Z0 F j)
    (hY : ∀ s s', Ev (Yf F X) s s' → ((p1 && p2) = true → Ev N0 s s') → Ev Y s s') (hG : ∀ st', Ev Y st0 st' → ∀ i, G st' i = some ws[i]?) :
    ∀ (ds : List D) (i : Nat) (acc : List W) (accv : List D) (st : Sto) (env1 : Evn) (v : VEnv) (r : VR (List D)) (v' : VEnv), i + ds.length = ws.length → Ev Y st0 st → RXs st X (ws.drop i) ds → RXs st X acc accv → EnvV F X st env1 v → wipeE env1 js = wipeE env js → vlcG js u gt gf ds accv v = some (r, v') →
      ∃ us es st' env2, r = .ok es ∧ lcLoopG G t ft ff (wipeE env js) (ds.length + 1) i acc st = some (.ok us, st') ∧ Ev (Yf F X) st st' ∧ ((p1 && p2) = true → Ev N0 st st') ∧ RXs st' X us es ∧ EnvV F X st' env2 v' ∧ wipeE env2 js = wipeE env js ∧ VKo js v v' ∧ ((p1 && p2) = true → ∀ i, i ∉ js → v'[i]? = v[i]?)
  | [], i, acc, accv, st, env1, v, r, v', hi, e0, rd, ra, E, hwe, h => by
    unfold vlcG at h
    split at h
    · rename_i hz
      cases h
      refine ⟨acc, accv, st, env1, rfl, ?_, .refl, fun _ => .refl, ra, E, hwe, .refl, fun _ _ _ => rfl⟩
      unfold lcLoopG
      rw [hG st e0 i, List.getElem?_eq_none (by simp at hi; omega)]
      have : szW acc.length = true := by rw [ra.length]; exact hz
      simp only [this, if_true]; rfl
    · cases h
  | d :: ds, i, acc, accv, st, env1, v, r, v', hi, e0, rd, ra, E, hwe, h => by
    unfold vlcG at h
    have hlt : i < ws.length := by simp at hi; omega
    have dr : ws.drop i = ws[i] :: ws.drop (i + 1) := List.drop_eq_getElem_cons hlt
    rw [dr] at rd
    cases rd with
    | cons rw rrest =>
      have st_G : G st i = some (some ws[i]) := by rw [hG st e0 i, List.getElem?_eq_getElem hlt]
      have Ed : EnvV F X st (wipeE env js) (wipeV v js) := by rw [← hwe]; exact E.drops h0
      split at h
      · cases h
      · rename_i v0 hu0
        obtain ⟨env0, t1, E1, k1⟩ := hu Ed rw hu0
        obtain ⟨wl, wk⟩ := hw _ _ _ hu0
        have hwe0 : wipeE env0 js = wipeE env js := by
          rw [k1]
          apply List.ext_getElem?
          intro m
          by_cases z : m ∈ js
          · by_cases l : m < env.length
            · rw [wipeE_at z (by rw [wipeE_length]; exact l), wipeE_at z l]
            · rw [List.getElem?_eq_none (by rw [wipeE_length, wipeE_length]; omega), List.getElem?_eq_none (by rw [wipeE_length]; omega)]
          · rw [wipeE_out z]
        have kv0 : VKo js v v0 := ⟨by rw [wl, wipeV_length], fun j d n q => by rw [wk j n, wipeV_out n] at q; exact q, fun j e n q => by rw [wk j n, wipeV_out n] at q; exact ⟨e, q⟩⟩
        have same0 : ∀ m, m ∉ js → v0[m]? = v[m]? := fun m n => by rw [wk m n, wipeV_out n]
        split at h
        · rename_i v1 q1
          obtain ⟨r1, s1, a1, b1, c1, d1, e1, f1⟩ := ht X st _ _ _ _ E1 q1
          cases r1 with
          | exc x => exact f1.elim
          | ok b1' =>
            cases (show b1' = true from f1)
            split at h
            · rename_i y v2 q2
              split at h
              · rename_i hz
                obtain ⟨r2, s2, a2, b2, c2, d2, e2, f2⟩ := hf X s1 _ _ _ _ c1 q2
                cases r2 with
                | exc x => exact f2.elim
                | ok yw =>
                  have f2 : RX s2 X yw y := f2
                  have ev12 := b1.trans b2
                  have n12 : (p1 && p2) = true → Ev N0 st s2 := fun z => by rw [Bool.and_eq_true] at z; exact (e1 z.1).2.trans (e2 z.2).2
                  obtain ⟨us, es, s3, env3, g1, g2, g3, g4, g5, g6, g7, g8, g9⟩ := lcG_loop ht hf hu hw h0 hY hG ds (i + 1) (acc ++ [yw]) (accv ++ [y]) s2 env0 v2 r v' (by simp at hi ⊢; omega) (e0.trans (hY _ _ ev12 n12)) (ev12.rxs rrest) ((ev12.rxs ra).append (.cons f2 .nil)) c2 hwe0 h
                  refine ⟨us, es, s3, env3, g1, ?_, ev12.trans g3, fun z => (n12 z).trans (g4 z), g5, g6, g7, (kv0.trans (d1.trans d2).o).trans g8, fun z m n => ?_⟩
                  · unfold lcLoopG
                    rw [st_G]; simp only
                    rw [t1]; simp only
                    rw [a1]; simp only
                    rw [a2]; simp only
                    have : szW acc.length = true := by rw [ra.length]; exact hz
                    simp only [this, if_true]
                    exact g2
                  · rw [g9 z m n]
                    rw [Bool.and_eq_true] at z
                    rw [(e2 z.2).1, (e1 z.1).1]
                    exact same0 m n
              · cases h
            · cases h
        · rename_i v1 q1
          obtain ⟨r1, s1, a1, b1, c1, d1, e1, f1⟩ := ht X st _ _ _ _ E1 q1
          cases r1 with
          | exc x => exact f1.elim
          | ok b1' =>
            cases (show b1' = false from f1)
            have n1 : (p1 && p2) = true → Ev N0 st s1 := fun z => by rw [Bool.and_eq_true] at z; exact (e1 z.1).2
            obtain ⟨us, es, s3, env3, g1, g2, g3, g4, g5, g6, g7, g8, g9⟩ := lcG_loop ht hf hu hw h0 hY hG ds (i + 1) acc accv s1 env0 v1 r v' (by simp at hi ⊢; omega) (e0.trans (hY _ _ b1 n1)) (b1.rxs rrest) (b1.rxs ra) c1 hwe0 h
            refine ⟨us, es, s3, env3, g1, ?_, b1.trans g3, fun z => (n1 z).trans (g4 z), g5, g6, g7, (kv0.trans d1.o).trans g8, fun z m n => ?_⟩
            · unfold lcLoopG
              rw [st_G]; simp only
              rw [t1]; simp only
              rw [a1]; simp only
              exact g2
            · rw [g9 z m n]
              rw [Bool.and_eq_true] at z
              rw [(e1 z.1).1]
              exact same0 m n
        · cases h
theorem lcG_end {X : XS} {Y : XS} {G : Gt} {t : Tg} {u : VTg} {ft : FT} {ff : FE} {gt : VM Bool} {gf : VM D} {env : Evn} {st : Sto} {v v' : VEnv} {ds : List D} {r : VR D} {L n : Nat} (hL : L ≤ st.length) (ht : VJ F p1 rQ ft gt) (hf : VJ F p2 rE ff gf) (hu : VTR F js t u) (hw : VTw js u) (h0 : ∀ j ∈ js, Z0 F j)
    (hY : ∀ s s', Ev (Yf F X) s s' → ((p1 && p2) = true → Ev N0 s s') → Ev Y s s') (hG : Src Y X G st ds) (hn : n = ds.length) (E : EnvV F X st env v) (e : vLcIG js u gt gf ds v = some (r, v')) : Cn F (p1 && p2) rF X L st env v (bnd (lcLoopG G t ft ff (wipeE env js) (n + 1) 0 [] st) addL) r v' := by
  obtain ⟨ws, rs, hG⟩ := hG
  unfold vLcIG at e
  split at e
  · rename_i hv
    have hv : ∀ j ∈ js, noOw v j = true := fun j hj => List.all_eq_true.mp hv j hj
    split at e
    · rename_i es v2 q
      cases e
      obtain ⟨us, es', s3, env3, g1, g2, g3, g4, g5, g6, g7, g8, g9⟩ := lcG_loop ht hf hu hw h0 hY hG ds 0 [] [] st env v _ v2 (by rw [rs.length]; simp) .refl rs .nil E rfl q
      cases g1
      rw [hn, g2]
      have E2 := E.rests g3 g6 h0 hv
      rw [restE_eq g7] at E2
      have hl : v2.length = v.length := g8.len
      refine ⟨.ok (.ref s3.length), s3 ++ [.lst us], rfl, g3.trans (.app _), E2.app _, ⟨?_, fun m d q => ?_, fun m d q => ?_⟩, fun z => ⟨?_, (g4 z).trans (.app _)⟩, rx_new (fun k z => (g6.x k z).1) g5, _, rfl, Nat.le_trans hL g3.1⟩
      · rw [← E2.len]; exact E.len
      · rw [restV_get hl] at q
        by_cases z : m ∈ js
        · rw [if_pos z] at q; exact q
        · rw [if_neg z] at q; exact g8.rd m d z q
      · rw [restV_get hl] at q
        by_cases z : m ∈ js
        · rw [if_pos z] at q; exact ⟨d, q⟩
        · rw [if_neg z] at q; exact g8.ow m d z q
      · apply List.ext_getElem?
        intro m
        rw [restV_get hl]
        by_cases y : m ∈ js
        · rw [if_pos y]
        · rw [if_neg y]; exact g9 z m y
    · cases e
  · cases e
def vLcG (gi : VM (List D)) (js : List Nat) (u : VTg) (t : VM Bool) (f : VM D) : VM D := fun v => vbnd (gi v) fun ds v => vLcIG js u t f ds v
theorem vj_lcG {fi : FI} {gi : VM (List D)} {t : Tg} {u : VTg} {ft : FT} {ff : FE} {gt : VM Bool} {gf : VM D} (hi : VJ F p (rSrc F) fi gi) (hu : VTR F js t u) (hw : VTw js u) (ht : VJ F p1 rQ ft gt) (hf : VJ F p2 rE ff gf) (h0 : ∀ j ∈ js, Z0 F j) : VJ F (p && (p1 && p2)) rF (fLcG fi t js ft ff) (vLcG gi js u gt gf) := fun X st env v r v' E e =>
  Cn.bind (fun r v' q => hi X st env v r v' E q) e fun a ds s1 v1 ev1 E1 k1 ra e => lcG_end ev1.1 ht hf hu hw h0 (fun s s' h _ => h) ra.1 ra.2 E1 e
theorem vj_lcGO {fi : FI} {gi : VM (List D)} {t : Tg} {u : VTg} {ft : FT} {ff : FE} {gt : VM Bool} {gf : VM D} (hi : VJ F p rSrc0 fi gi) (hu : VTR F js t u) (hw : VTw js u) (ht : VJ F true rQ ft gt) (hf : VJ F true rE ff gf) (h0 : ∀ j ∈ js, Z0 F j) : VJ F (p && (true && true)) rF (fLcG fi t js ft ff) (vLcG gi js u gt gf) := fun X st env v r v' E e =>
  Cn.bind (fun r v' q => hi X st env v r v' E q) e fun a ds s1 v1 ev1 E1 k1 ra e => lcG_end ev1.1 ht hf hu hw h0 (fun s s' _ h => h rfl) ra.1 ra.2 E1 e
end
/-! ### calls with keywords -/
theorem RXs.pick {st : Sto} {X : XS} {ws : List W} {ds : List D} (h : RXs st X ws ds) : ∀ ix : List Nat, RXs st X (DI.pick ws ix) (DI.pick ds ix)
  | [] => .nil
  | i :: ix => by
    unfold DI.pick
    cases q : ds[i]? with
    | none => rw [h.none q]; exact h.pick ix
    | some d =>
      obtain ⟨w, e, r⟩ := h.get q
      rw [e]; exact .cons r (h.pick ix)
theorem VP.pick {fr : Bool} {f : OC} {g : List D → Option (VR D)} (h : VP fr f g) (ix : List Nat) : VP fr (fun ws st => f (DI.pick ws ix) st) (fun ds => g (DI.pick ds ix)) := fun X st ws ds r hX rs e => h X st _ _ r hX (rs.pick ix) e
theorem z0s {F : Fr} {js : List Nat} (h : js.all (fun j => j != 0) = true) : ∀ j ∈ js, Z0 F j := fun j hj z => by
  have := List.all_eq_true.mp h j hj
  subst z
  cases this
theorem z0n {F : Fr} {js : List Nat} (h1 : F.io = none) (h2 : F.sc = none) : ∀ j ∈ js, Z0 F j := fun _ _ _ => ⟨h1, h2⟩
end DV

namespace DV
open PySem DI
def vIsB : D → D → Option D := fun d e => match d, e with
  | .bool x, .bool y => some (.bool (decide (x = y)))
  | _, _ => none
def vNotB : D → D → Option D := fun d e => match d, e with
  | .bool x, .bool y => some (.bool (!decide (x = y)))
  | _, _ => none
theorem opv_isB : OPV opIsB vIsB := by
  intro st X a b d e r hX ha hb q
  unfold vIsB at q
  split at q
  · cases q; have := ha.bool; have := hb.bool; subst a b
    exact ⟨[], _, by rw [List.append_nil]; rfl, .bl _⟩
  · cases q
theorem opv_notB : OPV opNotB vNotB := by
  intro st X a b d e r hX ha hb q
  unfold vNotB at q
  split at q
  · cases q; have := ha.bool; have := hb.bool; subst a b
    exact ⟨[], _, by rw [List.append_nil]; rfl, .bl _⟩
  · cases q
end DV

namespace DV
open PySem DI
/-! ### while -/
def vloopC (gt : VM Bool) (gb : VSM) : Nat → VSM
  | 0, _ => none
  | m + 1, v => match gt v with
    | some (.ok true, v1) => (match gb v1 with
      | some (.nx, v2) => vloopC gt gb m v2
      | some (.ct, v2) => vloopC gt gb m v2
      | some (.bk, v2) => some (.nx, v2)
      | o => o)
    | some (.ok false, v1) => some (.nx, v1)
    | _ => none
def vWhile (gt : VM Bool) (gb : VSM) : VSM := vloopC gt gb 1000
section
variable {F : Fr} {p : Bool}
theorem loopC_sc {ft : FT} {fb : FS} {gt : VM Bool} {gb : VSM} (ht : VJ F p rQ ft gt) (hb : VSj F fb gb) : ∀ (m : Nat) (X : XS) (st : Sto) (env : Evn) (v : VEnv) (fl : VFl) (v' : VEnv), EnvV F X st env v → vloopC gt gb m v = some (fl, v') → SCn F X st (loopC ft fb m env st) fl v'
  | 0, X, st, env, v, fl, v', E, e => by cases e
  | m + 1, X, st, env, v, fl, v', E, e => by
    unfold vloopC at e
    split at e
    · rename_i v1 q
      obtain ⟨r', s1, ho, ev, E1, k1, pu, rr⟩ := ht X st env v _ v1 E q
      have hr : r' = .ok true := by
        cases r' with
        | ok a => exact congrArg R.ok (show a = true from rr)
        | exc x => exact rr.elim
      subst hr
      have nxt : ∀ {env1 s2 X1 v2}, Ev (Yf F X) s1 s2 → (∀ k, X1 k → X k ∨ s1.length ≤ k) → EnvV F X1 s2 env1 v2 → vloopC gt gb m v2 = some (fl, v') → SCn F X st (loopC ft fb m env1 s2) fl v' := fun {env1 s2 X1 v2} ev2 gr2 E2 e => by
        exact SCn.after ev (fun k z => .inl z) (SCn.after ev2 gr2 (loopC_sc ht hb m X1 s2 env1 v2 fl v' E2 e))
      have step : ∀ o, fb env s1 = o → loopC ft fb (m + 1) env st = (match o with
          | some (.nx, env1, st2) => loopC ft fb m env1 st2
          | some (.ct, env1, st2) => loopC ft fb m env1 st2
          | some (.bk, env1, st2) => some (.nx, env1, st2)
          | o => o) := fun o q => by
        rw [loopC, ho]; simp only; rw [q]
        all_goals (
          rcases o with _ | ⟨f, e1, s1⟩
          · rfl
          · cases f <;> rfl)
      split at e
      · rename_i v2 q2
        obtain ⟨fl', env1, s2, X1, a, b, c, g, h⟩ := hb X s1 _ _ _ _ E1 q2
        cases fl' with
        | nx => rw [step _ a]; exact nxt b c g e
        | _ => exact h.elim
      · rename_i v2 q2
        obtain ⟨fl', env1, s2, X1, a, b, c, g, h⟩ := hb X s1 _ _ _ _ E1 q2
        cases fl' with
        | ct => rw [step _ a]; exact nxt b c g e
        | _ => exact h.elim
      · rename_i v2 q2
        cases e
        obtain ⟨fl', env1, s2, X1, a, b, c, g, h⟩ := hb X s1 _ _ _ _ E1 q2
        cases fl' with
        | bk => rw [step _ a]; exact SCn.after ev (fun k z => .inl z) ⟨.nx, env1, s2, X1, rfl, b, c, g, trivial⟩
        | _ => exact h.elim
      · rename_i n1 n2 n3
        obtain ⟨fl', env1, s2, X1, a, b, c, g, h⟩ := hb X s1 _ _ _ _ E1 e
        refine SCn.after ev (fun k z => .inl z) ⟨fl', env1, s2, X1, ?_, b, c, g, h⟩
        rw [step _ a]
        cases fl' with
        | nx => cases fl with | nx => exact absurd e (n1 v') | _ => exact h.elim
        | ct => cases fl with | ct => exact absurd e (n2 v') | _ => exact h.elim
        | bk => cases fl with | bk => exact absurd e (n3 v') | _ => exact h.elim
        | _ => rfl
    · rename_i v1 q
      cases e
      obtain ⟨r', s1, ho, ev, E1, k1, pu, rr⟩ := ht X st env v _ v' E q
      have hr : r' = .ok false := by
        cases r' with
        | ok a => exact congrArg R.ok (show a = false from rr)
        | exc x => exact rr.elim
      subst hr
      exact ⟨.nx, env, s1, X, by rw [loopC, ho], ev, fun k z => .inl z, E1, trivial⟩
    · cases e
theorem vs_while {ft : FT} {fb : FS} {gt : VM Bool} {gb : VSM} (ht : VJ F p rQ ft gt) (hb : VSj F fb gb) : VSj F (fWhile ft fb) (vWhile gt gb) := fun X st env v fl v' E e => loopC_sc ht hb 1000 X st env v fl v' E e
end
/-! ### f(a) where f has defaults -/
theorem VP.dft {fr : Bool} {f : OC} {g : List D → Option (VR D)} (h : VP fr f g) {dw : List W} {dd : List D} (hd : ∀ st X, RXs st X dw dd) : VP fr (fun ws => f (ws ++ dw)) (fun ds => g (ds ++ dd)) := fun X st ws ds r hX rs e => h X st _ _ r hX (rs.append (hd st X)) e
/-! ### {k: []} -/
section
mutual
theorem RX.imm {st st' : Sto} {X : XS} : ∀ {w : W} {d : D}, RX st X w d → (nkD d).isSome = true → RX st' X w d
  | _, _, .non, _ => .non
  | _, _, .bl b, _ => .bl b
  | _, _, .int i, _ => .int i
  | _, _, .str x, _ => .str x
  | _, _, .tup r, h => by
    refine .tup (RXs.imm r ?_)
    unfold nkD at h
    simpa using h
  | _, _, .ref e n r, h => by cases h
  | _, _, .emp e n, h => by cases h
  | _, _, .dct e n r s, h => by cases h
theorem RXs.imm {st st' : Sto} {X : XS} : ∀ {ws : List W} {ds : List D}, RXs st X ws ds → (nkDs ds).isSome = true → RXs st' X ws ds
  | _, _, .nil, _ => .nil
  | _, _, @RXs.cons _ _ w d ws ds a b, h => by
    unfold nkDs at h
    split at h
    · rename_i k ks h1 h2
      exact .cons (RX.imm a (by rw [h1]; rfl)) (RXs.imm b (by rw [h2]; rfl))
    · cases h
end
variable {F : Fr}
def vDictE (gk : VM D) : VM D := fun v => vbnd (gk v) fun kd v => match keyD kd with
  | some _ => some (.ok (.dict [(kd, .list [])]), v)
  | none => none
theorem vj_dictE {fk : FE} {gk : VM D} (hk : VJ F true rE fk gk) : VJ F true rF (fDict1 fk (fLst fNil)) (vDictE gk) := fun X st env v r v' E e => by
  unfold vDictE at e
  have ev0 : Ev N0 st (st ++ [.emp]) := ⟨by simp, fun k o q _ => by rw [List.getElem?_append_left (List.getElem?_eq_some_iff.mp q).1]; exact q⟩
  cases q : gk v with
  | none => rw [q] at e; cases e
  | some o =>
    obtain ⟨rk, v1⟩ := o
    rw [q] at e
    obtain ⟨r', s1, ho, ev, E1, k1, pu, rr⟩ := hk X (st ++ [.emp]) env v rk v1 (E.nn ev0) q
    obtain ⟨rfl, ev1⟩ := pu rfl
    cases rk with
    | exc c fs =>
      cases e
      cases r' with
      | ok a => exact rr.elim
      | exc x =>
        have e1 : fDict1 fk (fLst fNil) env st = some (.exc x, s1) := by unfold fDict1; rw [ho]; rfl
        rw [e1]
        have ev2 : Ev N0 st s1 := ev0.trans ev1
        exact ⟨.exc x, s1, rfl, ⟨ev2.1, fun k o q n => ev2.2 k o q id⟩, E.nn ev2, k1, fun _ => ⟨rfl, ev2⟩, rr⟩
    | ok kd =>
      cases r' with
      | exc x => exact rr.elim
      | ok kw =>
        have e : (match keyD kd with
          | some _ => some (VR.ok (PyData.dict [(kd, .list [])]), v1)
          | none => none) = some (r, v') := e
        split at e
        · rename_i k hkey
          cases e
          have rr : RX s1 X kw kd := rr
          have hn1 : s1[st.length]? = some .emp := ev1.2 _ _ (by simp) id
          have hlt : st.length < s1.length := (List.getElem?_eq_some_iff.mp hn1).1
          have e1 : fDict1 fk (fLst fNil) env st = some (.ok (.ref st.length), (s1 ++ [Ob.lst []]).set st.length (.dct [(kw, .ref s1.length)])) := by
            unfold fDict1
            rw [ho]
            have l : fLst fNil env s1 = some (R.ok (W.ref s1.length), s1 ++ [Ob.lst []]) := rfl
            simp only [bnd]
            rw [l]
            simp only
            rw [rr.key, hkey, List.getElem?_append_left hlt, hn1]
            rfl
          rw [e1]
          have nx : ¬ X st.length := fun z => Nat.lt_irrefl _ (E.x _ z).1
          have nx1 : ¬ X s1.length := fun z => by have := (E.x _ z).1; omega
          have ev2 : Ev N0 st ((s1 ++ [Ob.lst []]).set st.length (.dct [(kw, .ref s1.length)])) := ⟨by simp; omega, fun k o q _ => by
            have hk : k < st.length := (List.getElem?_eq_some_iff.mp q).1
            rw [List.getElem?_set_ne (by omega), List.getElem?_append_left (by omega)]
            exact (ev0.trans ev1).2 k o q id⟩
          have hs : (nkD kd).isSome = true := by
            unfold keyD at hkey
            split at hkey
            · split at hkey
              · rename_i k0 h0; rw [h0]; rfl
              · cases hkey
            · cases hkey
          have rl : RX ((s1 ++ [Ob.lst []]).set st.length (.dct [(kw, .ref s1.length)])) X (.ref s1.length) (.list []) := .ref (ws := []) (by rw [List.getElem?_set_ne (by omega)]; simp) nx1 .nil
          exact ⟨_, _, rfl, ⟨ev2.1, fun k o q n => ev2.2 k o q id⟩, E.nn ev2, k1, fun _ => ⟨rfl, ev2⟩, RX.dct (kvs := [(kw, .ref s1.length)]) (by rw [List.getElem?_set_self (by simp; omega)]) nx (.cons (rr.imm hs) .nil) (.cons rl .nil), _, rfl, Nat.le_refl _⟩
        · cases e
end
end DV

namespace DV
open PySem DI
section
variable {F : Fr} {p : Bool}
/-! ### the truth of a list -/
def vTruL (g : VM D) : VM Bool := fun v => vbnd (g v) fun d v => match d with
  | .list ds => some (.ok (!ds.isEmpty), v)
  | _ => none
theorem vj_truL {f : FE} {g : VM D} (h : VJ F p rE f g) : VJ F (p && true) rQ (fTruL f) (vTruL g) := fun X st env v r v' E e =>
  Cn.bind (fun r v' q => h X st env v r v' E q) e fun a d s1 v1 ev1 E1 k1 ra e => by
    split at e
    · rename_i ds
      cases e
      have ra : RX s1 X a (.list ds) := ra
      cases ra with
      | @ref k ws _ e n r =>
        have q : asL (.ref k) s1 = some (.ok (!ws.isEmpty), s1) := by unfold asL; simp only; rw [e]; rfl
        have z : (!ws.isEmpty) = !ds.isEmpty := by cases r <;> rfl
        rw [q, z]
        exact .ok0 E1 rfl
    · cases e
end
end DV

namespace DV
open PySem DI
section
variable {F : Fr} {p1 p2 : Bool}
/-! ### d.get(k) -/
def vGet (ga gb : VM D) : VM D := fun v => vbnd (ga v) fun d v => match d with
  | .dict ps => vbnd (gb v) fun e v => (match keyD e with
    | some k => some (.ok ((lookD ps k).getD .none), v)
    | none => none)
  | _ => none
theorem fcons1 (fb : FE) (k : List W → Sto → Out W) (env : Evn) (st : Sto) : bnd (fCons fb fNil env st) k = bnd (fb env st) fun w st => k [w] st := by
  unfold fCons
  cases q : fb env st with
  | none => rfl
  | some o =>
    obtain ⟨r, s1⟩ := o
    cases r <;> rfl
theorem vj_get {fa fb : FE} {ga gb : VM D} (ha : VJ F p1 rE fa ga) (hb : VJ F p2 rE fb gb) : VJ F (p1 && (p2 && true)) rE (fDM opGet fa (fCons fb fNil)) (vGet ga gb) := fun X st env v r v' E h =>
  Cn.bind (fun r v' q => ha X st env v r v' E q) h fun a d s1 v1 ev1 E1 k1 ra h => by
    split at h
    · rename_i ps
      have ra : RX s1 X a (.dict ps) := ra
      obtain ⟨n, kvs, rfl, h1, h2, h3⟩ := Top.dct (.inl ra)
      rw [if_pos (show (dctOf (.ref n) s1).isSome = true by rw [h1]; rfl), fcons1]
      refine Cn.bind (fun r v' q => (hb X s1 env v1 r v' E1 q).down dn_E ev1.1) h fun b e s2 v2 ev2 E2 k2 rb h => ?_
      split at h
      · rename_i k hk
        cases h
        have ra2 : RX s2 X (.ref n) (.dict ps) := ev2.rx ra
        obtain ⟨n', kvs', e0, g1, g2, g3⟩ := Top.dct (.inl ra2)
        cases e0
        have rb : RX s2 X b e := rb
        have eq : opGet (.ref n) [b] s2 = some (.ok ((lookW kvs' k).getD .non), s2) := by
          unfold opGet
          rw [g1]; simp only
          rw [rb.key, hk]; rfl
        rw [eq]
        refine .ok0 E2 ?_
        rcases lookd_rx (k := k) g2 g3 with ⟨q1, q2⟩ | ⟨w, d, q1, q2, q3⟩
        · rw [q1, q2]; exact .non
        · rw [q1, q2]; exact q3
      · cases h
    · cases h
end
end DV

namespace DV
open PySem DI
/-! ### dict(pairs) -/
def pairD : D → Option (D × D)
  | .tuple [k, v] => some (k, v)
  | _ => none
def pairsD : List D → Option (List (D × D))
  | [] => some []
  | d :: ds => match pairD d, pairsD ds with
    | some p, some ps => some (p :: ps)
    | _, _ => none
def storeAllD : List (D × D) → List (D × D) → Option (List (D × D))
  | acc, [] => some acc
  | acc, p :: ps => match keyD p.1 with
    | some k => storeAllD (storeD acc p.1 k p.2) ps
    | none => none
def vDictP : D → Option D
  | .list ds => (match pairsD ds with
    | some ps => (match storeAllD [] ps with
      | some (q :: qs) => if szW ds.length then some (.dict (q :: qs)) else none
      | _ => none)
    | none => none)
  | _ => none
theorem RXs.app1 {st : Sto} {X : XS} {ws : List W} {ds : List D} (l : Sto) (r : RXs st X ws ds) : RXs (st ++ l) X ws ds := r.app l
theorem pairs_rx {st : Sto} {X : XS} : ∀ {ws : List W} {ds : List D} {ps : List (D × D)}, RXs st X ws ds → pairsD ds = some ps → ∃ qs, pairsW ws = some qs ∧ RXs st X (qs.map (·.1)) (ps.map (·.1)) ∧ RXs st X (qs.map (·.2)) (ps.map (·.2))
  | _, _, _, .nil, e => by cases e; exact ⟨[], rfl, .nil, .nil⟩
  | _, _, ps, .cons (w := w) (d := d) a b, e => by
    unfold pairsD at e
    split at e
    · rename_i p ps' h1 h2
      cases e
      obtain ⟨qs, e1, r1, r2⟩ := pairs_rx b h2
      unfold pairD at h1
      split at h1
      · cases h1
        cases a with
        | tup r =>
          cases r with
          | cons c1 c2 =>
            cases c2 with
            | cons d1 d2 =>
              cases d2
              exact ⟨(_, _) :: qs, by unfold pairsW; rw [e1]; rfl, .cons c1 r1, .cons d1 r2⟩
      · cases h1
    · cases e
theorem storeAll_rx {st : Sto} {X : XS} : ∀ {qs : List (W × W)} {ps : List (D × D)}, RXs st X (qs.map (·.1)) (ps.map (·.1)) → RXs st X (qs.map (·.2)) (ps.map (·.2)) → ∀ {acc : List (W × W)} {acd ds : List (D × D)}, RXs st X (acc.map (·.1)) (acd.map (·.1)) → RXs st X (acc.map (·.2)) (acd.map (·.2)) → storeAllD acd ps = some ds → ∃ kvs, storeAllW acc qs = some kvs ∧ RXs st X (kvs.map (·.1)) (ds.map (·.1)) ∧ RXs st X (kvs.map (·.2)) (ds.map (·.2))
  | [], [], _, _, acc, acd, ds, h1, h2, e => by cases e; exact ⟨acc, rfl, h1, h2⟩
  | [], _ :: _, h, _, _, _, _, _, _, _ => by cases h
  | _ :: _, [], h, _, _, _, _, _, _, _ => by cases h
  | q :: qs, p :: ps, .cons a b, .cons c d, acc, acd, ds, h1, h2, e => by
    unfold storeAllD at e
    split at e
    · rename_i k hk
      obtain ⟨i1, i2⟩ := store_rx (k := k) a c h1 h2
      obtain ⟨kvs, e1, r1, r2⟩ := storeAll_rx b d i1 i2 e
      refine ⟨kvs, ?_, r1, r2⟩
      unfold storeAllW
      rw [a.key, hk]; exact e1
    · cases e
theorem ocf_dictP : OC1F opDictP vDictP := by
  intro st X w d r hX h q
  unfold vDictP at q
  split at q
  · rename_i ds
    split at q
    · rename_i ps hp
      split at q
      · rename_i p0 ps0 hs
        split at q
        · rename_i hz
          cases q
          obtain ⟨ws, n, r1, rfl, e1⟩ := h.list
          obtain ⟨qs, e2, r2, r3⟩ := pairs_rx r1 hp
          obtain ⟨kvs, e3, r4, r5⟩ := storeAll_rx r2 r3 (acc := []) (acd := []) .nil .nil hs
          refine ⟨[.dct kvs], ?_, .dct (by simp) (fun z => Nat.lt_irrefl _ (hX _ z)) (r4.app _) (r5.app _)⟩
          have e0 : listW (.ref n) st = some ws := by unfold listW; simp only; rw [e1]
          unfold opDictP
          simp only
          rw [e0]; simp only
          rw [e2]; simp only
          rw [e3]; simp only
          rw [if_pos (by rw [r1.length]; exact hz)]
        · cases q
      · cases q
    · cases q
  · cases q
end DV

namespace DV
open PySem DI
section
variable {F : Fr} {p : Bool} {js : List Nat}
/-! ### a, b = a tuple or a list -/
def seqD2 : D → Option (List D)
  | .tuple ds => some ds
  | .list ds => some ds
  | _ => none
def vUnpA (g : VM D) (n : Nat) (u : VTgs) : VSM := fun v => vbS (g v) fun d v => match seqD2 d with
  | some ds => if ds.length = n then (u ds v).map fun v' => (.nx, v') else none
  | none => none
theorem vs_unpA {f : FE} {g : VM D} {t : Tgs} {u : VTgs} {n : Nat} (h : VJ F p rE f g) (ht : VTsR F js t u) : VSj F (fUnpA f n t) (vUnpA g n u) := fun X st env v fl v' E e =>
  SCn.bind (fun r v' q => h X st env v r v' E q) e fun a d s1 v1 ev1 E1 k1 pu ra e => by
    have e : (match seqD2 d with
      | some ds => if ds.length = n then (u ds v1).map fun v' => (VFl.nx, v') else none
      | none => none) = some (fl, v') := e
    split at e
    · rename_i ds hd
      split at e
      · rename_i hn
        cases q : u ds v1 with
        | none => rw [q] at e; cases e
        | some v2 =>
          rw [q] at e; cases e
          have ra : RX s1 X a d := ra
          have key : ∃ ws, seqW2 a s1 = some ws ∧ RXs s1 X ws ds := by
            unfold seqD2 at hd
            split at hd
            · cases hd
              cases ra with
              | tup r => exact ⟨_, rfl, r⟩
            · cases hd
              cases ra with
              | ref e1 n1 r => exact ⟨_, by unfold seqW2 listW; simp only; rw [e1], r⟩
            · cases hd
          obtain ⟨ws, k1, k2⟩ := key
          obtain ⟨env', h1, E2, _⟩ := ht E1 k2 q
          exact ⟨.nx, env', s1, X, by rw [k1]; simp only; rw [if_pos (by rw [k2.length]; exact hn), h1]; rfl, ev1, fun k z => .inl z, E2, trivial⟩
      · cases e
    · cases e
/-! ### try .. except C: without a name -/
def vTryN (gb : VSM) (tab : List (Str × Bool)) (gs : VSM) : VSM := fun v => match gb v with
  | some (.exc c fs, v1) => (match tab.lookup c with
    | some true => (match gs v1 with
      | some (.exc _ _, _) => none
      | o => o)
    | some false => some (.exc c fs, v1)
    | none => none)
  | o => o
theorem vs_tryN {fb fs : FS} {gb gs : VSM} {tab : List (Str × Bool)} (hb : VSj F fb gb) (hsu : VSj F fs gs) : VSj F (fTryN fb tab fs) (vTryN gb tab gs) := fun X st env v fl v' E e => by
  unfold vTryN at e
  split at e
  · rename_i c fx v1 q
    obtain ⟨fl', env1, s1, X1, a, b, g, h, k⟩ := hb X st env v _ _ E q
    cases fl' with
    | exc x =>
      have hx : x.cls = c := k.1
      cases ht : tab.lookup c with
      | none => rw [ht] at e; cases e
      | some bb =>
        rw [ht] at e
        cases bb with
        | false =>
          cases e
          refine ⟨.exc x, env1, s1, X1, ?_, b, g, h, k⟩
          unfold fTryN
          rw [a]; simp only; rw [hx, ht]
        | true =>
          have e : (match gs v1 with | some (.exc _ _, _) => none | o => o) = some (fl, v') := e
          split at e
          · cases e
          · rename_i nx
            obtain ⟨fl3, env3, s3, X3, a3, b3, c3, d3, k3⟩ := (hsu X1 s1 _ _ _ _ h e).after b g
            refine ⟨fl3, env3, s3, X3, ?_, b3, c3, d3, k3⟩
            unfold fTryN
            rw [a]; simp only; rw [hx, ht]; simp only; rw [a3]
            cases fl3 with
            | exc y =>
              cases fl with
              | exc c' fs' => exact absurd e (nx c' fs' v')
              | _ => exact k3.elim
            | _ => rfl
    | _ => exact k.elim
  · rename_i n1
    obtain ⟨fl', env1, s1, X1, a, b, g, h, k⟩ := hb X st env v _ _ E e
    refine ⟨fl', env1, s1, X1, ?_, b, g, h, k⟩
    unfold fTryN
    rw [a]
    cases fl' with
    | exc x =>
      cases fl with
      | exc c fs => exact absurd e (n1 c fs v')
      | _ => exact k.elim
    | _ => rfl
end
end DV

namespace DV.Com
open PySem DI DV
def cd_LETTERS : D := (.str "abcdefghijklmnopqrstuvwxyz")
def cd_MOST_CHARACTERS : D := (.int 8)
def cd_MOST_AXIOMS : D := (.int 16)
def cd_CONCEPT_FORMS : D := (.tuple [(.tuple [(.str "concept"), (.int 2)]), (.tuple [(.str "out"), (.int 2)]), (.tuple [(.str "in"), (.int 2)])])
def cd_DIRECTION_FORMS : D := (.tuple [(.tuple [(.str "out"), (.int 2)]), (.tuple [(.str "in"), (.int 2)])])
def cd_AXIOM_FORMS : D := (.tuple [(.tuple [(.str "subclass"), (.int 3)]), (.tuple [(.str "disjoint"), (.int 3)]), (.tuple [(.str "subrole"), (.int 3)]), (.tuple [(.str "subrole_inverse"), (.int 3)]), (.tuple [(.str "disjoint_roles"), (.int 3)]), (.tuple [(.str "disjoint_inverse"), (.int 3)]), (.tuple [(.str "functional"), (.int 2)])])
def cd_ROLE_INCLUSIONS : D := (.tuple [(.str "subrole"), (.str "subrole_inverse")])
def vb_consists_of : VSM := (vSeq (vIfS (vOrT (vNotT (vTest (vU (vIsi "str") (vVar 0)))) (vNotT (vTest (vChain vLe vLe (vC (.int 1)) (vU vLen (vVar 0)) (vC cd_MOST_CHARACTERS))))) (vRet (vC (.bool false))) vNext)
      (vRet (vU vAll (vLc (vVar 0) 2 vYes (vOp vIn (vVar 2) (vVar 1))))))
def v_consists_of : List D → Option (VR D) := vmk false 2 3 vb_consists_of
def vb_is_word : VSM := (vRet (vCall v_consists_of (vCons (vVar 0) (vCons (vC cd_LETTERS) vNil))))
def v_is_word : List D → Option (VR D) := vmk false 1 1 vb_is_word
def vb_tag_of : VSM := (vSeq (vIfS (vOrT (vNotT (vTest (vU (vIsi "tuple") (vVar 0)))) (vTest (vOp vEq (vU vLen (vVar 0)) (vC (.int 0))))) (vRet (vC .none)) vNext)
      (vSeq (vSet 2 (vOp vIx (vVar 0) (vC (.int 0))))
      (vSeq (vIfS (vAndT (vTest (vU (vIsi "str") (vVar 2))) (vTest (vOp vIn (vTup (vCons (vVar 2) (vCons (vU vLen (vVar 0)) vNil))) (vVar 1)))) (vRet (vVar 2)) vNext)
      (vRet (vC .none)))))
def v_tag_of : List D → Option (VR D) := vmk false 2 3 vb_tag_of
def vb_is_concept : VSM := (vRet (vAnd (vOp vNotN (vCall v_tag_of (vCons (vVar 0) (vCons (vC cd_CONCEPT_FORMS) vNil))) (vC .none)) (vCall v_is_word (vCons (vOp vIx (vVar 0) (vC (.int 1))) vNil))))
def v_is_concept : List D → Option (VR D) := vmk false 1 1 vb_is_concept
def vb_is_direction : VSM := (vRet (vAnd (vOp vNotN (vCall v_tag_of (vCons (vVar 0) (vCons (vC cd_DIRECTION_FORMS) vNil))) (vC .none)) (vCall v_is_word (vCons (vOp vIx (vVar 0) (vC (.int 1))) vNil))))
def v_is_direction : List D → Option (VR D) := vmk false 1 1 vb_is_direction
def vb_is_axiom : VSM := (vSeq (vSet 1 (vCall v_tag_of (vCons (vVar 0) (vCons (vC cd_AXIOM_FORMS) vNil))))
      (vSeq (vIfS (vTest (vOp vIsN (vVar 1) (vC .none))) (vRet (vC (.bool false))) vNext)
      (vSeq (vIfS (vTest (vOp vEq (vVar 1) (vC (.str "functional")))) (vRet (vCall v_is_direction (vCons (vOp vIx (vVar 0) (vC (.int 1))) vNil))) vNext)
      (vSeq (vIfS (vTest (vOp vIn (vVar 1) (vTup (vCons (vC (.str "subclass")) (vCons (vC (.str "disjoint")) vNil))))) (vRet (vAnd (vCall v_is_concept (vCons (vOp vIx (vVar 0) (vC (.int 1))) vNil)) (vCall v_is_concept (vCons (vOp vIx (vVar 0) (vC (.int 2))) vNil)))) vNext)
      (vRet (vAnd (vCall v_is_word (vCons (vOp vIx (vVar 0) (vC (.int 1))) vNil)) (vCall v_is_word (vCons (vOp vIx (vVar 0) (vC (.int 2))) vNil))))))))
def v_is_axiom : List D → Option (VR D) := vmk false 1 2 vb_is_axiom
def vb_superroles : VSM := (vRet (vLc (vVar 0) 1 (vAndT (vTest (vCall v_is_axiom (vCons (vVar 1) vNil))) (vTest (vOp vIn (vOp vIx (vVar 1) (vC (.int 0))) (vC cd_ROLE_INCLUSIONS)))) (vOp vIx (vVar 1) (vC (.int 2)))))
def v_superroles : List D → Option (VR D) := vmk true 1 2 vb_superroles
def vb_check_ontology : VSM := (vSeq (vIfS (vOrT (vNotT (vTest (vU (vIsiT ["list", "tuple"]) (vVar 0)))) (vTest (vOp vGt (vU vLen (vVar 0)) (vC cd_MOST_AXIOMS)))) (vRaise1 "InvalidOntology" "index" (vC .none)) vNext)
      (vSeq (vSet 1 (vCall v_superroles (vCons (vVar 0) vNil)))
      (vForE (vVar 0) 2 3 (vSeq (vIfS (vOrT (vNotT (vTest (vCall v_is_axiom (vCons (vVar 3) vNil)))) (vTest (vOp vIn (vVar 3) (vSl vSlice (vVar 0) vNoPart (vPart (vVar 2)))))) (vRaise1 "InvalidOntology" "index" (vVar 2)) vNext)
      (vIfS (vAndT (vTest (vOp vEq (vOp vIx (vVar 3) (vC (.int 0))) (vC (.str "functional")))) (vTest (vOp vIn (vOp vIx (vOp vIx (vVar 3) (vC (.int 1))) (vC (.int 1))) (vVar 1)))) (vRaise1 "InvalidOntology" "index" (vVar 2)) vNext)))))
def v_check_ontology : List D → Option (VR D) := vmk false 1 4 vb_check_ontology
def vb_law_draw : VSM := (vSeq (vIfS (vTest (vOp vGt (vOp vIx (vAny 0) (vC (.int 0))) (vC (.int 0)))) (vSeq (vSet 2 (vOp vMod (vOp vIx (vAny 0) (vC (.int 0))) (vVar 1)))
      (vSeq (vPut 0 (vC (.int 0)) (vOp vDiv (vOp vIx (vAny 0) (vC (.int 0))) (vVar 1)))
      (vRet (vVar 2)))) vNext)
      (vSeq (vPut 0 (vC (.int 1)) (vOp vMod (vOp vAdd (vOp vMul (vOp vIx (vAny 0) (vC (.int 1))) (vC (.int 69621))) (vC (.int 7))) (vC (.int 2147483647))))
      (vRet (vOp vMod (vOp vDiv (vOp vMod (vOp vMul (vOp vIx (vAny 0) (vC (.int 1))) (vOp vIx (vAny 0) (vC (.int 1)))) (vC (.int 2147483629))) (vC (.int 32))) (vVar 1)))))
def v_law_draw : D → List D → Option (VR D × D) := vmkI false 2 3 vb_law_draw
def vb_law_choose : VSM := (vRet (vOp vIx (vVar 1) (vCallI v_law_draw 0 (vCons (vU vLen (vVar 1)) vNil))))
def v_law_choose : D → List D → Option (VR D × D) := vmkI false 2 2 vb_law_choose
def vb_law_names : VSM := (vSeq (vSet 1 (vOp vIx (vLst (vCons (vC (.str "")) (vCons (vC (.str "k")) (vCons (vC (.str "zzzzzzz")) vNil)))) (vCallI v_law_draw 0 (vCons (vC (.int 3)) vNil))))
      (vSeq (vSet 2 (vLc (vC (.str "abcd")) 4 vYes (vOp vAdd (vVar 1) (vVar 4))))
      (vSeq (vSet 3 (vLc (vC (.str "rst")) 4 vYes (vOp vAdd (vVar 1) (vVar 4))))
      (vRet (vTup (vCons (vVar 2) (vCons (vOp vIx (vLst (vCons (vVar 3) (vCons (vSl vSlice (vVar 2) vNoPart (vPart (vC (.int 3)))) vNil))) (vU vInt (vOp vEq (vCallI v_law_draw 0 (vCons (vC (.int 4)) vNil)) (vC (.int 0))))) vNil)))))))
def v_law_names : D → List D → Option (VR D × D) := vmkI false 1 5 vb_law_names
def vb_law_concept : VSM := (vSeq (vSet 2 (vOp vIx (vLst (vCons (vC (.str "concept")) (vCons (vC (.str "concept")) (vCons (vC (.str "out")) (vCons (vC (.str "in")) vNil))))) (vCallI v_law_draw 0 (vCons (vC (.int 4)) vNil))))
      (vRet (vTup (vCons (vVar 2) (vCons (vCallI v_law_choose 0 (vCons (vOp vIx (vVar 1) (vU vInt (vOp vNe (vVar 2) (vC (.str "concept"))))) vNil)) vNil)))))
def v_law_concept : D → List D → Option (VR D × D) := vmkI false 2 3 vb_law_concept
def vb_law_axiom : VSM := (vSeq (vSet 3 (vCallI v_law_choose 0 (vCons (vVar 2) vNil)))
      (vSeq (vIfS (vOrT (vTest (vOp vEq (vVar 3) (vC (.str "subclass")))) (vTest (vOp vEq (vVar 3) (vC (.str "disjoint"))))) (vRet (vTup (vCons (vVar 3) (vCons (vCallI v_law_concept 0 (vCons (vVar 1) vNil)) (vCons (vCallI v_law_concept 0 (vCons (vVar 1) vNil)) vNil))))) vNext)
      (vSeq (vIfS (vTest (vOp vEq (vVar 3) (vC (.str "functional")))) (vRet (vTup (vCons (vVar 3) (vCons (vTup (vCons (vOp vIx (vLst (vCons (vC (.str "out")) (vCons (vC (.str "in")) vNil))) (vCallI v_law_draw 0 (vCons (vC (.int 2)) vNil))) (vCons (vCallI v_law_choose 0 (vCons (vOp vIx (vVar 1) (vC (.int 1))) vNil)) vNil))) vNil)))) vNext)
      (vRet (vTup (vCons (vVar 3) (vCons (vCallI v_law_choose 0 (vCons (vOp vIx (vVar 1) (vC (.int 1))) vNil)) (vCons (vCallI v_law_choose 0 (vCons (vOp vIx (vVar 1) (vC (.int 1))) vNil)) vNil))))))))
def v_law_axiom : D → List D → Option (VR D × D) := vmkI false 3 4 vb_law_axiom
def vb_law_allowed : VSM := (vSeq (vSet 1 (vLc (vVar 0) 2 (vOrT (vTest (vOp vEq (vOp vIx (vVar 2) (vC (.int 0))) (vC (.str "subrole")))) (vTest (vOp vEq (vOp vIx (vVar 2) (vC (.int 0))) (vC (.str "subrole_inverse"))))) (vOp vIx (vVar 2) (vC (.int 2)))))
      (vRet (vOp vEq (vLc (vVar 0) 2 (vAndT (vTest (vOp vEq (vOp vIx (vVar 2) (vC (.int 0))) (vC (.str "functional")))) (vTest (vOp vIn (vOp vIx (vOp vIx (vVar 2) (vC (.int 1))) (vC (.int 1))) (vVar 1)))) (vVar 2)) (vLst vNil))))
def v_law_allowed : List D → Option (VR D) := vmk false 1 3 vb_law_allowed
def vb_law_ontology : VSM := (vSeq (vSetO 4 (vLst vNil))
      (vSeq (vForR rngV1 (vCons (vCallI v_law_draw 0 (vCons (vOp vAdd (vVar 3) (vC (.int 1))) vNil)) vNil) 5 (vSeq (vSet 6 (vCallI v_law_axiom 0 (vCons (vVar 1) (vCons (vVar 2) vNil))))
      (vIfS (vAndT (vTest (vOp vNotIn (vVar 6) (vAny 4))) (vTest (vCall v_law_allowed (vCons (vOp vAddL (vAny 4) (vLst (vCons (vVar 6) vNil))) vNil)))) (vDrop (vApp 4 (vVar 6))) vNext)))
      (vRetO 4)))
def v_law_ontology : D → List D → Option (VR D × D) := vmkI true 4 7 vb_law_ontology
def cd_LETTERS_AND_DIGITS : D := (.str "abcdefghijklmnopqrstuvwxyz0123456789")
def cd_FACT_FORMS : D := (.tuple [(.tuple [(.str "concept"), (.int 3)]), (.tuple [(.str "role"), (.int 4)])])
def vb_is_value : VSM := (vRet (vCall v_consists_of (vCons (vVar 0) (vCons (vC cd_LETTERS_AND_DIGITS) vNil))))
def v_is_value : List D → Option (VR D) := vmk false 1 1 vb_is_value
def vb_is_named : VSM := (vRet (vAnd (vU (vIsi "tuple") (vVar 0)) (vAnd (vOp vEq (vU vLen (vVar 0)) (vC (.int 2))) (vAnd (vCall v_is_word (vCons (vOp vIx (vVar 0) (vC (.int 0))) vNil)) (vCall v_is_value (vCons (vOp vIx (vVar 0) (vC (.int 1))) vNil))))))
def v_is_named : List D → Option (VR D) := vmk false 1 1 vb_is_named
def vb_terms_of : VSM := (vSeq (vIfS (vOrT (vTest (vOp vIsN (vCall v_tag_of (vCons (vVar 0) (vCons (vC cd_FACT_FORMS) vNil))) (vC .none))) (vNotT (vTest (vCall v_is_word (vCons (vOp vIx (vVar 0) (vC (.int 1))) vNil))))) (vRet (vLst vNil)) vNext)
      (vRet (vU vListOf (vSl vSlice (vVar 0) (vPart (vC (.int 2))) vNoPart))))
def v_terms_of : List D → Option (VR D) := vmk true 1 1 vb_terms_of
def vb_is_fact : VSM := (vSeq (vSet 1 (vCall v_terms_of (vCons (vVar 0) vNil)))
      (vRet (vAnd (vOp vGt (vU vLen (vVar 1)) (vC (.int 0))) (vU vAll (vLc (vVar 1) 2 vYes (vCall v_is_named (vCons (vVar 2) vNil)))))))
def v_is_fact : List D → Option (VR D) := vmk false 1 3 vb_is_fact
def vb_first_wrong_fact : VSM := (vSeq (vSetO 1 vEmp)
      (vSeq (vForE (vVar 0) 2 3 (vSeq (vIfS (vOrT (vNotT (vTest (vCall v_is_fact (vCons (vVar 3) vNil)))) (vTest (vOp vInD (vVar 3) (vAny 1)))) (vRet (vVar 2)) vNext)
      (vPutD 1 (vVar 3) (vC (.bool true)))))
      (vRet (vC .none))))
def v_first_wrong_fact : List D → Option (VR D) := vmk false 1 4 vb_first_wrong_fact
def vb_check_facts : VSM := (vSeq (vIfS (vNotT (vTest (vU (vIsiT ["list", "tuple"]) (vVar 0)))) (vRaise1 "InvalidFacts" "index" (vC .none)) vNext)
      (vSeq (vSet 1 (vCall v_first_wrong_fact (vCons (vVar 0) vNil)))
      (vIfS (vTest (vOp vNotN (vVar 1) (vC .none))) (vRaise1 "InvalidFacts" "index" (vVar 1)) vNext)))
def v_check_facts : List D → Option (VR D) := vmk false 1 2 vb_check_facts
def vb_law_facts : VSM := (vSeq (vSetO 4 (vLst vNil))
      (vSeq (vForR rngV1 (vCons (vCallI v_law_draw 0 (vCons (vOp vAdd (vVar 3) (vC (.int 1))) vNil)) vNil) 5 (vSeq (vPar 7 8 (vCons (vCallI v_law_choose 0 (vCons (vVar 2) vNil)) (vCons (vCallI v_law_choose 0 (vCons (vVar 2) vNil)) vNil)))
      (vSeq (vSet 6 (vTup (vCons (vC (.str "concept")) (vCons (vCallI v_law_choose 0 (vCons (vOp vIx (vVar 1) (vC (.int 0))) vNil)) (vCons (vVar 7) vNil)))))
      (vSeq (vIfS (vTest (vOp vEq (vCallI v_law_draw 0 (vCons (vC (.int 2)) vNil)) (vC (.int 0)))) (vSet 6 (vTup (vCons (vC (.str "role")) (vCons (vCallI v_law_choose 0 (vCons (vOp vIx (vVar 1) (vC (.int 1))) vNil)) (vCons (vVar 7) (vCons (vVar 8) vNil)))))) vNext)
      (vIfS (vTest (vOp vNotIn (vVar 6) (vAny 4))) (vDrop (vApp 4 (vVar 6))) vNext)))))
      (vRetO 4)))
def v_law_facts : D → List D → Option (VR D × D) := vmkI true 4 9 vb_law_facts
def cd_REVERSING : D := (.tuple [(.str "subrole_inverse"), (.str "disjoint_inverse")])
def cd_MOST_CHAIN_STEPS : D := (.int 40)
def vb_is_integer : VSM := (vRet (vAnd (vU (vIsi "int") (vVar 0)) (vNot (vU (vIsi "bool") (vVar 0)))))
def v_is_integer : List D → Option (VR D) := vmk false 1 1 vb_is_integer
def vb_is_index : VSM := (vRet (vAnd (vCall v_is_integer (vCons (vVar 0) vNil)) (vChain vLe vLt (vC (.int 0)) (vVar 0) (vVar 1))))
def v_is_index : List D → Option (VR D) := vmk false 2 2 vb_is_index
def vb_check_concept : VSM := (vIfS (vNotT (vTest (vCall v_is_concept (vCons (vVar 0) vNil)))) (vRaise0 "InvalidConcept") vNext)
def v_check_concept : List D → Option (VR D) := vmk false 1 1 vb_check_concept
def vb_check_direction : VSM := (vIfS (vNotT (vTest (vCall v_is_direction (vCons (vVar 0) vNil)))) (vRaise0 "InvalidConcept") vNext)
def v_check_direction : List D → Option (VR D) := vmk false 1 1 vb_check_direction
def vb_inverse : VSM := (vSeq (vDrop (vCall v_check_direction (vCons (vVar 0) vNil)))
      (vRet (vTup (vCons (vIf (vTest (vOp vEq (vOp vIx (vVar 0) (vC (.int 0))) (vC (.str "out")))) (vC (.str "in")) (vC (.str "out"))) (vCons (vOp vIx (vVar 0) (vC (.int 1))) vNil)))))
def v_inverse : List D → Option (VR D) := vmk false 1 1 vb_inverse
def vb_second_direction : VSM := (vSeq (vSet 2 (vTup (vCons (vOp vIx (vVar 1) (vC (.int 0))) (vCons (vOp vIx (vVar 0) (vC (.int 2))) vNil))))
      (vRet (vIf (vTest (vOp vIn (vOp vIx (vVar 0) (vC (.int 0))) (vC cd_REVERSING))) (vCall v_inverse (vCons (vVar 2) vNil)) (vVar 2))))
def v_second_direction : List D → Option (VR D) := vmk false 2 3 vb_second_direction
def vb_led_to : VSM := (vSeq (vIfS (vAndT (vTest (vOp vEq (vOp vIx (vVar 0) (vC (.int 0))) (vC (.str "subclass")))) (vAndT (vTest (vOp vEq (vOp vIx (vVar 0) (vC (.int 1))) (vVar 1))) (vNotT (vTest (vVar 2))))) (vRet (vOp vIx (vVar 0) (vC (.int 2)))) vNext)
      (vSeq (vIfS (vAndT (vTest (vOp vIn (vOp vIx (vVar 0) (vC (.int 0))) (vC cd_ROLE_INCLUSIONS))) (vAndT (vTest (vCall v_is_direction (vCons (vVar 1) vNil))) (vTest (vOp vEq (vOp vIx (vVar 0) (vC (.int 1))) (vOp vIx (vVar 1) (vC (.int 1))))))) (vRet (vCall v_second_direction (vCons (vVar 0) (vCons (vVar 1) vNil)))) vNext)
      (vRet (vC .none))))
def v_led_to : List D → Option (VR D) := vmk false 3 3 vb_led_to
def vb_chains_from : VSM := (vSeq (vSetO 3 (vDictE (vVar 1)))
      (vSeq (vSet 4 (vLst (vCons (vVar 1) vNil)))
      (vSeq (vWhile (vAndT (vTruL (vVar 4)) (vTest (vOp vLt (vU vLen (vOp vIxD (vAny 3) (vOp vIx (vVar 4) (vC (.int 0))))) (vC cd_MOST_CHAIN_STEPS)))) (vSeq (vSetO 5 (vLst vNil))
      (vSeq (vFor (vVar 4) 6 (vForE (vVar 0) 7 8 (vSeq (vSet 9 (vCall v_led_to (vCons (vVar 8) (vCons (vVar 6) (vCons (vVar 2) vNil)))))
      (vIfS (vAndT (vTest (vOp vNotN (vVar 9) (vC .none))) (vTest (vOp vNotInD (vVar 9) (vAny 3)))) (vSeq (vPutD 3 (vVar 9) (vOp vAddL (vOp vIxD (vAny 3) (vVar 6)) (vLst (vCons (vVar 7) vNil))))
      (vDrop (vApp 5 (vVar 9)))) vNext))))
      (vFrz 5 (vSet 4 (vVar 5))))))
      (vRetO 3))))
def v_chains_from : List D → Option (VR D) := vmk true 3 10 vb_chains_from
def vb_find_chain : VSM := (vSeq (vFor (vTup (vCons (vVar 1) (vCons (vVar 2) vNil))) 4 (vSeq (vDrop (vCall v_check_concept (vCons (vVar 4) vNil)))
      (vIfS (vTest (vVar 3)) (vDrop (vCall v_check_direction (vCons (vVar 4) vNil))) vNext)))
      (vRet (vGet (vCall v_chains_from (vCons (vVar 0) (vCons (vVar 1) (vCons (vVar 3) vNil)))) (vVar 2))))
def v_find_chain : List D → Option (VR D) := vmk false 4 5 vb_find_chain
def vb_is_chain : VSM := (vSeq (vIfS (vOrT (vNotT (vTest (vU (vIsi "list") (vVar 3)))) (vTest (vOp vGt (vU vLen (vVar 3)) (vC cd_MOST_CHAIN_STEPS)))) (vRet (vC (.bool false))) vNext)
      (vSeq (vSet 5 (vVar 1))
      (vSeq (vFor (vVar 3) 6 (vSeq (vIfS (vNotT (vTest (vCall v_is_index (vCons (vVar 6) (vCons (vU vLen (vVar 0)) vNil))))) (vRet (vC (.bool false))) vNext)
      (vSeq (vSet 5 (vCall v_led_to (vCons (vOp vIx (vVar 0) (vVar 6)) (vCons (vVar 5) (vCons (vVar 4) vNil)))))
      (vIfS (vTest (vOp vIsN (vVar 5) (vC .none))) (vRet (vC (.bool false))) vNext))))
      (vRet (vOp vEq (vVar 5) (vVar 2))))))
def v_is_chain : List D → Option (VR D) := vmk false 5 7 vb_is_chain
def vb_law_successor : VSM := (vSeq (vIfS (vAndT (vTest (vOp vEq (vOp vIx (vVar 0) (vC (.int 0))) (vC (.str "subclass")))) (vNotT (vTest (vVar 2)))) (vRet (vIf (vTest (vOp vEq (vOp vIx (vVar 0) (vC (.int 1))) (vVar 1))) (vOp vIx (vVar 0) (vC (.int 2))) (vC .none))) vNext)
      (vSeq (vIfS (vOrT (vTest (vOp vNotIn (vOp vIx (vVar 0) (vC (.int 0))) (vTup (vCons (vC (.str "subrole")) (vCons (vC (.str "subrole_inverse")) vNil))))) (vOrT (vTest (vOp vEq (vOp vIx (vVar 1) (vC (.int 0))) (vC (.str "concept")))) (vTest (vOp vNe (vOp vIx (vVar 1) (vC (.int 1))) (vOp vIx (vVar 0) (vC (.int 1))))))) (vRet (vC .none)) vNext)
      (vSeq (vIfS (vTest (vOp vEq (vOp vIx (vVar 0) (vC (.int 0))) (vC (.str "subrole")))) (vRet (vTup (vCons (vOp vIx (vVar 1) (vC (.int 0))) (vCons (vOp vIx (vVar 0) (vC (.int 2))) vNil)))) vNext)
      (vRet (vTup (vCons (vOp vIx (vLst (vCons (vC (.str "out")) (vCons (vC (.str "in")) vNil))) (vU vInt (vOp vEq (vOp vIx (vVar 1) (vC (.int 0))) (vC (.str "out"))))) (vCons (vOp vIx (vVar 0) (vC (.int 2))) vNil)))))))
def v_law_successor : List D → Option (VR D) := vmk false 3 3 vb_law_successor
end DV.Com

namespace DV.Com
open PySem DI DV
/-! ### loops -/
theorem vloop_inv {I : VEnv → Prop} {j : Nat} {b : VSM} : ∀ (ds : List D), (∀ d v, d ∈ ds → I v → ∃ v', b (v.set j (some (false, d))) = some (.nx, v') ∧ I v') → ∀ v, I v → ∃ v', vloop j b ds v = some (.nx, v') ∧ I v'
  | [], _, v, hv => ⟨v, rfl, hv⟩
  | d :: ds, h, v, hv => by
    obtain ⟨v1, e1, h1⟩ := h d v List.mem_cons_self hv
    obtain ⟨v2, e2, h2⟩ := vloop_inv ds (fun d v hd => h d v (List.mem_cons_of_mem _ hd)) v1 h1
    refine ⟨v2, ?_, h2⟩
    unfold vloop
    rw [e1]; exact e2
theorem seq_nx {f g : VSM} {v v1 : VEnv} {o : Option (VFl × VEnv)} (h : f v = some (.nx, v1)) (k : g v1 = o) : vSeq f g v = o := by unfold vSeq; rw [h]; exact k
/-! ### draws -/
abbrev MM : Int := 2147483647
/-- a stream -/
def SD (d : D) : Prop := ∃ a b : Int, d = .list [.int a, .int b] ∧ 0 ≤ b ∧ b < MM
theorem draw_spec {d : D} {c : Int} (h : SD d) (hc : 0 < c) (hc2 : c < 1073741824) : ∃ (r : Nat) (d' : D), (r : Int) < c ∧ SD d' ∧ v_law_draw d [.int c] = some (.ok (.int r), d') := by
  obtain ⟨a, b, rfl, hb, hb2⟩ := h
  have cm : ∀ x, cMod x c = true := fun x => decide_eq_true hc
  have cd : ∀ x, cDiv x c = true := fun x => by unfold cDiv; rw [decide_eq_true hc, decide_eq_true hc2]; rfl
  by_cases ha : 0 < a
  · have r0 := Int.emod_nonneg a (by omega : c ≠ 0)
    have r1 := Int.emod_lt_of_pos a hc
    refine ⟨(a % c).toNat, .list [.int (a / c), .int b], by omega, ⟨_, _, rfl, hb, hb2⟩, ?_⟩
    rw [Int.toNat_of_nonneg r0]
    simp [v_law_draw, vb_law_draw, vmkI, vSeq, vIfS, vbS, vTest, vbnd, vOp, vAny, vVar, vC, vret, asV, vI, yes2, vIx, vPut, vPutK, vSet, vRet, L2.ixN, L2.atI, ha, cm, cd]
  · let b' : Int := (b * 69621 + 7) % 2147483647
    have b0 : 0 ≤ b' := Int.emod_nonneg _ (by decide)
    have b1 : b' < MM := Int.emod_lt_of_pos _ (by decide)
    let r : Int := (b' * b') % 2147483629 / 32 % c
    have r0 : 0 ≤ r := Int.emod_nonneg _ (by omega)
    have r1 : r < c := Int.emod_lt_of_pos _ hc
    refine ⟨r.toNat, .list [.int a, .int b'], by omega, ⟨_, _, rfl, b0, b1⟩, ?_⟩
    rw [Int.toNat_of_nonneg r0]
    have e1 : cMul b 69621 = true := by unfold cMul; simp
    have e2 : cMul ((b * 69621 + 7) % 2147483647) ((b * 69621 + 7) % 2147483647) = true := by
      unfold cMul
      have : decide (-(2 ^ 64) < (b * 69621 + 7) % 2147483647) = true := decide_eq_true (by omega)
      have t2 : decide ((b * 69621 + 7) % 2147483647 < 2 ^ 64) = true := decide_eq_true (by omega)
      rw [this, t2]; rfl
    have e3 : ∀ x, cMod x 2147483647 = true := fun x => rfl
    have e4 : ∀ x, cMod x 2147483629 = true := fun x => rfl
    have e5 : ∀ x, cDiv x 32 = true := fun x => rfl
    simp [v_law_draw, vb_law_draw, vmkI, vSeq, vIfS, vbS, vTest, vbnd, vOp, vAny, vVar, vC, vret, asV, vI, yes2, vIx, vPut, vPutK, vSet, vRet, vNext, vAdd, L2.ixN, L2.atI, ha, cm, e1, e2, e3, e4, e5]
    exact ⟨rfl, rfl⟩
theorem choose_spec {d : D} {xs : List D} (h : SD d) (h0 : 0 < xs.length) (hz : xs.length < 1000) : ∃ x d', x ∈ xs ∧ SD d' ∧ v_law_choose d [.list xs] = some (.ok x, d') := by
  obtain ⟨r, d', hr, hd, e⟩ := draw_spec (c := (xs.length : Int)) h (by omega) (by omega)
  have hr' : r < xs.length := by omega
  refine ⟨xs[r], d', List.getElem_mem hr', hd, ?_⟩
  have at_ : L2.atI xs (r : Int) = some xs[r] := L2.atI_nat (by simp [hr'])
  simp [v_law_choose, vb_law_choose, vmkI, vRet, vbS, vOp, vbnd, vVar, vCallI, vCons, vU, vLen, vNil, vret, e, vIx, at_]
end DV.Com

namespace DV.Com
open PySem DI DV
/-! ### names -/
abbrev Cfg := List Str × List Str
def ssD (xs : List Str) : D := .list (xs.map .str)
def cfgD (g : Cfg) : D := .tuple [ssD g.1, ssD g.2]
def hC (h : Str) : List Str := [h ++ "a", h ++ "b", h ++ "c", h ++ "d"]
def hR (h : Str) : List Str := [h ++ "r", h ++ "s", h ++ "t"]
def cfgs : List Cfg := (["", "k", "zzzzzzz"] : List Str).flatMap fun h => [(hC h, hR h), (hC h, (hC h).take 3)]
theorem pick_lt {α : Type} {xs : List α} {r : Nat} (h : (r : Int) < xs.length) : ∃ x, x ∈ xs ∧ L2.atI xs (r : Int) = some x := by
  have hr : r < xs.length := by omega
  exact ⟨xs[r], List.getElem_mem hr, L2.atI_nat (by simp [hr])⟩
theorem names_spec {d : D} (h : SD d) : ∃ g d', g ∈ cfgs ∧ SD d' ∧ v_law_names d [] = some (.ok (cfgD g), d') := by
  obtain ⟨r, d1, hr, h1, e1⟩ := draw_spec (c := 3) h (by decide) (by decide)
  obtain ⟨q, d2, hq, h2, e2⟩ := draw_spec (c := 4) h1 (by decide) (by decide)
  have main : ∀ hd : Str, L2.atI ([.str "", .str "k", .str "zzzzzzz"] : List D) (r : Int) = some (.str hd) →
      (vSet 2 (vLc (vC (.str "abcd")) 4 vYes (vOp vAdd (vVar 1) (vVar 4))) [some (true, d1), some (false, .str hd), none, none, none] = some (.nx, [some (true, d1), some (false, .str hd), some (false, ssD (hC hd)), none, none])) →
      (vSet 3 (vLc (vC (.str "rst")) 4 vYes (vOp vAdd (vVar 1) (vVar 4))) [some (true, d1), some (false, .str hd), some (false, ssD (hC hd)), none, none] = some (.nx, [some (true, d1), some (false, .str hd), some (false, ssD (hC hd)), some (false, ssD (hR hd)), none])) →
      (hC hd, hR hd) ∈ cfgs → (hC hd, (hC hd).take 3) ∈ cfgs → ∃ g d', g ∈ cfgs ∧ SD d' ∧ v_law_names d [] = some (.ok (cfgD g), d') := fun hd a1 s2 s3 m1 m2 => by
    have s1 : vSet 1 (vOp vIx (vLst (vCons (vC (.str "")) (vCons (vC (.str "k")) (vCons (vC (.str "zzzzzzz")) vNil)))) (vCallI v_law_draw 0 (vCons (vC (.int 3)) vNil))) [some (true, d), none, none, none, none] = some (.nx, [some (true, d1), some (false, .str hd), none, none, none]) := by
      simp [vSet, vbS, vOp, vbnd, vLst, vCons, vC, vNil, vret, vCallI, e1, vIx, a1, szW]
    have fin : ∀ b : Bool, ((q : Int) == 0) = b → v_law_names d [] = some (.ok (cfgD (if b then (hC hd, (hC hd).take 3) else (hC hd, hR hd))), d2) := fun b hb => by
      have s4 : (vRet (vTup (vCons (vVar 2) (vCons (vOp vIx (vLst (vCons (vVar 3) (vCons (vSl vSlice (vVar 2) vNoPart (vPart (vC (.int 3)))) vNil))) (vU vInt (vOp vEq (vCallI v_law_draw 0 (vCons (vC (.int 4)) vNil)) (vC (.int 0))))) vNil)))) [some (true, d1), some (false, .str hd), some (false, ssD (hC hd)), some (false, ssD (hR hd)), none] = some (.rt (cfgD (if b then (hC hd, (hC hd).take 3) else (hC hd, hR hd))), [some (true, d2), some (false, .str hd), some (false, ssD (hC hd)), some (false, ssD (hR hd)), none]) := by
        have ct : cutD ((hC hd).map .str) none (some 3) = ((hC hd).take 3).map .str := rfl
        cases b <;> simp [vRet, vbS, vTup, vbnd, vCons, vVar, vOp, vLst, vSl, vNoPart, vPart, vC, vNil, vret, vU, vEq, vCallI, e2, vInt, hb, vSlice, ssD, ct, vIx, L2.atI, L2.ixN, szW, cfgD]
      have : vb_law_names [some (true, d), none, none, none, none] = _ := seq_nx s1 (seq_nx s2 (seq_nx s3 s4))
      show (match vb_law_names [some (true, d), none, none, none, none] with | some (.nx, v) => _ | some (.rt r, v) => _ | some (.exc c fs, v) => _ | _ => _) = _
      rw [this]; rfl
    refine ⟨_, d2, ?_, h2, fin _ rfl⟩
    cases ((q : Int) == 0) <;> assumption
  have hr3 : r = 0 ∨ r = 1 ∨ r = 2 := by omega
  rcases hr3 with rfl | rfl | rfl
  · exact main "" rfl (by kernel_rfl) (by kernel_rfl) (by simp [cfgs]) (by simp [cfgs])
  · exact main "k" rfl (by kernel_rfl) (by kernel_rfl) (by simp [cfgs]) (by simp [cfgs])
  · exact main "zzzzzzz" rfl (by kernel_rfl) (by kernel_rfl) (by simp [cfgs]) (by simp [cfgs])
/-! ### concepts, axioms -/
def two (t x : Str) : D := .tuple [.str t, .str x]
def cos (g : Cfg) : List D := g.1.map (two "concept") ++ (g.2.map (two "out") ++ g.2.map (two "in"))
def gOk (g : Cfg) : Bool := (decide (0 < g.1.length) && decide (g.1.length < 100)) && (decide (0 < g.2.length) && decide (g.2.length < 100))
theorem cfgs_ok : ∀ g ∈ cfgs, gOk g = true := by decide +kernel
theorem ss_choose {d : D} {xs : List Str} (h : SD d) (h0 : 0 < xs.length) (hz : xs.length < 1000) : ∃ x d', x ∈ xs ∧ SD d' ∧ v_law_choose d [ssD xs] = some (.ok (.str x), d') := by
  obtain ⟨y, d', hy, hd, e⟩ := choose_spec (xs := xs.map .str) h (by simpa using h0) (by simpa using hz)
  obtain ⟨x, hx, rfl⟩ := List.mem_map.mp hy
  exact ⟨x, d', hx, hd, e⟩
theorem concept_spec {d : D} {g : Cfg} (h : SD d) (hg : gOk g = true) : ∃ x d', x ∈ cos g ∧ SD d' ∧ v_law_concept d [cfgD g] = some (.ok x, d') := by
  unfold gOk at hg
  simp only [Bool.and_eq_true, decide_eq_true_eq] at hg
  obtain ⟨r, d1, hr, h1, e1⟩ := draw_spec (c := 4) h (by decide) (by decide)
  obtain ⟨x, d2, hx, h2, e2⟩ := ss_choose (xs := g.1) h1 (by omega) (by omega)
  obtain ⟨y, d3, hy, h3, e3⟩ := ss_choose (xs := g.2) h1 (by omega) (by omega)
  have hr4 : r = 0 ∨ r = 1 ∨ r = 2 ∨ r = 3 := by omega
  have ev : ∀ (t : Str) (z : Str) (d' : D), L2.atI ([.str "concept", .str "concept", .str "out", .str "in"] : List D) (r : Int) = some (.str t) → v_law_choose d1 [if (t == "concept") then ssD g.1 else ssD g.2] = some (.ok (.str z), d') → v_law_concept d [cfgD g] = some (.ok (two t z), d') := fun t z d' a b => by
    have i0 : L2.atI ([ssD g.1, ssD g.2] : List D) 0 = some (ssD g.1) := rfl
    have i1 : L2.atI ([ssD g.1, ssD g.2] : List D) 1 = some (ssD g.2) := rfl
    cases ht : (t == ("concept" : Str)) <;> rw [ht] at b <;> simp only [if_true, Bool.false_eq_true, if_false] at b <;>
    simp [v_law_concept, vb_law_concept, vmkI, vSeq, vSet, vbS, vOp, vbnd, vLst, vCons, vC, vNil, vret, vCallI, e1, vIx, a, szW, vRet, vTup, vVar, vU, vInt, vNe, ht, cfgD, i0, i1, b, two]
  rcases hr4 with rfl | rfl | rfl | rfl
  · exact ⟨_, d2, by unfold cos; simp only [List.mem_append, List.mem_map]; exact .inl ⟨x, hx, rfl⟩, h2, ev "concept" x d2 rfl e2⟩
  · exact ⟨_, d2, by unfold cos; simp only [List.mem_append, List.mem_map]; exact .inl ⟨x, hx, rfl⟩, h2, ev "concept" x d2 rfl e2⟩
  · exact ⟨_, d3, by unfold cos; simp only [List.mem_append, List.mem_map]; exact .inr (.inl ⟨y, hy, rfl⟩), h3, ev "out" y d3 rfl e3⟩
  · exact ⟨_, d3, by unfold cos; simp only [List.mem_append, List.mem_map]; exact .inr (.inr ⟨y, hy, rfl⟩), h3, ev "in" y d3 rfl e3⟩
/-- the axioms of a word -/
def axT (g : Cfg) (t : Str) : List D :=
  if t == "subclass" || t == "disjoint" then (cos g).flatMap fun a => (cos g).map fun b => .tuple [.str t, a, b]
  else if t == "functional" then (["out", "in"] : List Str).flatMap fun u => g.2.map fun x => .tuple [.str t, two u x]
  else g.2.flatMap fun a => g.2.map fun b => .tuple [.str t, .str a, .str b]
theorem axiom_spec {d : D} {g : Cfg} {menu : List Str} (h : SD d) (hg : gOk g = true) (h0 : 0 < menu.length) (hz : menu.length < 1000) : ∃ t x d', t ∈ menu ∧ x ∈ axT g t ∧ SD d' ∧ v_law_axiom d [cfgD g, ssD menu] = some (.ok x, d') := by
  have hg' := hg
  unfold gOk at hg'
  simp only [Bool.and_eq_true, decide_eq_true_eq] at hg'
  obtain ⟨t, d1, ht, h1, e1⟩ := ss_choose (xs := menu) h h0 hz
  by_cases ha : (t == "subclass" || t == "disjoint") = true
  · obtain ⟨a, d2, hA, h2, e2⟩ := concept_spec h1 hg
    obtain ⟨b, d3, hB, h3, e3⟩ := concept_spec h2 hg
    refine ⟨t, .tuple [.str t, a, b], d3, ht, ?_, h3, ?_⟩
    · unfold axT; rw [if_pos ha, List.mem_flatMap]; exact ⟨a, hA, List.mem_map.mpr ⟨b, hB, rfl⟩⟩
    · cases q : (t == ("subclass" : Str)) with
      | true => simp [v_law_axiom, vb_law_axiom, vmkI, vSeq, vSet, vbS, vbnd, vCons, vC, vNil, vret, vCallI, e1, e2, e3, vVar, vIfS, vOrT, vTest, vOp, vEq, q, asV, vRet, vTup, szW]
      | false =>
        have q2 : (t == ("disjoint" : Str)) = true := by rw [q] at ha; simpa using ha
        simp [v_law_axiom, vb_law_axiom, vmkI, vSeq, vSet, vbS, vbnd, vCons, vC, vNil, vret, vCallI, e1, e2, e3, vVar, vIfS, vOrT, vTest, vOp, vEq, q, q2, asV, vRet, vTup, szW]
  · have ha : (t == ("subclass" : Str)) = false ∧ (t == ("disjoint" : Str)) = false := by simpa using ha
    have hor : (t == ("subclass" : Str) || t == ("disjoint" : Str)) = false := by rw [ha.1, ha.2]; rfl
    by_cases hf : (t == ("functional" : Str)) = true
    · obtain ⟨r, d2, hr, h2, e2⟩ := draw_spec (c := 2) h1 (by decide) (by decide)
      obtain ⟨x, d3, hx, h3, e3⟩ := ss_choose (xs := g.2) h2 (by omega) (by omega)
      have ev : ∀ u : Str, L2.atI ([.str "out", .str "in"] : List D) (r : Int) = some (.str u) → u ∈ (["out", "in"] : List Str) → ∃ t x d', t ∈ menu ∧ x ∈ axT g t ∧ SD d' ∧ v_law_axiom d [cfgD g, ssD menu] = some (.ok x, d') := fun u a hu => by
        refine ⟨t, .tuple [.str t, two u x], d3, ht, ?_, h3, ?_⟩
        · unfold axT; rw [if_neg (by rw [hor]; decide), if_pos hf, List.mem_flatMap]; exact ⟨u, hu, List.mem_map.mpr ⟨x, hx, rfl⟩⟩
        · have i1 : L2.atI ([ssD g.1, ssD g.2] : List D) 1 = some (ssD g.2) := rfl
          simp [v_law_axiom, vb_law_axiom, vmkI, vSeq, vSet, vbS, vbnd, vCons, vC, vNil, vret, vCallI, e1, e2, e3, vVar, vIfS, vOrT, vTest, vOp, vEq, ha.1, ha.2, hf, asV, vRet, vTup, szW, vNext, vLst, vIx, a, two, cfgD, i1]
      have hr2 : r = 0 ∨ r = 1 := by omega
      rcases hr2 with rfl | rfl
      · exact ev "out" rfl (by simp)
      · exact ev "in" rfl (by simp)
    · have hf : (t == ("functional" : Str)) = false := by simpa using hf
      obtain ⟨a, d2, hA, h2, e2⟩ := ss_choose (xs := g.2) h1 (by omega) (by omega)
      obtain ⟨b, d3, hB, h3, e3⟩ := ss_choose (xs := g.2) h2 (by omega) (by omega)
      refine ⟨t, .tuple [.str t, .str a, .str b], d3, ht, ?_, h3, ?_⟩
      · unfold axT; rw [if_neg (by rw [hor]; decide), if_neg (by rw [hf]; decide), List.mem_flatMap]; exact ⟨a, hA, List.mem_map.mpr ⟨b, hB, rfl⟩⟩
      · simp [v_law_axiom, vb_law_axiom, vmkI, vSeq, vSet, vbS, vbnd, vCons, vC, vNil, vret, vCallI, e1, e2, e3, vVar, vIfS, vOrT, vTest, vOp, vEq, ha.1, ha.2, hf, asV, vRet, vTup, szW, vNext, vIx, cfgD, L2.atI, L2.ixN]
end DV.Com

namespace DV.Com
open PySem DI DV
/-! ### comprehensions whose parts write nothing -/
theorem vlcL_pure {j : Nat} {t : VM Bool} {f : VM D} {p : D → Bool} {h : D → D} {v : VEnv} : ∀ (ds : List D), (∀ d ∈ ds, t (v.set j (some (false, d))) = some (.ok (p d), v.set j (some (false, d)))) → (∀ d ∈ ds, p d = true → f (v.set j (some (false, d))) = some (.ok (h d), v.set j (some (false, d)))) →
    ∀ (acc : List D) (o : Option (Bool × D)), acc.length + ds.length ≤ 1000000 → ∃ o', vlcL j t f ds acc (v.set j o) = some (.ok (acc ++ (ds.filter p).map h), v.set j o')
  | [], _, _, acc, o, hz => ⟨o, by unfold vlcL; have : szW acc.length = true := decide_eq_true (by simpa using hz); simp [this]⟩
  | d :: ds, ht, hf, acc, o, hz => by
    unfold vlcL
    rw [List.set_set, ht d List.mem_cons_self]
    have z : szW acc.length = true := decide_eq_true (by simp at hz; omega)
    have ht' : ∀ e ∈ ds, t (v.set j (some (false, e))) = some (.ok (p e), v.set j (some (false, e))) := fun e he => ht e (List.mem_cons_of_mem _ he)
    have hf' : ∀ e ∈ ds, p e = true → f (v.set j (some (false, e))) = some (.ok (h e), v.set j (some (false, e))) := fun e he => hf e (List.mem_cons_of_mem _ he)
    cases hp : p d with
    | true =>
      simp only
      rw [hf d List.mem_cons_self hp]
      simp only [z, if_true]
      obtain ⟨o', e⟩ := vlcL_pure ds ht' hf' (acc ++ [h d]) (some (false, d)) (by simp at hz ⊢; omega)
      exact ⟨o', by rw [e]; simp [List.filter_cons, hp]⟩
    | false =>
      simp only
      obtain ⟨o', e⟩ := vlcL_pure ds ht' hf' acc (some (false, d)) (by simp at hz ⊢; omega)
      exact ⟨o', by rw [e]; simp [List.filter_cons, hp]⟩
theorem vLcI_pure {j : Nat} {t : VM Bool} {f : VM D} {p : D → Bool} {h : D → D} {v : VEnv} {ds : List D} (hv : v[j]? = some none) (ht : ∀ d ∈ ds, t (v.set j (some (false, d))) = some (.ok (p d), v.set j (some (false, d)))) (hf : ∀ d ∈ ds, p d = true → f (v.set j (some (false, d))) = some (.ok (h d), v.set j (some (false, d)))) (hz : ds.length ≤ 1000000) :
    vLcI j t f ds v = some (.ok (.list ((ds.filter p).map h)), v) := by
  obtain ⟨o', e⟩ := vlcL_pure ds ht hf [] none (by simpa using hz)
  have g : v.getD j none = none := by rw [List.getD_eq_getElem?_getD, hv]; rfl
  unfold vLcI
  rw [g]
  simp only
  rw [e]
  simp only [List.nil_append, List.set_set]
  have : v.set j none = v := by
    apply List.ext_getElem?
    intro m
    by_cases q : j = m
    · subst q; rw [List.getElem?_set_self (List.getElem?_eq_some_iff.mp hv).1, hv]
    · rw [List.getElem?_set_ne q]
  rw [this]
/-! ### in -/
theorem in_list {d : D} {ds : List D} (h1 : okT d = true) (h2 : ds.all okT = true) (d1 : d.depth < 24) (d2 : PyData.depthAll ds < 23) : vIn d (.list ds) = some (.bool (ds.any fun z => eqT z d)) := by
  have e : vIn d (.list ds) = vDat dIn d (.list ds) := by cases d <;> rfl
  rw [e]
  unfold vDat
  have a : dp d = true := decide_eq_true d1
  have b : dp (.list ds) = true := decide_eq_true (by show PyData.depthAll ds + 1 < 24; omega)
  rw [a, b]
  simp only [Bool.and_self, if_true]
  unfold dIn
  simp only
  rw [h1, h2]; rfl
theorem in_tuple {d : D} {ds : List D} (h1 : okT d = true) (h2 : ds.all okT = true) (d1 : d.depth < 24) (d2 : PyData.depthAll ds < 23) : vIn d (.tuple ds) = some (.bool (ds.any fun z => eqT z d)) := by
  have e : vIn d (.tuple ds) = vDat dIn d (.tuple ds) := by cases d <;> rfl
  rw [e]
  unfold vDat
  have a : dp d = true := decide_eq_true d1
  have b : dp (.tuple ds) = true := decide_eq_true (by show PyData.depthAll ds + 1 < 24; omega)
  rw [a, b]
  simp only [Bool.and_self, if_true]
  unfold dIn
  simp only
  rw [h1, h2]; rfl
theorem depthAll_le {ds : List D} {n : Nat} (h : ∀ x ∈ ds, x.depth ≤ n) : PyData.depthAll ds ≤ n := by
  induction ds with
  | nil => exact Nat.zero_le _
  | cons d ds ih => exact Nat.max_le.mpr ⟨h d List.mem_cons_self, ih fun x hx => h x (List.mem_cons_of_mem _ hx)⟩
/-! steps, with letters -/
theorem forR_at {rv : List D → Option (Int × Nat)} {ga : VM (List D)} {j : Nat} {b : VSM} {v v1 : VEnv} {ds : List D} {lo : Int} {n : Nat} {o : Option (VFl × VEnv)} (h1 : ga v = some (.ok ds, v1)) (h2 : rv ds = some (lo, n)) (h3 : vloop j b (rngD lo n) v1 = o) : vForR rv ga j b v = o := by
  unfold vForR
  rw [h1]
  simp only [vbS]
  rw [h2]
  exact h3
theorem lcR_at {rv : List D → Option (Int × Nat)} {ga : VM (List D)} {j : Nat} {t : VM Bool} {f : VM D} {v v1 : VEnv} {ds : List D} {lo : Int} {n : Nat} {o : VO D} (h1 : ga v = some (.ok ds, v1)) (h2 : rv ds = some (lo, n)) (h3 : vLcI j t f (rngD lo n) v1 = o) : vLcR rv ga j t f v = o := by
  unfold vLcR
  rw [h1]
  simp only [vbnd]
  rw [h2]
  exact h3
theorem lcI_at {j : Nat} {t : VM Bool} {f : VM D} {ds xs : List D} {v v2 : VEnv} (h1 : ∀ d, v.getD j none ≠ some (true, d)) (h2 : vlcL j t f ds [] (v.set j none) = some (.ok xs, v2)) : vLcI j t f ds v = some (.ok (.list xs), v2.set j (v.getD j none)) := by
  unfold vLcI
  split
  · rename_i d z; exact absurd z (h1 d)
  · rw [h2]
theorem setOF_at {i : Nat} {g : VM D} {v v1 : VEnv} {xs : List D} (h1 : g v = some (.ok (.list xs), v1)) (h2 : ownFlat i v1 = true) : vSetOF i g v = some (.nx, v1.set i (some (true, .list xs))) := by
  unfold vSetOF
  rw [h1]
  simp only [vbS]
  rw [h2]; rfl
theorem set_at1 {i : Nat} {g : VM D} {v v1 : VEnv} {d : D} (h1 : g v = some (.ok d, v1)) : vSet i g v = some (.nx, v1.set i (some (false, d))) := by
  unfold vSet; rw [h1]; rfl
theorem if_at {c : VM Bool} {f g : VSM} {v v1 : VEnv} {o : Option (VFl × VEnv)} (h1 : c v = some (.ok false, v1)) (h2 : g v1 = o) : vIfS c f g v = o := by
  unfold vIfS; rw [h1]; exact h2
theorem test_at {g : VM D} {v v1 : VEnv} {b : Bool} (h : g v = some (.ok (.bool b), v1)) : vTest g v = some (.ok b, v1) := by unfold vTest; rw [h]; rfl
theorem op_at {vop : D → D → Option D} {ga gb : VM D} {v v1 v2 : VEnv} {a b r : D} (h1 : ga v = some (.ok a, v1)) (h2 : gb v1 = some (.ok b, v2)) (h3 : vop a b = some r) : vOp vop ga gb v = some (.ok r, v2) := by
  unfold vOp; rw [h1]; simp only [vbnd]; rw [h2]; simp only; rw [h3]; rfl
theorem call_at {g : List D → Option (VR D)} {gs : VM (List D)} {v v1 : VEnv} {ds : List D} {r : VR D} (h1 : gs v = some (.ok ds, v1)) (h2 : g ds = some r) : vCall g gs v = some (r, v1) := by
  unfold vCall; rw [h1]; simp only [vbnd]; rw [h2]; rfl
theorem cons_at {ga : VM D} {gs : VM (List D)} {v v1 v2 : VEnv} {a : D} {as : List D} (h1 : ga v = some (.ok a, v1)) (h2 : gs v1 = some (.ok as, v2)) : vCons ga gs v = some (.ok (a :: as), v2) := by
  unfold vCons; rw [h1]; simp only [vbnd]; rw [h2]
theorem nil_at {v : VEnv} : vNil v = some (.ok [], v) := rfl
theorem var_at {i : Nat} {v : VEnv} {d : D} (h : v[i]? = some (some (false, d))) : vVar i v = some (.ok d, v) := by unfold vVar; rw [h]
theorem any_at {i : Nat} {v : VEnv} {fl : Bool} {d : D} (h : v[i]? = some (some (fl, d))) : vAny i v = some (.ok d, v) := by unfold vAny; rw [h]
theorem u_at {vop : D → Option D} {ga : VM D} {v v1 : VEnv} {a r : D} (h1 : ga v = some (.ok a, v1)) (h2 : vop a = some r) : vU vop ga v = some (.ok r, v1) := by
  unfold vU; rw [h1]; simp only [vbnd]; rw [h2]; rfl
theorem frz_at {i : Nat} {v : VEnv} {d : D} (h : v[i]? = some (some (true, d))) : frz i v = v.set i (some (false, d)) := by unfold frz; rw [h]
theorem frz_no {i : Nat} {v : VEnv} {d : D} (h : v[i]? = some (some (false, d))) : frz i v = v := by unfold frz; rw [h]
theorem rng_ok (r : Nat) (h : r < 1000) : rngV1 [.int r] = some (0, r) := by
  have h1 : (-4611686018427387904 : Int) ≤ (r : Int) := by omega
  have h2 : (r : Int) < 4611686018427387904 := by omega
  have e1 : (-(2 ^ 62) : Int) = -4611686018427387904 := by decide
  have e2 : (2 ^ 62 : Int) = 4611686018427387904 := by decide
  unfold rngV1
  simp only
  rw [e1, e2, decide_eq_true h1, decide_eq_true h2]
  simp only [Bool.and_self, if_true]
  rw [Int.toNat_natCast]
end DV.Com

namespace DV.Com
open PySem DI DV
/-! ### keys and == -/
theorem nkDs_cons {d : D} {ds : List D} {ks : List NestedKey} (h : nkDs (d :: ds) = some ks) : ∃ k ks', nkD d = some k ∧ nkDs ds = some ks' ∧ ks = k :: ks' := by
  unfold nkDs at h
  split at h
  · rename_i k ks' h1 h2
    cases h; exact ⟨k, ks', h1, h2, rfl⟩
  · cases h
mutual
theorem eqv_nk : ∀ (z x : D) {a b : NestedKey}, nkD z = some a → nkD x = some b → PyData.eqv z x = decide (a = b)
  | .none, x, a, b, hz, hx => by cases hz; cases x <;> first | (cases hx; done) | (cases hx; rfl) | (simp only [nkD, Option.map_eq_some_iff] at hx; obtain ⟨_, _, rfl⟩ := hx; rfl)
  | .bool p, x, a, b, hz, hx => by
    cases hz
    cases x with
    | none => cases hx; rfl
    | bool q => cases hx; cases p <;> cases q <;> rfl
    | int j =>
      cases hx
      show ((if p then 1 else 0) == j) = decide (NestedKey.num (if p = true then 1 else 0) = .num j)
      by_cases e : (if p = true then (1 : Int) else 0) = j
      · rw [e]; simp
      · have : NestedKey.num (if p = true then 1 else 0) ≠ .num j := fun z => e (by injection z)
        rw [decide_eq_false this]; simpa using e
    | str y => cases hx; rfl
    | tuple ys => simp only [nkD, Option.map_eq_some_iff] at hx; obtain ⟨_, _, rfl⟩ := hx; rfl
    | list ys => cases hx
    | dict ys => cases hx
  | .int i, x, a, b, hz, hx => by
    cases hz
    cases x with
    | none => cases hx; rfl
    | bool q =>
      cases hx
      show (i == (if q then 1 else 0)) = decide (NestedKey.num i = .num (if q = true then 1 else 0))
      by_cases e : i = (if q = true then (1 : Int) else 0)
      · rw [← e]; simp
      · have : NestedKey.num i ≠ .num (if q = true then 1 else 0) := fun z => e (by injection z)
        rw [decide_eq_false this]; simpa using e
    | int j =>
      cases hx
      show (i == j) = decide (NestedKey.num i = .num j)
      by_cases e : i = j
      · rw [e]; simp
      · have : NestedKey.num i ≠ .num j := fun z => e (by injection z)
        rw [decide_eq_false this]; simpa using e
    | str y => cases hx; rfl
    | tuple ys => simp only [nkD, Option.map_eq_some_iff] at hx; obtain ⟨_, _, rfl⟩ := hx; rfl
    | list ys => cases hx
    | dict ys => cases hx
  | .str s, x, a, b, hz, hx => by
    cases hz
    cases x with
    | none => cases hx; rfl
    | bool q => cases hx; rfl
    | int j => cases hx; rfl
    | str y =>
      cases hx
      show (s == y) = decide (NestedKey.text s = .text y)
      by_cases e : s = y
      · rw [e]; simp
      · have : NestedKey.text s ≠ .text y := fun z => e (by injection z)
        rw [decide_eq_false this]; simpa using e
    | tuple ys => simp only [nkD, Option.map_eq_some_iff] at hx; obtain ⟨_, _, rfl⟩ := hx; rfl
    | list ys => cases hx
    | dict ys => cases hx
  | .tuple zs, x, a, b, hz, hx => by
    simp only [nkD, Option.map_eq_some_iff] at hz
    obtain ⟨ks, hk, rfl⟩ := hz
    cases x with
    | none => cases hx; rfl
    | bool q => cases hx; rfl
    | int j => cases hx; rfl
    | str y => cases hx; rfl
    | tuple ys =>
      simp only [nkD, Option.map_eq_some_iff] at hx
      obtain ⟨ls, hl, rfl⟩ := hx
      show PyData.eqvAll zs ys = _
      rw [eqv_nks zs ys hk hl]
      by_cases e : ks = ls
      · rw [e]; simp
      · have : NestedKey.tup ks ≠ .tup ls := fun z => e (by injection z)
        rw [decide_eq_false this, decide_eq_false e]
    | list ys => cases hx
    | dict ys => cases hx
  | .list _, _, _, _, hz, _ => by cases hz
  | .dict _, _, _, _, hz, _ => by cases hz
theorem eqv_nks : ∀ (zs xs : List D) {as bs : List NestedKey}, nkDs zs = some as → nkDs xs = some bs → PyData.eqvAll zs xs = decide (as = bs)
  | [], [], _, _, hz, hx => by cases hz; cases hx; rfl
  | [], _ :: _, _, _, hz, hx => by
    obtain ⟨_, _, _, _, rfl⟩ := nkDs_cons hx
    cases hz; rfl
  | _ :: _, [], _, _, hz, hx => by
    obtain ⟨_, _, _, _, rfl⟩ := nkDs_cons hz
    cases hx; rfl
  | z :: zs, x :: xs, _, _, hz, hx => by
    obtain ⟨k, ks, h1, h2, rfl⟩ := nkDs_cons hz
    obtain ⟨l, ls, h3, h4, rfl⟩ := nkDs_cons hx
    show (PyData.eqv z x && PyData.eqvAll zs xs) = _
    rw [eqv_nk z x h1 h3, eqv_nks zs xs h2 h4]
    by_cases e : k = l
    · subst e
      by_cases f : ks = ls
      · subst f; simp
      · simp [f]
    · simp [e]
end
theorem eqT_nk {z x : D} {a b : NestedKey} (hz : nkD z = some a) (hx : nkD x = some b) : eqT z x = decide (a = b) := by
  have e1 : isE z = false := by cases z <;> first | rfl | cases hz
  have e2 : isE x = false := by cases x <;> first | rfl | cases hx
  unfold eqT
  rw [e1, e2]
  exact eqv_nk z x hz hx
theorem keyD_nk {d : D} {k : NestedKey} (h : keyD d = some k) : nkD d = some k := by
  unfold keyD at h
  split at h
  · split at h
    · rename_i k0 hk
      split at h
      · cases h; exact hk
      · cases h
    · cases h
  · cases h
/-- what was seen -/
def seenD (pre : List D) : List (D × D) := pre.map fun z => (z, .bool true)
theorem look_seen {x : D} {k : NestedKey} (hx : nkD x = some k) : ∀ {pre : List D}, (∀ z ∈ pre, (nkD z).isSome = true) → (lookD (seenD pre) k).isSome = pre.any fun z => eqT z x
  | [], _ => rfl
  | z :: pre, h => by
    have hz := h z List.mem_cons_self
    have ih := look_seen hx (pre := pre) fun y hy => h y (List.mem_cons_of_mem _ hy)
    cases q : nkD z with
    | none => rw [q] at hz; cases hz
    | some a =>
      show (if nkD z = some k then some (PyData.bool true) else lookD (seenD pre) k).isSome = (eqT z x || pre.any fun z => eqT z x)
      rw [eqT_nk q hx, q]
      by_cases e : a = k
      · subst e; simp
      · rw [if_neg (fun z => e (by injection z)), ih, decide_eq_false e]; rfl
theorem notIn_list {d : D} {ds : List D} (h1 : okT d = true) (h2 : ds.all okT = true) (d1 : d.depth < 24) (d2 : PyData.depthAll ds < 23) : vNotIn d (.list ds) = some (.bool (!(ds.any fun z => eqT z d))) := by
  have e : vNotIn d (.list ds) = vDat dNotIn d (.list ds) := by cases d <;> rfl
  rw [e]
  unfold vDat
  have a : dp d = true := decide_eq_true d1
  have b : dp (.list ds) = true := decide_eq_true (by show PyData.depthAll ds + 1 < 24; omega)
  rw [a, b]
  simp only [Bool.and_self, if_true]
  unfold dNotIn dIn
  simp only
  rw [h1, h2]; rfl
/-! more steps, with letters -/
theorem callI_at {g : D → List D → Option (VR D × D)} {i : Nat} {gs : VM (List D)} {v v1 : VEnv} {ds : List D} {d d' : D} {r : VR D} (h1 : gs v = some (.ok ds, v1)) (h2 : v1[i]? = some (some (true, d))) (h3 : g d ds = some (r, d')) : vCallI g i gs v = some (r, v1.set i (some (true, d'))) := by
  unfold vCallI; rw [h1]; simp only; rw [h2]; simp only; rw [h3]
theorem tup_at {gs : VM (List D)} {v v1 : VEnv} {ds : List D} (h1 : gs v = some (.ok ds, v1)) (h2 : szW ds.length = true) : vTup gs v = some (.ok (.tuple ds), v1) := by
  unfold vTup; rw [h1]; simp only [vbnd]; rw [if_pos h2]
theorem lst_at {gs : VM (List D)} {v v1 : VEnv} {ds : List D} (h1 : gs v = some (.ok ds, v1)) (h2 : szW ds.length = true) : vLst gs v = some (.ok (.list ds), v1) := by
  unfold vLst; rw [h1]; simp only [vbnd]; rw [if_pos h2]
theorem par_at {i j : Nat} {g : VM (List D)} {v v1 : VEnv} {a b : D} (h : g v = some (.ok [a, b], v1)) : vPar i j g v = some (.nx, (v1.set i (some (false, a))).set j (some (false, b))) := by
  unfold vPar; rw [h]; rfl
theorem ifT_at {c : VM Bool} {f g : VSM} {v v1 : VEnv} {o : Option (VFl × VEnv)} (h1 : c v = some (.ok true, v1)) (h2 : f v1 = o) : vIfS c f g v = o := by
  unfold vIfS; rw [h1]; exact h2
theorem drop_at {g : VM D} {v v1 : VEnv} {d : D} (h : g v = some (.ok d, v1)) : vDrop g v = some (.nx, v1) := by unfold vDrop; rw [h]; rfl
theorem app_at {i : Nat} {ge : VM D} {v v1 : VEnv} {d : D} {xs ds : List D} (h0 : v[i]? = some (some (true, .list xs))) (h1 : ge v = some (.ok d, v1)) (h2 : v1[i]? = some (some (true, .list ds))) (h3 : szW (ds.length + 1) = true) : vApp i ge v = some (.ok .none, v1.set i (some (true, .list (ds ++ [d])))) := by
  unfold vApp; rw [h0]; simp only; rw [h1]; simp only [vbnd]; rw [h2]; simp only; rw [if_pos h3]
/-! ### facts -/
def fcs (g : Cfg) (ts : List D) : List D := (g.1.flatMap fun a => ts.map fun t => .tuple [.str "concept", .str a, t]) ++ (g.2.flatMap fun r => ts.flatMap fun t => ts.map fun u => .tuple [.str "role", .str r, t, u])
end DV.Com

namespace DV.Com
open PySem DI DV
theorem setv {v : VEnv} {i : Nat} {o : Option (Bool × D)} (h : i < v.length) : (v.set i o)[i]? = some o := List.getElem?_set_self h
abbrev fBody : VSM := (vSeq (vPar 7 8 (vCons (vCallI v_law_choose 0 (vCons (vVar 2) vNil)) (vCons (vCallI v_law_choose 0 (vCons (vVar 2) vNil)) vNil)))
      (vSeq (vSet 6 (vTup (vCons (vC (.str "concept")) (vCons (vCallI v_law_choose 0 (vCons (vOp vIx (vVar 1) (vC (.int 0))) vNil)) (vCons (vVar 7) vNil)))))
      (vSeq (vIfS (vTest (vOp vEq (vCallI v_law_draw 0 (vCons (vC (.int 2)) vNil)) (vC (.int 0)))) (vSet 6 (vTup (vCons (vC (.str "role")) (vCons (vCallI v_law_choose 0 (vCons (vOp vIx (vVar 1) (vC (.int 1))) vNil)) (vCons (vVar 7) (vCons (vVar 8) vNil)))))) vNext)
      (vIfS (vTest (vOp vNotIn (vVar 6) (vAny 4))) (vDrop (vApp 4 (vVar 6))) vNext))))
/-- one turn, from any frame of this form -/
theorem fact_turn {g : Cfg} (hg : gOk g = true) {ts : List D} (t0 : 0 < ts.length) (t1 : ts.length < 1000) (ok : ∀ x ∈ fcs g ts, okT x = true ∧ x.depth ≤ 5) {d m : D} (sd : SD d) {xs : List D} (hx : ∀ x ∈ xs, x ∈ fcs g ts) (hz : xs.length ≤ 100) (a b c e : Option (Bool × D)) :
    ∃ ys d' a' b' c', SD d' ∧ (∀ x ∈ ys, x ∈ fcs g ts) ∧ ys.length ≤ xs.length + 1 ∧ fBody [some (true, d), some (false, cfgD g), some (false, .list ts), some (false, m), some (true, .list xs), e, a, b, c] = some (.nx, [some (true, d'), some (false, cfgD g), some (false, .list ts), some (false, m), some (true, .list ys), e, a', b', c']) := by
  have hg' := hg
  unfold gOk at hg'
  simp only [Bool.and_eq_true, decide_eq_true_eq] at hg'
  obtain ⟨t, d1, ht, s1, e1⟩ := choose_spec (xs := ts) sd t0 t1
  obtain ⟨u, d2, hu, s2, e2⟩ := choose_spec (xs := ts) s1 t0 t1
  obtain ⟨A, d3, hA, s3, e3⟩ := ss_choose (xs := g.1) s2 (by omega) (by omega)
  obtain ⟨r, d4, hr, s4, e4⟩ := draw_spec (c := 2) s3 (by decide) (by decide)
  obtain ⟨R, d5, hR, s5, e5⟩ := ss_choose (xs := g.2) s4 (by omega) (by omega)
  have mC : PyData.tuple [.str "concept", .str A, t] ∈ fcs g ts := by
    unfold fcs; rw [List.mem_append]; exact .inl (List.mem_flatMap.mpr ⟨A, hA, List.mem_map.mpr ⟨t, ht, rfl⟩⟩)
  have mR : PyData.tuple [.str "role", .str R, t, u] ∈ fcs g ts := by
    unfold fcs; rw [List.mem_append]; exact .inr (List.mem_flatMap.mpr ⟨R, hR, List.mem_flatMap.mpr ⟨t, ht, List.mem_map.mpr ⟨u, hu, rfl⟩⟩⟩)
  have p1 : vPar 7 8 (vCons (vCallI v_law_choose 0 (vCons (vVar 2) vNil)) (vCons (vCallI v_law_choose 0 (vCons (vVar 2) vNil)) vNil)) [some (true, d), some (false, cfgD g), some (false, .list ts), some (false, m), some (true, .list xs), e, a, b, c] = some (.nx, [some (true, d2), some (false, cfgD g), some (false, .list ts), some (false, m), some (true, .list xs), e, a, some (false, t), some (false, u)]) :=
    par_at (cons_at (callI_at (cons_at (var_at rfl) nil_at) rfl e1) (cons_at (callI_at (cons_at (var_at rfl) nil_at) rfl e2) nil_at))
  have i0 : vIx (cfgD g) (.int 0) = some (ssD g.1) := rfl
  have i1 : vIx (cfgD g) (.int 1) = some (ssD g.2) := rfl
  have p2 : vSet 6 (vTup (vCons (vC (.str "concept")) (vCons (vCallI v_law_choose 0 (vCons (vOp vIx (vVar 1) (vC (.int 0))) vNil)) (vCons (vVar 7) vNil)))) [some (true, d2), some (false, cfgD g), some (false, .list ts), some (false, m), some (true, .list xs), e, a, some (false, t), some (false, u)] = some (.nx, [some (true, d3), some (false, cfgD g), some (false, .list ts), some (false, m), some (true, .list xs), e, some (false, .tuple [.str "concept", .str A, t]), some (false, t), some (false, u)]) := by simp [vSet, vbS, vTup, vbnd, vCons, vC, vret, vCallI, vOp, vVar, i0, e3, vNil, szW]
  have dr : vOp vEq (vCallI v_law_draw 0 (vCons (vC (.int 2)) vNil)) (vC (.int 0)) [some (true, d3), some (false, cfgD g), some (false, .list ts), some (false, m), some (true, .list xs), e, some (false, .tuple [.str "concept", .str A, t]), some (false, t), some (false, u)] = some (.ok (.bool ((r : Int) == 0)), [some (true, d4), some (false, cfgD g), some (false, .list ts), some (false, m), some (true, .list xs), e, some (false, .tuple [.str "concept", .str A, t]), some (false, t), some (false, u)]) :=
    op_at (callI_at (cons_at rfl nil_at) rfl e4) rfl rfl
  have last : ∀ (x : D) (dd : D), x ∈ fcs g ts → SD dd → ∃ ys, (∀ x ∈ ys, x ∈ fcs g ts) ∧ ys.length ≤ xs.length + 1 ∧ vIfS (vTest (vOp vNotIn (vVar 6) (vAny 4))) (vDrop (vApp 4 (vVar 6))) vNext [some (true, dd), some (false, cfgD g), some (false, .list ts), some (false, m), some (true, .list xs), e, some (false, x), some (false, t), some (false, u)] = some (.nx, [some (true, dd), some (false, cfgD g), some (false, .list ts), some (false, m), some (true, .list ys), e, some (false, x), some (false, t), some (false, u)]) := fun x dd mx _ => by
    have n1 := notIn_list (ok x mx).1 (ds := xs) (List.all_eq_true.mpr fun y hy => (ok y (hx y hy)).1) (by have := (ok x mx).2; omega) (Nat.lt_of_le_of_lt (depthAll_le fun y hy => (ok y (hx y hy)).2) (by decide))
    have tst := op_at (vop := vNotIn) (ga := vVar 6) (gb := vAny 4) (v := [some (true, dd), some (false, cfgD g), some (false, .list ts), some (false, m), some (true, .list xs), e, some (false, x), some (false, t), some (false, u)]) (var_at rfl) (any_at rfl) n1
    cases q : (xs.any fun z => eqT z x) with
    | true =>
      rw [q] at tst
      exact ⟨xs, hx, by omega, if_at (test_at tst) rfl⟩
    | false =>
      rw [q] at tst
      refine ⟨xs ++ [x], fun y hy => ?_, by simp, ifT_at (test_at tst) (drop_at (app_at rfl (var_at rfl) rfl (decide_eq_true (by omega))))⟩
      rcases List.mem_append.mp hy with z | z
      · exact hx y z
      · rw [List.mem_singleton.mp z]; exact mx
  cases q : ((r : Int) == 0) with
  | true =>
    rw [q] at dr
    have p3 : vIfS (vTest (vOp vEq (vCallI v_law_draw 0 (vCons (vC (.int 2)) vNil)) (vC (.int 0)))) (vSet 6 (vTup (vCons (vC (.str "role")) (vCons (vCallI v_law_choose 0 (vCons (vOp vIx (vVar 1) (vC (.int 1))) vNil)) (vCons (vVar 7) (vCons (vVar 8) vNil)))))) vNext [some (true, d3), some (false, cfgD g), some (false, .list ts), some (false, m), some (true, .list xs), e, some (false, .tuple [.str "concept", .str A, t]), some (false, t), some (false, u)] = some (.nx, [some (true, d5), some (false, cfgD g), some (false, .list ts), some (false, m), some (true, .list xs), e, some (false, .tuple [.str "role", .str R, t, u]), some (false, t), some (false, u)]) := ifT_at (test_at dr) (by simp [vSet, vbS, vTup, vbnd, vCons, vC, vret, vCallI, vOp, vVar, i1, e5, vNil, szW])
    obtain ⟨ys, y1, y2, y3⟩ := last _ d5 mR s5
    exact ⟨ys, d5, _, _, _, s5, y1, y2, seq_nx p1 (seq_nx p2 (seq_nx p3 y3))⟩
  | false =>
    rw [q] at dr
    have p3 : vIfS (vTest (vOp vEq (vCallI v_law_draw 0 (vCons (vC (.int 2)) vNil)) (vC (.int 0)))) (vSet 6 (vTup (vCons (vC (.str "role")) (vCons (vCallI v_law_choose 0 (vCons (vOp vIx (vVar 1) (vC (.int 1))) vNil)) (vCons (vVar 7) (vCons (vVar 8) vNil)))))) vNext [some (true, d3), some (false, cfgD g), some (false, .list ts), some (false, m), some (true, .list xs), e, some (false, .tuple [.str "concept", .str A, t]), some (false, t), some (false, u)] = some (.nx, [some (true, d4), some (false, cfgD g), some (false, .list ts), some (false, m), some (true, .list xs), e, some (false, .tuple [.str "concept", .str A, t]), some (false, t), some (false, u)]) :=
      if_at (test_at dr) rfl
    obtain ⟨ys, y1, y2, y3⟩ := last _ d4 mC s4
    exact ⟨ys, d4, _, _, _, s4, y1, y2, seq_nx p1 (seq_nx p2 (seq_nx p3 y3))⟩
theorem fact_turns {g : Cfg} (hg : gOk g = true) {ts : List D} (t0 : 0 < ts.length) (t1 : ts.length < 1000) (ok : ∀ x ∈ fcs g ts, okT x = true ∧ x.depth ≤ 5) {m : D} : ∀ (ds : List D) {d : D}, SD d → ∀ {xs : List D}, (∀ x ∈ xs, x ∈ fcs g ts) → xs.length + ds.length ≤ 100 → ∀ (a b c e : Option (Bool × D)),
    ∃ ys d' a' b' c' e', SD d' ∧ (∀ x ∈ ys, x ∈ fcs g ts) ∧ ys.length ≤ xs.length + ds.length ∧ vloop 5 fBody ds [some (true, d), some (false, cfgD g), some (false, .list ts), some (false, m), some (true, .list xs), e, a, b, c] = some (.nx, [some (true, d'), some (false, cfgD g), some (false, .list ts), some (false, m), some (true, .list ys), e', a', b', c'])
  | [], d, sd, xs, hx, hz, a, b, c, e => ⟨xs, d, a, b, c, e, sd, hx, by simp, rfl⟩
  | x :: ds, d, sd, xs, hx, hz, a, b, c, e => by
    obtain ⟨ys, d1, a1, b1, c1, s1, h1, l1, e1⟩ := fact_turn hg t0 t1 ok (m := m) sd hx (by simp at hz; omega) a b c (some (false, x))
    obtain ⟨zs, d2, a2, b2, c2, e2, s2, h2, l2, q2⟩ := fact_turns hg t0 t1 ok (m := m) ds s1 h1 (by simp at hz; omega) a1 b1 c1 (some (false, x))
    refine ⟨zs, d2, a2, b2, c2, e2, s2, h2, by simp; omega, ?_⟩
    unfold vloop
    have e1 : fBody (([some (true, d), some (false, cfgD g), some (false, .list ts), some (false, m), some (true, .list xs), e, a, b, c] : VEnv).set 5 (some (false, x))) = _ := e1
    rw [e1]; exact q2
theorem facts_spec {g : Cfg} (hg : gOk g = true) {ts : List D} (t0 : 0 < ts.length) (t1 : ts.length < 1000) (ok : ∀ x ∈ fcs g ts, okT x = true ∧ x.depth ≤ 5) {d : D} (sd : SD d) (n : Nat) (hn : n < 50) : ∃ xs d', (∀ x ∈ xs, x ∈ fcs g ts) ∧ xs.length ≤ n ∧ SD d' ∧ v_law_facts d [cfgD g, .list ts, .int n] = some (.ok (.list xs), d') := by
  obtain ⟨r, d1, hr, s1, e1⟩ := draw_spec (c := (n : Int) + 1) sd (by omega) (by omega)
  obtain ⟨ys, d2, a2, b2, c2, e2, s2, h2, l2, q2⟩ := fact_turns hg t0 t1 ok (m := .int n) (rngD 0 r) s1 (xs := []) (fun x hx => by cases hx) (by simp [rngD]; omega) none none none none
  have lr : (rngD 0 r).length = r := by simp [rngD]
  refine ⟨ys, d2, h2, by rw [lr] at l2; simp at l2; omega, s2, ?_⟩
  have st : vSetO 4 (vLst vNil) [some (true, d), some (false, cfgD g), some (false, .list ts), some (false, .int n), none, none, none, none, none] = some (.nx, [some (true, d), some (false, cfgD g), some (false, .list ts), some (false, .int n), some (true, .list []), none, none, none, none]) := rfl
  have fr : vForR rngV1 (vCons (vCallI v_law_draw 0 (vCons (vOp vAdd (vVar 3) (vC (.int 1))) vNil)) vNil) 5 fBody [some (true, d), some (false, cfgD g), some (false, .list ts), some (false, .int n), some (true, .list []), none, none, none, none] = _ :=
    forR_at (cons_at (callI_at (cons_at (op_at (var_at rfl) rfl rfl) nil_at) rfl e1) nil_at) (rng_ok r (by omega)) q2
  have all : vb_law_facts [some (true, d), some (false, cfgD g), some (false, .list ts), some (false, .int n), none, none, none, none, none] = _ := seq_nx st (seq_nx fr rfl)
  show (match vb_law_facts [some (true, d), some (false, cfgD g), some (false, .list ts), some (false, .int n), none, none, none, none, none] with | some (.nx, v) => _ | some (.rt r, v) => _ | some (.exc c fs, v) => _ | _ => _) = _
  rw [all]; rfl
end DV.Com

namespace DV.Com
open PySem DI DV
/-! ### data, compared -/
mutual
def beqD : D → D → Bool
  | .none, .none => true
  | .bool a, .bool b => a == b
  | .int a, .int b => a == b
  | .str a, .str b => a == b
  | .list a, .list b => beqDs a b
  | .tuple a, .tuple b => beqDs a b
  | .dict a, .dict b => beqKs a b
  | _, _ => false
def beqDs : List D → List D → Bool
  | [], [] => true
  | a :: as, b :: bs => beqD a b && beqDs as bs
  | _, _ => false
def beqKs : List (D × D) → List (D × D) → Bool
  | [], [] => true
  | (a, b) :: as, (c, d) :: bs => (beqD a c && beqD b d) && beqKs as bs
  | _, _ => false
end
mutual
theorem beqD_ok : ∀ {a b : D}, beqD a b = true → a = b
  | .none, b, h => by cases b <;> first | rfl | cases h
  | .bool a, b, h => by cases b <;> first | (have h : (a == _) = true := h; rw [eq_of_beq h]) | cases h
  | .int a, b, h => by cases b <;> first | (have h : (a == _) = true := h; rw [eq_of_beq h]) | cases h
  | .str a, b, h => by cases b <;> first | (have h : (a == _) = true := h; rw [eq_of_beq h]) | cases h
  | .list a, .list b, h => by rw [beqDs_ok (a := a) (b := b) h]
  | .tuple a, .tuple b, h => by rw [beqDs_ok (a := a) (b := b) h]
  | .dict a, .dict b, h => by rw [beqKs_ok (a := a) (b := b) h]
  | .list _, .none, h => by cases h
  | .list _, .bool _, h => by cases h
  | .list _, .int _, h => by cases h
  | .list _, .str _, h => by cases h
  | .list _, .tuple _, h => by cases h
  | .list _, .dict _, h => by cases h
  | .tuple _, .none, h => by cases h
  | .tuple _, .bool _, h => by cases h
  | .tuple _, .int _, h => by cases h
  | .tuple _, .str _, h => by cases h
  | .tuple _, .list _, h => by cases h
  | .tuple _, .dict _, h => by cases h
  | .dict _, .none, h => by cases h
  | .dict _, .bool _, h => by cases h
  | .dict _, .int _, h => by cases h
  | .dict _, .str _, h => by cases h
  | .dict _, .list _, h => by cases h
  | .dict _, .tuple _, h => by cases h
theorem beqDs_ok : ∀ {a b : List D}, beqDs a b = true → a = b
  | [], [], _ => rfl
  | [], _ :: _, h => by cases h
  | _ :: _, [], h => by cases h
  | a :: as, b :: bs, h => by
    have h : (beqD a b && beqDs as bs) = true := h
    rw [Bool.and_eq_true] at h
    rw [beqD_ok h.1, beqDs_ok h.2]
theorem beqKs_ok : ∀ {a b : List (D × D)}, beqKs a b = true → a = b
  | [], [], _ => rfl
  | [], _ :: _, h => by cases h
  | _ :: _, [], h => by cases h
  | (a, b) :: as, (c, d) :: bs, h => by
    have h : ((beqD a c && beqD b d) && beqKs as bs) = true := h
    rw [Bool.and_eq_true, Bool.and_eq_true] at h
    rw [beqD_ok h.1.1, beqD_ok h.1.2, beqKs_ok h.2]
end
def okB (o : Option (VR D)) (d : D) : Bool := match o with
  | some (.ok e) => beqD e d
  | _ => false
theorem okB_ok {o : Option (VR D)} {d : D} (h : okB o d = true) : o = some (.ok d) := by
  unfold okB at h
  split at h
  · rw [beqD_ok h]
  · cases h
/-! ### sorted lists -/
theorem isort_sorted (l : List D) : (isort leD l).Pairwise fun a b => leD a b = true := by
  have tr : ∀ a b c : D, leD a b = true → leD b c = true → leD a c = true := fun a b c h1 h2 => by
    have h1 : PySem.W.dataLt b a = false := by simpa [leD] using h1
    have h2 : PySem.W.dataLt c b = false := by simpa [leD] using h2
    show (!PySem.W.dataLt c a) = true
    rw [dlt_tr h2 h1]; rfl
  have to : ∀ a b : D, (leD a b || leD b a) = true := fun a b => leW_to (.non, a) (.non, b)
  rw [← isort_eq tr to]
  exact List.pairwise_mergeSort tr to l
theorem sort_unique {l m : List D} (hl : l.Nodup) (hm : m.Nodup) (hs : ∀ x, x ∈ l ↔ x ∈ m) (an : ∀ x ∈ l, ∀ y ∈ l, leD x y = true → leD y x = true → x = y) : isort leD l = isort leD m := by
  have p : l.Perm m := (List.perm_ext_iff_of_nodup hl hm).mpr hs
  refine List.Perm.eq_of_pairwise (fun a b ha hb h1 h2 => ?_) (isort_sorted l) (isort_sorted m) (((isort_perm l).trans p).trans (isort_perm m).symm)
  exact an a ((isort_perm l).mem_iff.mp ha) b ((hs b).mpr ((isort_perm m).mem_iff.mp hb)) h1 h2
/-! ### axioms -/
def tags : List Str := ["subclass", "disjoint", "subrole", "subrole_inverse", "disjoint_roles", "disjoint_inverse", "functional"]
def okS (x : D) : Bool := match x with
  | .tuple [.str t, .tuple [_, .str z]] => (t == "functional") && okT (.str z)
  | .tuple [.str t, _, b] => !(t == "functional") && (!(t == "subrole" || t == "subrole_inverse") || (match b with | .str y => okT (.str y) | _ => false))
  | _ => false
def axB (x : D) : Bool := ((okT x && decide (x.depth ≤ 5)) && okS x) && (x.showable && (txtOk x && decide (bdD x ≤ 5000)))
set_option maxHeartbeats 0 in
theorem axB_all : (cfgs.all fun g => tags.all fun t => (axT g t).all axB) = true := by decide +kernel
def tg : D → Str
  | .tuple (.str t :: _) => t
  | _ => ""
def isRI (x : D) : Bool := tg x == "subrole" || tg x == "subrole_inverse"
def isFn (x : D) : Bool := tg x == "functional"
def secOf : D → D
  | .tuple [_, _, b] => b
  | _ => .none
def fnZ : D → D
  | .tuple [_, .tuple [_, z]] => z
  | _ => .none
structure Ax (x : D) : Prop where
  o : okT x = true
  d : x.depth ≤ 5
  i0 : vIx x (.int 0) = some (.str (tg x))
  i2 : isRI x = true → vIx x (.int 2) = some (secOf x) ∧ okT (secOf x) = true ∧ (secOf x).depth = 0
  i1 : isFn x = true → ∃ y, vIx x (.int 1) = some y ∧ vIx y (.int 1) = some (fnZ x) ∧ okT (fnZ x) = true ∧ (fnZ x).depth = 0
  s : x.showable = true ∧ txtOk x = true ∧ bdD x ≤ 5000
theorem ax_of {x : D} (h : axB x = true) : Ax x := by
  unfold axB at h
  simp only [Bool.and_eq_true, decide_eq_true_eq] at h
  obtain ⟨⟨⟨h3, h4⟩, sh⟩, h6, h7, h8⟩ := h
  refine ⟨h3, h4, ?_, fun q => ?_, fun q => ?_, h6, h7, h8⟩
  · unfold okS at sh
    split at sh
    · rfl
    · rfl
    · cases sh
  · unfold okS at sh
    split at sh
    · rename_i t u z
      rw [Bool.and_eq_true] at sh
      have ht : t = "functional" := eq_of_beq sh.1
      subst ht
      exact absurd q (show ¬ ((("functional" : Str) == "subrole" || ("functional" : Str) == "subrole_inverse") = true) from by decide)
    · rename_i t a b
      rw [Bool.and_eq_true, Bool.or_eq_true] at sh
      obtain ⟨_, k | k⟩ := sh
      · have q : (t == "subrole" || t == "subrole_inverse") = true := q
        rw [q] at k; cases k
      · split at k
        · exact ⟨rfl, k, rfl⟩
        · cases k
    · cases sh
  · unfold okS at sh
    split at sh
    · rename_i t u z
      rw [Bool.and_eq_true] at sh
      exact ⟨_, rfl, rfl, sh.2, rfl⟩
    · rename_i t a b
      rw [Bool.and_eq_true] at sh
      have q : (t == "functional") = true := q
      rw [q] at sh
      exact absurd sh.1 (by decide)
    · cases sh
/-- an axiom with the names g -/
def IsAx (g : Cfg) (x : D) : Prop := ∃ t ∈ tags, x ∈ axT g t
theorem IsAx.ax {g : Cfg} (hg : g ∈ cfgs) {x : D} (h : IsAx g x) : Ax x := by
  obtain ⟨t, ht, hx⟩ := h
  exact ax_of (List.all_eq_true.mp (List.all_eq_true.mp (List.all_eq_true.mp axB_all g hg) t ht) x hx)
theorem sh_list {xs : List D} (h : ∀ x ∈ xs, shD x = true ∧ x.depth ≤ 60) : shD (.list xs) = true := by
  unfold shD SeqAt.shaped
  rw [Bool.and_eq_true]
  refine ⟨?_, decide_eq_true (by
    have : PyData.depthAll xs ≤ 60 := depthAll_le fun x hx => (h x hx).2
    show PyData.depthAll xs + 1 ≤ 64
    omega)⟩
  show PyData.canLayAll0 xs = true
  induction xs with
  | nil => rfl
  | cons x xs ih =>
    have hx := (h x List.mem_cons_self).1
    unfold shD SeqAt.shaped at hx
    rw [Bool.and_eq_true] at hx
    show (x.canLay0 && PyData.canLayAll0 xs) = true
    rw [hx.1, ih fun y hy => h y (List.mem_cons_of_mem _ hy)]; rfl
theorem okT_sh {x : D} (h : okT x = true) (hd : ∀ kvs, x ≠ .dict kvs) : shD x = true := by
  unfold okT at h
  have : isE x = false := by
    cases x with
    | dict kvs => exact absurd rfl (hd kvs)
    | _ => rfl
  rw [this, Bool.or_false] at h
  exact h
theorem ax_nd {x : D} (h : Ax x) : ∀ kvs, x ≠ .dict kvs := fun kvs e => by
  have := h.i0
  subst e
  cases this
def secs (xs : List D) : List D := (xs.filter isRI).map secOf
def fnBad (xs : List D) (x : D) : Bool := isFn x && (secs xs).any fun z => eqT z (fnZ x)
def allowedB (xs : List D) : Bool := (xs.filter (fnBad xs)).isEmpty
theorem eq_nil {l : List D} (h : ∀ x ∈ l, shD x = true ∧ x.depth ≤ 20) : vEq (.list l) (.list []) = some (.bool l.isEmpty) := by
  have e : vEq (.list l) (.list []) = vDat dEq (.list l) (.list []) := rfl
  rw [e]
  unfold vDat
  have d1 : PyData.depthAll l ≤ 20 := depthAll_le fun x hx => (h x hx).2
  have a : dp (.list l) = true := decide_eq_true (by show PyData.depthAll l + 1 < 24; omega)
  have b : dp (.list []) = true := by decide +kernel
  rw [a, b]
  simp only [Bool.and_self, if_true]
  unfold dEq okT
  have s1 : shD (.list l) = true := sh_list fun x hx => ⟨(h x hx).1, by have := (h x hx).2; omega⟩
  have s2 : shD (.list []) = true := by decide +kernel
  rw [s1, s2]
  cases l with
  | nil => rfl
  | cons _ _ => rfl
theorem allowed_spec {xs : List D} (h : ∀ x ∈ xs, Ax x) (hz : xs.length ≤ 1000) : v_law_allowed [.list xs] = some (.ok (.bool (allowedB xs))) := by
  have sok : (secs xs).all okT = true ∧ PyData.depthAll (secs xs) ≤ 0 := by
    have key : ∀ y ∈ secs xs, okT y = true ∧ y.depth = 0 := fun y hy => by
      obtain ⟨x, hx, rfl⟩ := List.mem_map.mp hy
      rw [List.mem_filter] at hx
      obtain ⟨_, a, b⟩ := (h x hx.1).i2 hx.2
      exact ⟨a, b⟩
    exact ⟨List.all_eq_true.mpr fun y hy => (key y hy).1, depthAll_le fun y hy => by rw [(key y hy).2]; exact Nat.le_refl _⟩
  have lc1 : vLcI 2 (vOrT (vTest (vOp vEq (vOp vIx (vVar 2) (vC (.int 0))) (vC (.str "subrole")))) (vTest (vOp vEq (vOp vIx (vVar 2) (vC (.int 0))) (vC (.str "subrole_inverse"))))) (vOp vIx (vVar 2) (vC (.int 2))) xs [some (false, .list xs), none, none] = some (.ok (.list (secs xs)), [some (false, .list xs), none, none]) := by
    refine vLcI_pure (p := isRI) (h := secOf) rfl (fun x hx => ?_) (fun x hx hp => ?_) (by omega)
    · have I := h x hx
      cases q1 : (tg x == ("subrole" : Str)) with
      | true => simp [vOrT, vTest, vOp, vVar, vC, vret, vbnd, I.i0, vEq, q1, asV, isRI]
      | false => simp [vOrT, vTest, vOp, vVar, vC, vret, vbnd, I.i0, vEq, q1, asV, isRI]
    · simp [vOp, vVar, vC, vret, vbnd, ((h x hx).i2 hp).1]
  have lc2 : vLcI 2 (vAndT (vTest (vOp vEq (vOp vIx (vVar 2) (vC (.int 0))) (vC (.str "functional")))) (vTest (vOp vIn (vOp vIx (vOp vIx (vVar 2) (vC (.int 1))) (vC (.int 1))) (vVar 1)))) (vVar 2) xs [some (false, .list xs), some (false, .list (secs xs)), none] = some (.ok (.list (xs.filter (fnBad xs))), [some (false, .list xs), some (false, .list (secs xs)), none]) := by
    have := vLcI_pure (j := 2) (t := vAndT (vTest (vOp vEq (vOp vIx (vVar 2) (vC (.int 0))) (vC (.str "functional")))) (vTest (vOp vIn (vOp vIx (vOp vIx (vVar 2) (vC (.int 1))) (vC (.int 1))) (vVar 1)))) (f := vVar 2) (v := [some (false, .list xs), some (false, .list (secs xs)), none]) (ds := xs) (p := fnBad xs) (h := id) rfl (fun x hx => ?_) (fun x hx hp => by simp [vVar]) (by omega)
    · rw [List.map_id] at this; exact this
    · have I := h x hx
      cases hf : isFn x with
      | false =>
        have hf' : (tg x == ("functional" : Str)) = false := hf
        simp [vAndT, vTest, vOp, vVar, vC, vret, vbnd, I.i0, vEq, hf', asV, fnBad, hf]
      | true =>
        have hf' : (tg x == ("functional" : Str)) = true := hf
        obtain ⟨y, j1, j2, j3, j4⟩ := I.i1 hf
        have e3 := in_list (d := fnZ x) (ds := secs xs) j3 sok.1 (by omega) (by have := sok.2; omega)
        simp [vAndT, vTest, vOp, vVar, vC, vret, vbnd, I.i0, vEq, hf', asV, fnBad, hf, j1, j2, e3]
  have fin : vEq (.list (xs.filter (fnBad xs))) (.list []) = some (.bool (allowedB xs)) := eq_nil fun x hx => by
    have I := h x (List.mem_filter.mp hx).1
    exact ⟨okT_sh I.o (ax_nd I), by have := I.d; omega⟩
  have s1 : vSet 1 (vLc (vVar 0) 2 (vOrT (vTest (vOp vEq (vOp vIx (vVar 2) (vC (.int 0))) (vC (.str "subrole")))) (vTest (vOp vEq (vOp vIx (vVar 2) (vC (.int 0))) (vC (.str "subrole_inverse"))))) (vOp vIx (vVar 2) (vC (.int 2)))) [some (false, .list xs), none, none] = some (.nx, [some (false, .list xs), some (false, .list (secs xs)), none]) := by
    unfold vSet
    have : vLc (vVar 0) 2 (vOrT (vTest (vOp vEq (vOp vIx (vVar 2) (vC (.int 0))) (vC (.str "subrole")))) (vTest (vOp vEq (vOp vIx (vVar 2) (vC (.int 0))) (vC (.str "subrole_inverse"))))) (vOp vIx (vVar 2) (vC (.int 2))) [some (false, .list xs), none, none] = _ := lc1
    rw [this]; rfl
  have s2 : vRet (vOp vEq (vLc (vVar 0) 2 (vAndT (vTest (vOp vEq (vOp vIx (vVar 2) (vC (.int 0))) (vC (.str "functional")))) (vTest (vOp vIn (vOp vIx (vOp vIx (vVar 2) (vC (.int 1))) (vC (.int 1))) (vVar 1)))) (vVar 2)) (vLst vNil)) [some (false, .list xs), some (false, .list (secs xs)), none] = some (.rt (.bool (allowedB xs)), [some (false, .list xs), some (false, .list (secs xs)), none]) := by
    unfold vRet
    rw [op_at (vop := vEq) (show vLc (vVar 0) 2 _ (vVar 2) [some (false, .list xs), some (false, .list (secs xs)), none] = _ from lc2) rfl fin]; rfl
  have all : vb_law_allowed [some (false, .list xs), none, none] = _ := seq_nx s1 s2
  show (match vb_law_allowed [some (false, .list xs), none, none] with | some (.nx, _) => _ | some (.rt d, _) => _ | some (.exc c fs, _) => _ | _ => _) = _
  rw [all]; all_goals rfl
/-! ### ontologies -/
abbrev oBody : VSM := (vSeq (vSet 6 (vCallI v_law_axiom 0 (vCons (vVar 1) (vCons (vVar 2) vNil))))
      (vIfS (vAndT (vTest (vOp vNotIn (vVar 6) (vAny 4))) (vTest (vCall v_law_allowed (vCons (vOp vAddL (vAny 4) (vLst (vCons (vVar 6) vNil))) vNil)))) (vDrop (vApp 4 (vVar 6))) vNext))
/-- what an ontology is: axioms, no two equal, allowed -/
structure Onto (g : Cfg) (xs : List D) : Prop where
  ax : ∀ x ∈ xs, IsAx g x
  nd : xs.Pairwise fun a b => eqT a b = false
  al : allowedB xs = true
theorem andT_at {f g : VM Bool} {v v1 v2 : VEnv} {b : Bool} (h1 : f v = some (.ok true, v1)) (h2 : g v1 = some (.ok b, v2)) : vAndT f g v = some (.ok b, v2) := by
  unfold vAndT; rw [h1]; exact h2
theorem andF_at {f g : VM Bool} {v v1 : VEnv} (h1 : f v = some (.ok false, v1)) : vAndT f g v = some (.ok false, v1) := by
  unfold vAndT; rw [h1]; rfl
theorem onto_turn {g : Cfg} (hg : g ∈ cfgs) {menu : List Str} (m0 : 0 < menu.length) (m1 : menu.length < 1000) (mt : ∀ t ∈ menu, t ∈ tags) {d m : D} (sd : SD d) {xs : List D} (hx : Onto g xs) (hz : xs.length ≤ 100) (a e : Option (Bool × D)) :
    ∃ ys d' a', SD d' ∧ Onto g ys ∧ ys.length ≤ xs.length + 1 ∧ oBody [some (true, d), some (false, cfgD g), some (false, ssD menu), some (false, m), some (true, .list xs), e, a] = some (.nx, [some (true, d'), some (false, cfgD g), some (false, ssD menu), some (false, m), some (true, .list ys), e, a']) := by
  obtain ⟨t, x, d1, ht, hxt, s1, e1⟩ := axiom_spec (menu := menu) sd (cfgs_ok g hg) m0 m1
  have ix : IsAx g x := ⟨t, mt t ht, hxt⟩
  have I := ix.ax hg
  have p1 : vSet 6 (vCallI v_law_axiom 0 (vCons (vVar 1) (vCons (vVar 2) vNil))) [some (true, d), some (false, cfgD g), some (false, ssD menu), some (false, m), some (true, .list xs), e, a] = some (.nx, [some (true, d1), some (false, cfgD g), some (false, ssD menu), some (false, m), some (true, .list xs), e, some (false, x)]) :=
    set_at1 (i := 6) (callI_at (cons_at (var_at rfl) (cons_at (var_at rfl) nil_at)) rfl e1)
  have n1 := notIn_list I.o (ds := xs) (List.all_eq_true.mpr fun y hy => ((hx.ax y hy).ax hg).o) (by have := I.d; omega) (Nat.lt_of_le_of_lt (depthAll_le fun y hy => ((hx.ax y hy).ax hg).d) (by decide))
  have tst := op_at (vop := vNotIn) (ga := vVar 6) (gb := vAny 4) (v := [some (true, d1), some (false, cfgD g), some (false, ssD menu), some (false, m), some (true, .list xs), e, some (false, x)]) (var_at rfl) (any_at rfl) n1
  have allax : ∀ y ∈ xs ++ [x], Ax y := fun y hy => by
    rcases List.mem_append.mp hy with z | z
    · exact (hx.ax y z).ax hg
    · rw [List.mem_singleton.mp z]; exact I
  have al := allowed_spec allax (by simp; omega)
  have sz : szW (xs.length + [x].length) = true := decide_eq_true (by simp; omega)
  have t2 : vTest (vCall v_law_allowed (vCons (vOp vAddL (vAny 4) (vLst (vCons (vVar 6) vNil))) vNil)) [some (true, d1), some (false, cfgD g), some (false, ssD menu), some (false, m), some (true, .list xs), e, some (false, x)] = some (.ok (allowedB (xs ++ [x])), [some (true, d1), some (false, cfgD g), some (false, ssD menu), some (false, m), some (true, .list xs), e, some (false, x)]) :=
    test_at (call_at (cons_at (op_at (any_at rfl) (lst_at (cons_at (var_at rfl) nil_at) rfl) (by unfold vAddL; simp only; rw [if_pos sz])) nil_at) al)
  cases q : (xs.any fun z => eqT z x) with
  | true =>
    rw [q] at tst
    exact ⟨xs, d1, _, s1, hx, by omega, seq_nx p1 (if_at (andF_at (test_at tst)) rfl)⟩
  | false =>
    rw [q] at tst
    cases q2 : allowedB (xs ++ [x]) with
    | false =>
      rw [q2] at t2
      exact ⟨xs, d1, _, s1, hx, by omega, seq_nx p1 (if_at (andT_at (test_at tst) t2) rfl)⟩
    | true =>
      rw [q2] at t2
      refine ⟨xs ++ [x], d1, _, s1, ⟨fun y hy => ?_, ?_, q2⟩, by simp, seq_nx p1 (ifT_at (andT_at (test_at tst) t2) (drop_at (app_at rfl (var_at rfl) rfl (decide_eq_true (by omega)))))⟩
      · rcases List.mem_append.mp hy with z | z
        · exact hx.ax y z
        · rw [List.mem_singleton.mp z]; exact ix
      · rw [List.pairwise_append]
        refine ⟨hx.nd, List.pairwise_singleton _ _, fun y hy z hz => ?_⟩
        rw [List.mem_singleton.mp hz]
        cases r : eqT y x with
        | false => rfl
        | true => rw [List.any_eq_true.mpr ⟨y, hy, r⟩] at q; cases q
theorem onto_turns {g : Cfg} (hg : g ∈ cfgs) {menu : List Str} (m0 : 0 < menu.length) (m1 : menu.length < 1000) (mt : ∀ t ∈ menu, t ∈ tags) {m : D} : ∀ (ds : List D) {d : D}, SD d → ∀ {xs : List D}, Onto g xs → xs.length + ds.length ≤ 100 → ∀ (a e : Option (Bool × D)),
    ∃ ys d' a' e', SD d' ∧ Onto g ys ∧ ys.length ≤ xs.length + ds.length ∧ vloop 5 oBody ds [some (true, d), some (false, cfgD g), some (false, ssD menu), some (false, m), some (true, .list xs), e, a] = some (.nx, [some (true, d'), some (false, cfgD g), some (false, ssD menu), some (false, m), some (true, .list ys), e', a'])
  | [], d, sd, xs, hx, hz, a, e => ⟨xs, d, a, e, sd, hx, by simp, rfl⟩
  | x :: ds, d, sd, xs, hx, hz, a, e => by
    obtain ⟨ys, d1, a1, s1, h1, l1, e1⟩ := onto_turn hg m0 m1 mt (m := m) sd hx (by simp at hz; omega) a (some (false, x))
    obtain ⟨zs, d2, a2, e2, s2, h2, l2, q2⟩ := onto_turns hg m0 m1 mt (m := m) ds s1 h1 (by simp at hz; omega) a1 (some (false, x))
    refine ⟨zs, d2, a2, e2, s2, h2, by simp; omega, ?_⟩
    unfold vloop
    have e1 : oBody (([some (true, d), some (false, cfgD g), some (false, ssD menu), some (false, m), some (true, .list xs), e, a] : VEnv).set 5 (some (false, x))) = _ := e1
    rw [e1]; exact q2
theorem ontology_spec {g : Cfg} (hg : g ∈ cfgs) {menu : List Str} (m0 : 0 < menu.length) (m1 : menu.length < 1000) (mt : ∀ t ∈ menu, t ∈ tags) {d : D} (sd : SD d) (n : Nat) (hn : n < 50) : ∃ xs d', Onto g xs ∧ xs.length ≤ n ∧ SD d' ∧ v_law_ontology d [cfgD g, ssD menu, .int n] = some (.ok (.list xs), d') := by
  obtain ⟨r, d1, hr, s1, e1⟩ := draw_spec (c := (n : Int) + 1) sd (by omega) (by omega)
  obtain ⟨ys, d2, a2, e2, s2, h2, l2, q2⟩ := onto_turns hg m0 m1 mt (m := .int n) (rngD 0 r) s1 (xs := []) ⟨fun x hx => (by cases hx), List.Pairwise.nil, rfl⟩ (by simp [rngD]; omega) none none
  have lr : (rngD 0 r).length = r := by simp [rngD]
  refine ⟨ys, d2, h2, by rw [lr] at l2; simp at l2; omega, s2, ?_⟩
  have st : vSetO 4 (vLst vNil) [some (true, d), some (false, cfgD g), some (false, ssD menu), some (false, .int n), none, none, none] = some (.nx, [some (true, d), some (false, cfgD g), some (false, ssD menu), some (false, .int n), some (true, .list []), none, none]) := rfl
  have fr : vForR rngV1 (vCons (vCallI v_law_draw 0 (vCons (vOp vAdd (vVar 3) (vC (.int 1))) vNil)) vNil) 5 oBody [some (true, d), some (false, cfgD g), some (false, ssD menu), some (false, .int n), some (true, .list []), none, none] = _ :=
    forR_at (cons_at (callI_at (cons_at (op_at (var_at rfl) rfl rfl) nil_at) rfl e1) nil_at) (rng_ok r (by omega)) q2
  have all : vb_law_ontology [some (true, d), some (false, cfgD g), some (false, ssD menu), some (false, .int n), none, none, none] = _ := seq_nx st (seq_nx fr rfl)
  show (match vb_law_ontology [some (true, d), some (false, cfgD g), some (false, ssD menu), some (false, .int n), none, none, none] with | some (.nx, v) => _ | some (.rt r, v) => _ | some (.exc c fs, v) => _ | _ => _) = _
  rw [all]; all_goals rfl
/-! ### repr -/
theorem repr_list {xs : List D} (h : ∀ x ∈ xs, x.depth ≤ 5 ∧ x.showable = true ∧ txtOk x = true ∧ bdD x ≤ 5000) (hz : xs.length ≤ 100) : vRepr (.list xs) = some (.str (PyData.list xs).shown) := by
  unfold vRepr
  have d : PyData.depthAll xs ≤ 5 := depthAll_le fun x hx => (h x hx).1
  have a : dp (.list xs) = true := decide_eq_true (by show PyData.depthAll xs + 1 < 24; omega)
  have sa : ∀ ys : List D, (∀ x ∈ ys, x.depth ≤ 5 ∧ x.showable = true ∧ txtOk x = true ∧ bdD x ≤ 5000) → PyData.showableAll ys = true ∧ txtOkAll ys = true ∧ bdAll ys ≤ ys.length * 5002 := fun ys => by
    induction ys with
    | nil => exact fun _ => ⟨rfl, rfl, Nat.le_refl _⟩
    | cons y ys ih =>
      intro hh
      obtain ⟨i1, i2, i3⟩ := ih fun x hx => hh x (List.mem_cons_of_mem _ hx)
      obtain ⟨_, s1, s2, s3⟩ := hh y List.mem_cons_self
      refine ⟨?_, ?_, ?_⟩
      · show (y.showable && PyData.showableAll ys) = true; rw [s1, i1]; rfl
      · show (txtOk y && txtOkAll ys) = true; rw [s2, i2]; rfl
      · show (bdD y + 2) + bdAll ys ≤ (ys.length + 1) * 5002; omega
  obtain ⟨s1, s2, s3⟩ := sa xs h
  have b : okR (.list xs) = true := by
    unfold okR
    have e1 : (PyData.list xs).showable = true := s1
    have e2 : decide ((PyData.list xs).depth ≤ 40) = true := decide_eq_true (by show PyData.depthAll xs + 1 ≤ 40; omega)
    have e3 : txtOk (.list xs) = true := s2
    have e4 : decide (bdD (.list xs) ≤ 1000000) = true := decide_eq_true (by
      have : bdD (.list xs) = bdAll xs + 4 := by first | rfl | (show _ = _; unfold bdD; omega)
      omega)
    rw [e1, e2, e3, e4]; rfl
  rw [a, b]; rfl
end DV.Com

namespace DV.Com
open PySem DI DV
/-! ### sets of concepts: what is asked of their members, decided once -/
def pairG (a b : D) : Bool := ((eqT a b == beqD a b) && PySem.W.alike a b) && (!(leD a b && leD b a) || beqD a b)
def conG (a : D) : Bool := ((keyD a).isSome && (okT a && shD a)) && ((isTup1 a && decide (a.depth ≤ 3)) && beqD a a)
def Good (S : List D) : Prop := (S.all fun a => conG a && S.all (pairG a)) = true
structure Con (a : D) : Prop where
  k : ∃ k, keyD a = some k
  o : okT a = true
  s : shD a = true
  t : isTup1 a = true
  d : a.depth ≤ 3
section
variable {S : List D}
theorem Good.con (hS : Good S) {a : D} (ha : a ∈ S) : Con a ∧ eqT a a = true := by
  have h := List.all_eq_true.mp hS a ha
  rw [Bool.and_eq_true] at h
  have hp := List.all_eq_true.mp h.2 a ha
  have h1 := h.1
  unfold conG at h1
  unfold pairG at hp
  simp only [Bool.and_eq_true, decide_eq_true_eq] at h1 hp
  obtain ⟨⟨a1, a2, a3⟩, ⟨a4, a5⟩, a6⟩ := h1
  refine ⟨⟨Option.isSome_iff_exists.mp a1, a2, a3, a4, a5⟩, ?_⟩
  have := eq_of_beq hp.1.1
  rw [this]; exact a6
theorem Good.pair (hS : Good S) {a b : D} (ha : a ∈ S) (hb : b ∈ S) : (eqT a b = true → a = b) ∧ PySem.W.alike a b = true ∧ (leD a b = true → leD b a = true → a = b) := by
  have h := List.all_eq_true.mp hS a ha
  rw [Bool.and_eq_true] at h
  have hp := List.all_eq_true.mp h.2 b hb
  unfold pairG at hp
  rw [Bool.and_eq_true, Bool.and_eq_true, Bool.or_eq_true] at hp
  obtain ⟨⟨h1, h2⟩, h3⟩ := hp
  refine ⟨fun e => beqD_ok (by rw [← eq_of_beq h1]; exact e), h2, fun e1 e2 => ?_⟩
  rcases h3 with h3 | h3
  · rw [e1, e2] at h3; cases h3
  · exact beqD_ok h3
theorem Good.any (hS : Good S) {pre : List D} (hp : ∀ z ∈ pre, z ∈ S) {c : D} (hc : c ∈ S) : (pre.any fun z => eqT z c) = true ↔ c ∈ pre := by
  rw [List.any_eq_true]
  constructor
  · rintro ⟨z, hz, e⟩
    rw [← (hS.pair (hp z hz) hc).1 e]; exact hz
  · exact fun h => ⟨c, h, (hS.con hc).2⟩
/-- one more, if it is not there -/
def addG (pre : List D) (c : D) : List D := if pre.any (fun z => eqT z c) then pre else pre ++ [c]
theorem addG_in {pre : List D} (hp : ∀ z ∈ pre, z ∈ S) {c : D} (hc : c ∈ S) : ∀ z ∈ addG pre c, z ∈ S := fun z hz => by
  unfold addG at hz
  split at hz
  · exact hp z hz
  · rcases List.mem_append.mp hz with h | h
    · exact hp z h
    · rw [List.mem_singleton.mp h]; exact hc
theorem addG_mem (hS : Good S) {pre : List D} (hp : ∀ z ∈ pre, z ∈ S) {c : D} (hc : c ∈ S) (x : D) : x ∈ addG pre c ↔ x ∈ pre ∨ x = c := by
  unfold addG
  split
  · rename_i h
    have := (hS.any hp hc).mp h
    exact ⟨.inl, fun h => h.elim id fun e => e ▸ this⟩
  · simp
theorem addG_nd (hS : Good S) {pre : List D} (hp : ∀ z ∈ pre, z ∈ S) (hn : pre.Nodup) {c : D} (hc : c ∈ S) : (addG pre c).Nodup := by
  unfold addG
  split
  · exact hn
  · rename_i h
    rw [List.nodup_append]
    refine ⟨hn, List.nodup_cons.mpr ⟨List.not_mem_nil, List.nodup_nil⟩, fun a ha b hb e => ?_⟩
    rw [List.mem_singleton.mp hb] at e
    subst e
    exact h ((hS.any hp hc).mpr ha)
theorem addG_pre (pre : List D) (c : D) : ∃ l, addG pre c = pre ++ l := by
  unfold addG; split
  · exact ⟨[], by simp⟩
  · exact ⟨[c], rfl⟩
/-- no two alike, all from S: at most as many -/
theorem nd_len : ∀ (K S : List D), K.Nodup → (∀ x ∈ K, x ∈ S) → K.length ≤ S.length
  | [], S, _, _ => Nat.zero_le _
  | x :: K, S, hn, hs => by
    obtain ⟨l1, l2, rfl⟩ := List.append_of_mem (hs x List.mem_cons_self)
    have h := nd_len K (l1 ++ l2) (List.nodup_cons.mp hn).2 fun y hy => by
      have := hs y (List.mem_cons_of_mem _ hy)
      rcases List.mem_append.mp this with z | z
      · exact List.mem_append_left _ z
      · rcases List.mem_cons.mp z with z | z
        · subst z; exact absurd hy (List.nodup_cons.mp hn).1
        · exact List.mem_append_right _ z
    simp at h ⊢; omega
theorem Good.sort (hS : Good S) {l : List D} (h : ∀ c ∈ l, c ∈ S) : sortOk l = true := by
  unfold sortOk
  simp only [Bool.and_eq_true, Bool.or_eq_true, List.all_eq_true, decide_eq_true_eq]
  exact ⟨⟨fun a ha b hb => (hS.pair (h a ha) (h b hb)).2.1, .inl fun a ha => (hS.con (h a ha)).1.t⟩, fun a ha => Nat.le_trans (hS.con (h a ha)).1.d (by decide)⟩
theorem Good.nk (hS : Good S) {a : D} (ha : a ∈ S) : ∃ k, keyD a = some k ∧ nkD a = some k := by
  obtain ⟨k, h⟩ := (hS.con ha).1.k
  exact ⟨k, h, keyD_nk h⟩
theorem Good.notIn (hS : Good S) {pre : List D} (hp : ∀ z ∈ pre, z ∈ S) {c : D} (hc : c ∈ S) : vNotIn c (.list pre) = some (.bool (!(pre.any fun z => eqT z c))) :=
  notIn_list (hS.con hc).1.o (List.all_eq_true.mpr fun z hz => (hS.con (hp z hz)).1.o) (by have := (hS.con hc).1.d; omega) (Nat.lt_of_le_of_lt (depthAll_le (n := 3) fun z hz => (hS.con (hp z hz)).1.d) (by decide))
/-! ### dicts from concepts to lists -/
abbrev Ch := List (D × List D)
def dicD (P : Ch) : List (D × D) := P.map fun p => (p.1, .list p.2)
abbrev keysP (P : Ch) : List D := P.map (·.1)
theorem look_dic (hS : Good S) {x : D} (hx : x ∈ S) {k : NestedKey} (hk : nkD x = some k) : ∀ {P : Ch}, (∀ z ∈ keysP P, z ∈ S) → ((lookD (dicD P) k).isSome = ((keysP P).any fun z => eqT z x)) ∧ (x ∈ keysP P → ∃ l, (x, l) ∈ P ∧ lookD (dicD P) k = some (.list l))
  | [], _ => ⟨rfl, fun h => by cases h⟩
  | p :: P, h => by
    obtain ⟨i1, i2⟩ := look_dic hS hx hk (P := P) fun z hz => h z (List.mem_cons_of_mem _ hz)
    have hp : p.1 ∈ S := h p.1 List.mem_cons_self
    obtain ⟨a, _, ha⟩ := hS.nk hp
    have e : lookD (dicD (p :: P)) k = if nkD p.1 = some k then some (PyData.list p.2) else lookD (dicD P) k := rfl
    have eq : eqT p.1 x = decide (a = k) := eqT_nk ha hk
    rw [e, ha]
    by_cases q : a = k
    · have px : p.1 = x := (hS.pair hp hx).1 (by rw [eq]; exact decide_eq_true q)
      rw [if_pos (by rw [q])]
      refine ⟨?_, fun _ => ⟨p.2, ?_, rfl⟩⟩
      · show true = (eqT p.1 x || _)
        rw [eq, decide_eq_true q]; rfl
      · rw [← px]; exact List.mem_cons_self
    · rw [if_neg (fun z => q (by injection z))]
      refine ⟨?_, fun hm => ?_⟩
      · show _ = (eqT p.1 x || (keysP P).any fun z => eqT z x)
        rw [eq, decide_eq_false q, i1]; rfl
      · rcases List.mem_cons.mp hm with z | z
        · exact absurd (by
            have := (hS.con hx).2
            rw [z] at this
            rw [z] at eq
            rw [this] at eq
            exact of_decide_eq_true eq.symm) q
        · obtain ⟨l, h1, h2⟩ := i2 z
          exact ⟨l, List.mem_cons_of_mem _ h1, h2⟩
end
end DV.Com

namespace DV.Com
open PySem DI DV
/-! ### steps from concept to concept, chains -/
/-- where an axiom leads from a concept -/
def svb (b : Bool) (a c : D) : D := match v_led_to [a, c, .bool b] with
  | some (.ok d) => d
  | _ => .none
def inCo (g : Cfg) (c : D) : Bool := (cos g).any (beqD c)
theorem inCo_ok {g : Cfg} {c : D} (h : inCo g c = true) : c ∈ cos g := by
  unfold inCo at h
  obtain ⟨x, hx, e⟩ := List.any_eq_true.mp h
  rw [beqD_ok e]; exact hx
def stBb (b : Bool) (g : Cfg) (a c : D) : Bool := (okB (v_led_to [a, c, .bool b]) (svb b a c) && okB (v_law_successor [a, c, .bool b]) (svb b a c)) && (isN (svb b a c) || inCo g (svb b a c))
def stGb (b : Bool) (g : Cfg) (ts : List Str) : Bool := ts.all fun t => (axT g t).all fun a => (cos g).all (stBb b g a)
structure Stp (b : Bool) (g : Cfg) (a c : D) : Prop where
  p : v_led_to [a, c, .bool b] = some (.ok (svb b a c))
  l : v_law_successor [a, c, .bool b] = some (.ok (svb b a c))
  i : isN (svb b a c) = false → svb b a c ∈ cos g
def StAll (b : Bool) : Prop := ∀ g ∈ cfgs, ∀ a, IsAx g a → ∀ c ∈ cos g, Stp b g a c
theorem cgood_all : (cfgs.all fun g => (cos g).all fun a => conG a && (cos g).all (pairG a)) = true := by decide +kernel
theorem cgood {g : Cfg} (hg : g ∈ cfgs) : Good (cos g) := List.all_eq_true.mp cgood_all g hg
theorem cos_len_all : (cfgs.all fun g => decide ((cos g).length ≤ 10)) = true := by decide +kernel
theorem cos_len {g : Cfg} (hg : g ∈ cfgs) : (cos g).length ≤ 10 := of_decide_eq_true (List.all_eq_true.mp cos_len_all g hg)
theorem chkC_all : (cfgs.all fun g => (cos g).all fun c => okB (v_check_concept [c]) .none) = true := by decide +kernel
theorem chkC {g : Cfg} (hg : g ∈ cfgs) {c : D} (hc : c ∈ cos g) : v_check_concept [c] = some (.ok .none) := okB_ok (List.all_eq_true.mp (List.all_eq_true.mp chkC_all g hg) c hc)
abbrev cfg (i : Nat) : Cfg := cfgs.getD i ([], [])
theorem cfgs_6 : cfgs.length = 6 := by decide +kernel
theorem cfg_at {g : Cfg} (hg : g ∈ cfgs) : ∃ i, i < 6 ∧ cfg i = g := by
  obtain ⟨i, hi, e⟩ := List.getElem_of_mem hg
  refine ⟨i, by rw [← cfgs_6]; exact hi, ?_⟩
  show cfgs.getD i _ = g
  rw [List.getD_eq_getElem?_getD, List.getElem?_eq_getElem hi, e]; rfl
/-! walks -/
def idx (n : Nat) : D → Option Nat
  | .int i => if 0 ≤ i ∧ i < (n : Int) then some i.toNat else none
  | _ => none
def wk1 (b : Bool) (xs : List D) (c d : D) : Option D := match idx xs.length d with
  | some i => (match xs[i]? with
    | some a => if isN (svb b a c) then none else some (svb b a c)
    | none => none)
  | none => none
def wk (b : Bool) (xs : List D) : D → List D → Option D
  | c, [] => some c
  | c, d :: ds => match wk1 b xs c d with
    | some s => wk b xs s ds
    | none => none
theorem wk_snoc {b : Bool} {xs : List D} {d s r : D} : ∀ {l : List D} {c : D}, wk b xs c l = some s → wk1 b xs s d = some r → wk b xs c (l ++ [d]) = some r
  | [], c, h1, h2 => by
    cases h1
    show (match wk1 b xs s d with | some s => wk b xs s [] | none => none) = _
    rw [h2]; rfl
  | e :: l, c, h1, h2 => by
    show (match wk1 b xs c e with | some s => wk b xs s (l ++ [d]) | none => none) = _
    have h1 : (match wk1 b xs c e with | some s => wk b xs s l | none => none) = some s := h1
    cases q : wk1 b xs c e with
    | none => rw [q] at h1; cases h1
    | some t => rw [q] at h1; exact wk_snoc h1 h2
theorem wk1_at {b : Bool} {xs : List D} {a c : D} {i : Nat} (h : xs[i]? = some a) (hn : isN (svb b a c) = false) : wk1 b xs c (.int (i : Nat)) = some (svb b a c) := by
  have hi : i < xs.length := (List.getElem?_eq_some_iff.mp h).1
  have e : idx xs.length (.int (i : Nat)) = some i := by
    show (if 0 ≤ ((i : Nat) : Int) ∧ ((i : Nat) : Int) < (xs.length : Int) then some ((i : Nat) : Int).toNat else none) = _
    rw [if_pos ⟨by omega, by omega⟩, Int.toNat_natCast]
  unfold wk1
  rw [e]; simp only
  rw [h]; simp only
  rw [hn]; rfl
inductive Rn (b : Bool) (xs : List D) (c : D) : Nat → D → Prop
  | zero : Rn b xs c 0 c
  | succ {n : Nat} {x a : D} : Rn b xs c n x → a ∈ xs → isN (svb b a x) = false → Rn b xs c (n + 1) (svb b a x)
theorem wk1_inv {b : Bool} {xs : List D} {s d r : D} (h : wk1 b xs s d = some r) : ∃ a, a ∈ xs ∧ isN (svb b a s) = false ∧ r = svb b a s := by
  unfold wk1 at h
  split at h
  · split at h
    · rename_i a ha
      split at h
      · cases h
      · rename_i hn
        cases h
        exact ⟨a, List.mem_of_getElem? ha, by simpa using hn, rfl⟩
    · cases h
  · cases h
theorem wk_rn {b : Bool} {xs : List D} {c : D} : ∀ {l : List D} {s x : D} {m : Nat}, Rn b xs c m s → wk b xs s l = some x → Rn b xs c (m + l.length) x
  | [], s, x, m, h, e => by cases e; exact h
  | d :: l, s, x, m, h, e => by
    have e : (match wk1 b xs s d with | some s => wk b xs s l | none => none) = some x := e
    cases q : wk1 b xs s d with
    | none => rw [q] at e; cases e
    | some t =>
      rw [q] at e
      obtain ⟨a, ha, hn, rfl⟩ := wk1_inv q
      have := wk_rn (h.succ ha hn) e
      have eq : m + (d :: l).length = m + 1 + l.length := by simp; omega
      rw [eq]; exact this
structure Fin' (b : Bool) (xs : List D) (c : D) (T : D → Nat → Prop) : Prop where
  c0 : T c 0
  rn : ∀ x n, T x n → Rn b xs c n x
  cl : ∀ z n a, T z n → a ∈ xs → isN (svb b a z) = false → ∃ m, m ≤ n + 1 ∧ T (svb b a z) m
  fn : ∀ x n m, T x n → T x m → n = m
theorem Fin'.le {b : Bool} {xs : List D} {c : D} {T : D → Nat → Prop} (F : Fin' b xs c T) {n : Nat} {x : D} (h : Rn b xs c n x) : ∃ m, m ≤ n ∧ T x m := by
  induction h with
  | zero => exact ⟨0, Nat.le_refl _, F.c0⟩
  | succ _ ha hn ih =>
    obtain ⟨m, h1, h2⟩ := ih
    obtain ⟨k, h3, h4⟩ := F.cl _ _ _ h2 ha hn
    exact ⟨k, by omega, h4⟩
theorem Fin'.same {b : Bool} {xs : List D} {c : D} {T S : D → Nat → Prop} (F : Fin' b xs c T) (G : Fin' b xs c S) {x : D} {n : Nat} (h : T x n) : S x n := by
  obtain ⟨m, h1, h2⟩ := G.le (F.rn x n h)
  obtain ⟨k, h3, h4⟩ := F.le (G.rn x m h2)
  have := F.fn x n k h h4
  have : m = n := by omega
  rw [← this]; exact h2
/-! ### the program's search -/
theorem keys_l {P Q : Ch} {x : D} (h : x ∈ keysP P) : x ∈ keysP (P ++ Q) := by
  show x ∈ (P ++ Q).map (·.1)
  rw [List.map_append]; exact List.mem_append_left _ h
structure CIn (b : Bool) (g : Cfg) (xs : List D) (c : D) (k : Nat) (P : Ch) : Prop where
  kin : ∀ z ∈ keysP P, z ∈ cos g
  nd : (keysP P).Nodup
  len : ∀ p ∈ P, p.2.length + 1 ≤ P.length
  wk : ∀ p ∈ P, wk b xs c p.2 = some p.1
  le : ∀ p ∈ P, p.2.length ≤ k
theorem CIn.sz {b : Bool} {g : Cfg} (hg : g ∈ cfgs) {xs : List D} {c : D} {k : Nat} {P : Ch} (h : CIn b g xs c k P) : P.length ≤ 10 := by
  have := nd_len (keysP P) (cos g) h.nd h.kin
  have := cos_len hg
  simp at *; omega
theorem nd_one : ∀ {P : Ch} {x : D} {l m : List D}, (keysP P).Nodup → (x, l) ∈ P → (x, m) ∈ P → l = m
  | [], _, _, _, _, h, _ => by cases h
  | p :: P, x, l, m, hn, h1, h2 => by
    have hn : (p.1 :: keysP P).Nodup := hn
    obtain ⟨n1, n2⟩ := List.nodup_cons.mp hn
    rcases List.mem_cons.mp h1 with z | z
    · rcases List.mem_cons.mp h2 with y | y
      · have := z.trans y.symm; cases this; rfl
      · exact absurd (List.mem_map.mpr ⟨_, y, by rw [← z]⟩) n1
    · rcases List.mem_cons.mp h2 with y | y
      · exact absurd (List.mem_map.mpr ⟨_, z, by rw [← y]⟩) n1
      · exact nd_one n2 z y
abbrev eC (b : Bool) (o c : D) (P : Ch) (lat fnd : List D) (s i a r : Option (Bool × D)) : VEnv := [some (false, o), some (false, c), some (false, .bool b), some (true, .dict (dicD P)), some (false, .list lat), some (true, .list fnd), s, i, a, r]
abbrev ciB : VSM := vSeq (vSet 9 (vCall v_led_to (vCons (vVar 8) (vCons (vVar 6) (vCons (vVar 2) vNil)))))
      (vIfS (vAndT (vTest (vOp vNotN (vVar 9) (vC .none))) (vTest (vOp vNotInD (vVar 9) (vAny 3)))) (vSeq (vPutD 3 (vVar 9) (vOp vAddL (vOp vIxD (vAny 3) (vVar 6)) (vLst (vCons (vVar 7) vNil))))
      (vDrop (vApp 5 (vVar 9)))) vNext)
theorem cin_step {b : Bool} (hb : StAll b) {g : Cfg} (hg : g ∈ cfgs) {xs : List D} {c o : D} {lat fnd : List D} {k : Nat} {P : Ch} (I : CIn b g xs c (k + 1) P) (hf : fnd.length ≤ P.length) {a s : D} {i : Nat} (hax : IsAx g a) (hi : xs[i]? = some a) {l : List D} (hs : (s, l) ∈ P) (hk : l.length = k) (r : Option (Bool × D)) :
    ∃ Q r', ciB (eC b o c P lat fnd (some (false, s)) (some (false, .int (i : Nat))) (some (false, a)) r) = some (.nx, eC b o c (P ++ Q) lat (fnd ++ keysP Q) (some (false, s)) (some (false, .int (i : Nat))) (some (false, a)) r') ∧ CIn b g xs c (k + 1) (P ++ Q) ∧ (∀ q ∈ Q, q.2.length = k + 1) ∧ (isN (svb b a s) = false → svb b a s ∈ keysP (P ++ Q)) := by
  have hS := cgood hg
  have hsk : s ∈ keysP P := List.mem_map.mpr ⟨_, hs, rfl⟩
  have sS := I.kin s hsk
  have st := hb g hg a hax s sS
  have Pl := I.sz hg
  let ii : Option (Bool × D) := some (false, .int (i : Nat))
  have e1 : vSet 9 (vCall v_led_to (vCons (vVar 8) (vCons (vVar 6) (vCons (vVar 2) vNil)))) (eC b o c P lat fnd (some (false, s)) ii (some (false, a)) r) = some (.nx, eC b o c P lat fnd (some (false, s)) ii (some (false, a)) (some (false, svb b a s))) :=
    set_at1 (i := 9) (call_at (cons_at (var_at rfl) (cons_at (var_at rfl) (cons_at (var_at rfl) nil_at))) st.p)
  let v1 : VEnv := eC b o c P lat fnd (some (false, s)) ii (some (false, a)) (some (false, svb b a s))
  have t1 : vTest (vOp vNotN (vVar 9) (vC .none)) v1 = some (.ok (!isN (svb b a s)), v1) := test_at (op_at (var_at rfl) rfl rfl)
  cases q : isN (svb b a s) with
  | true =>
    rw [q] at t1
    refine ⟨[], some (false, svb b a s), ?_, by rw [List.append_nil]; exact I, fun _ h => (by cases h), fun z => (by cases z)⟩
    simp only [List.append_nil, List.map_nil]
    exact seq_nx e1 (if_at (andF_at t1) rfl)
  | false =>
    rw [q] at t1
    have rS := st.i q
    obtain ⟨kk, hkk, hn⟩ := hS.nk rS
    obtain ⟨l1, l2⟩ := look_dic hS rS hn (P := P) I.kin
    have t2 : vTest (vOp vNotInD (vVar 9) (vAny 3)) v1 = some (.ok (!((keysP P).any fun z => eqT z (svb b a s))), v1) := test_at (op_at (var_at rfl) (any_at rfl) (by
      show (match keyD (svb b a s) with | some k => some (PyData.bool (!(lookD (dicD P) k).isSome)) | none => none) = _
      rw [hkk]; simp only; rw [l1]))
    cases q2 : ((keysP P).any fun z => eqT z (svb b a s)) with
    | true =>
      rw [q2] at t2
      refine ⟨[], some (false, svb b a s), ?_, by rw [List.append_nil]; exact I, fun _ h => (by cases h), fun _ => by rw [List.append_nil]; exact (hS.any I.kin rS).mp q2⟩
      simp only [List.append_nil, List.map_nil]
      exact seq_nx e1 (if_at (andT_at t1 t2) rfl)
    | false =>
      rw [q2] at t2
      obtain ⟨ks, hks, hns⟩ := hS.nk sS
      obtain ⟨l', hl', hlk⟩ := (look_dic hS sS hns (P := P) I.kin).2 hsk
      have el : l' = l := nd_one I.nd hl' hs
      subst el
      have ll := I.len _ hs
      have ix : vOp vIxD (vAny 3) (vVar 6) v1 = some (.ok (.list l'), v1) := op_at (any_at rfl) (var_at rfl) (by
        show (match keyD s with | some k => lookD (dicD P) k | none => none) = _
        rw [hks]; exact hlk)
      have ad : vOp vAddL (vOp vIxD (vAny 3) (vVar 6)) (vLst (vCons (vVar 7) vNil)) v1 = some (.ok (.list (l' ++ [PyData.int (i : Nat)])), v1) := op_at ix (show vLst (vCons (vVar 7) vNil) v1 = some (.ok (.list [.int (i : Nat)]), v1) from rfl) (by
        unfold vAddL; simp only
        rw [if_pos (show szW (l'.length + [PyData.int (i : Nat)].length) = true from decide_eq_true (by simp at ll ⊢; omega))])
      have nl : (lookD (dicD P) kk).isSome = false := by rw [l1]; exact q2
      have sd : storeD (dicD P) (svb b a s) kk (.list (l' ++ [PyData.int (i : Nat)])) = dicD (P ++ [(svb b a s, l' ++ [PyData.int (i : Nat)])]) := by
        unfold storeD
        rw [nl]; simp [dicD]
      let v2 : VEnv := eC b o c (P ++ [(svb b a s, l' ++ [PyData.int (i : Nat)])]) lat fnd (some (false, s)) ii (some (false, a)) (some (false, svb b a s))
      have e2 : vPutD 3 (vVar 9) (vOp vAddL (vOp vIxD (vAny 3) (vVar 6)) (vLst (vCons (vVar 7) vNil))) v1 = some (.nx, v2) := by
        unfold vPutD
        rw [ad]
        simp only [vbS]
        show vPutKD 3 (.list (l' ++ [PyData.int (i : Nat)])) (svb b a s) v1 = _
        show (match keyD (svb b a s) with
          | some k => if szW ((dicD P).length + 1) then some (VFl.nx, v1.set 3 (some (true, .dict (storeD (dicD P) (svb b a s) k (.list (l' ++ [PyData.int (i : Nat)])))))) else none
          | none => none) = _
        rw [hkk]
        simp only
        rw [if_pos (show szW ((dicD P).length + 1) = true from decide_eq_true (by simp [dicD]; omega)), sd]
        rfl
      have e3 : vDrop (vApp 5 (vVar 9)) v2 = some (.nx, eC b o c (P ++ [(svb b a s, l' ++ [PyData.int (i : Nat)])]) lat (fnd ++ [svb b a s]) (some (false, s)) ii (some (false, a)) (some (false, svb b a s))) :=
        drop_at (app_at (i := 5) rfl (var_at rfl) rfl (decide_eq_true (by omega)))
      refine ⟨[(svb b a s, l' ++ [PyData.int (i : Nat)])], some (false, svb b a s), seq_nx e1 (ifT_at (andT_at t1 t2) (seq_nx e2 e3)), ⟨fun z hz => ?_, ?_, fun p hp => ?_, fun p hp => ?_, fun p hp => ?_⟩, fun p hp => ?_, fun _ => by simp⟩
      · simp only [List.map_append, List.mem_append, List.map_cons, List.map_nil, List.mem_singleton] at hz
        rcases hz with z | z
        · exact I.kin _ z
        · rw [z]; exact rS
      · have : keysP (P ++ [(svb b a s, l' ++ [PyData.int (i : Nat)])]) = addG (keysP P) (svb b a s) := by unfold addG; rw [q2]; simp
        rw [this]; exact addG_nd hS I.kin I.nd rS
      · rcases List.mem_append.mp hp with z | z
        · have := I.len p z; simp; omega
        · rw [List.mem_singleton.mp z]; simp; simp at ll; omega
      · rcases List.mem_append.mp hp with z | z
        · exact I.wk p z
        · rw [List.mem_singleton.mp z]; exact wk_snoc (I.wk _ hs) (wk1_at hi q)
      · rcases List.mem_append.mp hp with z | z
        · exact I.le p z
        · rw [List.mem_singleton.mp z]; simp; omega
      · rw [List.mem_singleton.mp hp]; simp; omega
end DV.Com

namespace DV.Com
open PySem DI DV
section
variable {b : Bool} (hb : StAll b) {g : Cfg} (hg : g ∈ cfgs) {xs : List D} {c o : D}
theorem cax_loop (hb : StAll b) (hg : g ∈ cfgs) {lat : List D} {s : D} {l : List D} {k : Nat} (hk : l.length = k) (hax : ∀ a ∈ xs, IsAx g a) : ∀ (as : List D) (n : Nat) (P : Ch) (fnd : List D) (i a r : Option (Bool × D)), (∀ j a, as[j]? = some a → xs[n + j]? = some a) → CIn b g xs c (k + 1) P → fnd.length ≤ P.length → (s, l) ∈ P →
    ∃ Q i' a' r', vloop2 7 8 ciB n as (eC b o c P lat fnd (some (false, s)) i a r) = some (.nx, eC b o c (P ++ Q) lat (fnd ++ keysP Q) (some (false, s)) i' a' r') ∧ CIn b g xs c (k + 1) (P ++ Q) ∧ (∀ q ∈ Q, q.2.length = k + 1) ∧ ∀ a ∈ as, isN (svb b a s) = false → svb b a s ∈ keysP (P ++ Q)
  | [], n, P, fnd, i, a, r, _, I, _, _ => ⟨[], i, a, r, by simp [vloop2], by rw [List.append_nil]; exact I, fun _ h => (by cases h), fun _ h => (by cases h)⟩
  | d :: as, n, P, fnd, i, a, r, ha, I, hf, hs => by
    have h0 : xs[n]? = some d := by simpa using ha 0 d rfl
    obtain ⟨Q1, r1, e1, I1, k1, m1⟩ := cin_step hb hg (o := o) (lat := lat) I hf (hax d (List.mem_of_getElem? h0)) h0 hs hk r
    obtain ⟨Q2, i2, a2, r2, e2, I2, k2, m2⟩ := cax_loop hb hg (lat := lat) hk hax as (n + 1) (P ++ Q1) (fnd ++ keysP Q1) (some (false, .int (n : Nat))) (some (false, d)) r1 (fun j x h => by have := ha (j + 1) x (by simpa using h); rw [← this]; congr 1; omega) I1 (by simp; omega) (List.mem_append_left _ hs)
    refine ⟨Q1 ++ Q2, i2, a2, r2, ?_, by rw [← List.append_assoc]; exact I2, fun q hq => ?_, fun x hx q => ?_⟩
    · show (match ciB (eC b o c P lat fnd (some (false, s)) (some (false, .int (n : Nat))) (some (false, d)) r) with
        | some (.nx, v1) => vloop2 7 8 ciB (n + 1) as v1
        | some (.ct, v1) => vloop2 7 8 ciB (n + 1) as v1
        | some (.bk, v1) => some (.nx, v1)
        | o => o) = _
      rw [e1]
      simp only
      rw [e2]
      simp only [List.append_assoc, List.map_append]
    · rcases List.mem_append.mp hq with z | z
      · exact k1 q z
      · exact k2 q z
    · rw [← List.append_assoc]
      rcases List.mem_cons.mp hx with z | z
      · subst z
        exact keys_l (m1 q)
      · exact m2 x z q
theorem clat_loop (hb : StAll b) (hg : g ∈ cfgs) (ho : seqV o = some xs) {lat : List D} {k : Nat} (hax : ∀ a ∈ xs, IsAx g a) : ∀ (ls : List D) (P : Ch) (fnd : List D) (s i a r : Option (Bool × D)), (∀ s ∈ ls, ∃ l, (s, l) ∈ P ∧ l.length = k) → CIn b g xs c (k + 1) P → fnd.length ≤ P.length →
    ∃ Q s' i' a' r', vloop 6 (vForE (vVar 0) 7 8 ciB) ls (eC b o c P lat fnd s i a r) = some (.nx, eC b o c (P ++ Q) lat (fnd ++ keysP Q) s' i' a' r') ∧ CIn b g xs c (k + 1) (P ++ Q) ∧ (∀ q ∈ Q, q.2.length = k + 1) ∧ ∀ s ∈ ls, ∀ a ∈ xs, isN (svb b a s) = false → svb b a s ∈ keysP (P ++ Q)
  | [], P, fnd, s, i, a, r, _, I, _ => ⟨[], s, i, a, r, by simp [vloop], by rw [List.append_nil]; exact I, fun _ h => (by cases h), fun _ h => (by cases h)⟩
  | d :: ls, P, fnd, s, i, a, r, hl, I, hf => by
    obtain ⟨l, hs, hk⟩ := hl d List.mem_cons_self
    obtain ⟨Q1, i1, a1, r1, e1, I1, k1, m1⟩ := cax_loop (c := c) (o := o) hb hg (lat := lat) hk hax xs 0 P fnd i a r (fun j x h => by rw [Nat.zero_add]; exact h) I hf hs
    obtain ⟨Q2, s2, i2, a2, r2, e2, I2, k2, m2⟩ := clat_loop hb hg ho (lat := lat) hax ls (P ++ Q1) (fnd ++ keysP Q1) (some (false, d)) i1 a1 r1 (fun x hx => let ⟨l, h1, h2⟩ := hl x (List.mem_cons_of_mem _ hx); ⟨l, List.mem_append_left _ h1, h2⟩) I1 (by simp; omega)
    refine ⟨Q1 ++ Q2, s2, i2, a2, r2, ?_, by rw [← List.append_assoc]; exact I2, fun q hq => ?_, fun x hx y hy q => ?_⟩
    · have e1 : vForE (vVar 0) 7 8 ciB (eC b o c P lat fnd (some (false, d)) i a r) = some (.nx, eC b o c (P ++ Q1) lat (fnd ++ keysP Q1) (some (false, d)) i1 a1 r1) := by
        unfold vForE
        rw [var_at (d := o) rfl]
        simp only [vbS]
        rw [ho]
        exact e1
      show (match vForE (vVar 0) 7 8 ciB (eC b o c P lat fnd (some (false, d)) i a r) with
        | some (.nx, v1) => vloop 6 (vForE (vVar 0) 7 8 ciB) ls v1
        | some (.ct, v1) => vloop 6 (vForE (vVar 0) 7 8 ciB) ls v1
        | some (.bk, v1) => some (.nx, v1)
        | o => o) = _
      rw [e1]
      simp only
      rw [e2]
      simp only [List.append_assoc, List.map_append]
    · rcases List.mem_append.mp hq with z | z
      · exact k1 q z
      · exact k2 q z
    · rw [← List.append_assoc]
      rcases List.mem_cons.mp hx with z | z
      · subst z
        exact keys_l (m1 y hy q)
      · exact m2 x z y hy q
/-- what holds whenever the test is made -/
structure CPI (b : Bool) (g : Cfg) (xs : List D) (c : D) (k : Nat) (P : Ch) (lat : List D) : Prop where
  i : CIn b g xs c k P
  la : ∀ x ∈ lat, ∃ l, (x, l) ∈ P ∧ l.length = k
  cl : ∀ p ∈ P, p.1 ∉ lat → ∀ a ∈ xs, isN (svb b a p.1) = false → ∃ q ∈ P, q.1 = svb b a p.1 ∧ q.2.length ≤ p.2.length + 1
  c0 : (c, []) ∈ P
abbrev cwT : VM Bool := vAndT (vTruL (vVar 4)) (vTest (vOp vLt (vU vLen (vOp vIxD (vAny 3) (vOp vIx (vVar 4) (vC (.int 0))))) (vC cd_MOST_CHAIN_STEPS)))
abbrev cwB : VSM := vSeq (vSetO 5 (vLst vNil))
      (vSeq (vFor (vVar 4) 6 (vForE (vVar 0) 7 8 ciB))
      (vFrz 5 (vSet 4 (vVar 5))))
abbrev eW (b : Bool) (o c : D) (P : Ch) (lat : List D) (f s i a r : Option (Bool × D)) : VEnv := [some (false, o), some (false, c), some (false, .bool b), some (true, .dict (dicD P)), some (false, .list lat), f, s, i, a, r]
theorem ctest_w (hg : g ∈ cfgs) {k : Nat} {P : Ch} {lat : List D} (I : CPI b g xs c k P lat) (f s i a r : Option (Bool × D)) : cwT (eW b o c P lat f s i a r) = some (.ok (!lat.isEmpty), eW b o c P lat f s i a r) := by
  let v : VEnv := eW b o c P lat f s i a r
  have t1 : vTruL (vVar 4) v = some (.ok (!lat.isEmpty), v) := rfl
  cases lat with
  | nil => exact andF_at t1
  | cons x lat =>
    have hS := cgood hg
    obtain ⟨l0, h0, _⟩ := I.la x List.mem_cons_self
    have hx : x ∈ keysP P := List.mem_map.mpr ⟨_, h0, rfl⟩
    have xS := I.i.kin x hx
    obtain ⟨k, hk, hn⟩ := hS.nk xS
    obtain ⟨l, hl, hlk⟩ := (look_dic hS xS hn (P := P) I.i.kin).2 hx
    have ll := I.i.len _ hl
    have le := I.i.sz hg
    have i0 : vOp vIx (vVar 4) (vC (.int 0)) v = some (.ok x, v) := op_at (var_at rfl) rfl (L2.atI_nat (j := 0) rfl)
    have ix : vOp vIxD (vAny 3) (vOp vIx (vVar 4) (vC (.int 0))) v = some (.ok (.list l), v) := op_at (any_at rfl) i0 (by
      show (match keyD x with | some k => lookD (dicD P) k | none => none) = _
      rw [hk]; exact hlk)
    have t2 : vTest (vOp vLt (vU vLen (vOp vIxD (vAny 3) (vOp vIx (vVar 4) (vC (.int 0))))) (vC cd_MOST_CHAIN_STEPS)) v = some (.ok (decide ((l.length : Int) < 40)), v) := test_at (op_at (u_at ix rfl) rfl rfl)
    rw [decide_eq_true (show (l.length : Int) < 40 by simp at ll; omega)] at t2
    exact andT_at t1 t2
theorem cbody_w (hb : StAll b) (hg : g ∈ cfgs) (ho : seqV o = some xs) (hax : ∀ a ∈ xs, IsAx g a) {k : Nat} {P : Ch} {lat : List D} (I : CPI b g xs c k P lat) (f s i a r : Option (Bool × D)) :
    ∃ Q f' s' i' a' r', cwB (eW b o c P lat f s i a r) = some (.nx, eW b o c (P ++ Q) (keysP Q) f' s' i' a' r') ∧ CPI b g xs c (k + 1) (P ++ Q) (keysP Q) := by
  have e1 : vSetO 5 (vLst vNil) (eW b o c P lat f s i a r) = some (.nx, eC b o c P lat [] s i a r) := rfl
  obtain ⟨Q, s', i', a', r', e2, I2, k2, m2⟩ := clat_loop (c := c) hb hg ho (lat := lat) hax lat P [] s i a r I.la ⟨I.i.kin, I.i.nd, I.i.len, I.i.wk, fun p hp => Nat.le_succ_of_le (I.i.le p hp)⟩ (by simp)
  have e2 : vFor (vVar 4) 6 (vForE (vVar 0) 7 8 ciB) (eC b o c P lat [] s i a r) = some (.nx, eC b o c (P ++ Q) lat (keysP Q) s' i' a' r') := e2
  have e3 : vFrz 5 (vSet 4 (vVar 5)) (eC b o c (P ++ Q) lat (keysP Q) s' i' a' r') = some (.nx, eW b o c (P ++ Q) (keysP Q) (some (false, .list (keysP Q))) s' i' a' r') := rfl
  refine ⟨Q, _, s', i', a', r', seq_nx e1 (seq_nx e2 e3), ⟨I2, fun x hx => ?_, fun p hp np y hy q => ?_, List.mem_append_left _ I.c0⟩⟩
  · obtain ⟨q, hq, rfl⟩ := List.mem_map.mp hx
    exact ⟨q.2, List.mem_append_right _ hq, k2 q hq⟩
  · rcases List.mem_append.mp hp with z | z
    · by_cases zl : p.1 ∈ lat
      · obtain ⟨l, h1, h2⟩ := I.la _ zl
        have el : p.2 = l := nd_one I.i.nd (show (p.1, p.2) ∈ P from z) h1
        obtain ⟨q0, hq0, eq0⟩ := List.mem_map.mp (m2 p.1 zl y hy q)
        exact ⟨q0, hq0, eq0, by have := I2.le q0 hq0; rw [el, h2]; exact this⟩
      · obtain ⟨q0, hq0, a1, a2⟩ := I.cl p z zl y hy q
        exact ⟨q0, List.mem_append_left _ hq0, a1, a2⟩
    · exact absurd (List.mem_map.mpr ⟨p, z, rfl⟩) np
theorem cloop_w (hb : StAll b) (hg : g ∈ cfgs) (ho : seqV o = some xs) (hax : ∀ a ∈ xs, IsAx g a) : ∀ (m : Nat) {k : Nat} {P : Ch} {lat : List D}, CPI b g xs c k P lat → 1 ≤ m → (lat ≠ [] → 16 ≤ m + P.length) → ∀ (f s i a r : Option (Bool × D)),
    ∃ k' P' f' s' i' a' r', vloopC cwT cwB m (eW b o c P lat f s i a r) = some (.nx, eW b o c P' [] f' s' i' a' r') ∧ CPI b g xs c k' P' []
  | 0, k, P, lat, I, h1, _, f, s, i, a, r => absurd h1 (by decide)
  | m + 1, k, P, lat, I, h1, h2, f, s, i, a, r => by
    have t := ctest_w hg (o := o) I f s i a r
    cases lat with
    | nil =>
      refine ⟨k, P, f, s, i, a, r, ?_, I⟩
      unfold vloopC
      rw [t]; rfl
    | cons x lat =>
      have h2 := h2 (by simp)
      have le := I.i.sz hg
      obtain ⟨Q, f', s', i', a', r', e, I'⟩ := cbody_w hb hg ho hax I f s i a r
      have ih := cloop_w hb hg ho hax m I' (by omega) (fun ne => by
        have : Q ≠ [] := fun z => ne (by rw [z]; rfl)
        have : 0 < Q.length := List.length_pos_iff.mpr this
        simp; omega) f' s' i' a' r'
      obtain ⟨k', P', f2, s2, i2, a2, r2, e2, I2⟩ := ih
      refine ⟨k', P', f2, s2, i2, a2, r2, ?_, I2⟩
      unfold vloopC
      rw [t]
      simp only [List.isEmpty_cons, Bool.not_false]
      rw [e]
      exact e2
/-- the pairs (concept, number of steps) of a dict of chains -/
def chT (P : Ch) (x : D) (n : Nat) : Prop := ∃ l, (x, l) ∈ P ∧ l.length = n
theorem chains_spec (hb : StAll b) (hg : g ∈ cfgs) (ho : seqV o = some xs) (hax : ∀ a ∈ xs, IsAx g a) (hc : c ∈ cos g) : ∃ P, v_chains_from [o, c, .bool b] = some (.ok (.dict (dicD P))) ∧ (∀ z ∈ keysP P, z ∈ cos g) ∧ (keysP P).Nodup ∧ (∀ p ∈ P, wk b xs c p.2 = some p.1 ∧ p.2.length ≤ 10) ∧ Fin' b xs c (chT P) := by
  have hS := cgood hg
  obtain ⟨k, hk, hn⟩ := hS.nk hc
  have s0 : vSetO 3 (vDictE (vVar 1)) [some (false, o), some (false, c), some (false, .bool b), none, none, none, none, none, none, none] = some (.nx, [some (false, o), some (false, c), some (false, .bool b), some (true, .dict (dicD [(c, [])])), none, none, none, none, none, none]) := by
    unfold vSetO vDictE
    rw [var_at (d := c) rfl]
    simp only [vbnd]
    rw [hk]
    rfl
  have s1 : vSet 4 (vLst (vCons (vVar 1) vNil)) [some (false, o), some (false, c), some (false, .bool b), some (true, .dict (dicD [(c, [])])), none, none, none, none, none, none] = some (.nx, eW b o c [(c, [])] [c] none none none none none) := rfl
  have I0 : CPI b g xs c 0 [(c, [])] [c] := ⟨⟨fun z hz => by rw [List.mem_singleton.mp hz]; exact hc, List.nodup_cons.mpr ⟨List.not_mem_nil, List.nodup_nil⟩, fun p hp => by rw [List.mem_singleton.mp hp]; simp, fun p hp => by rw [List.mem_singleton.mp hp]; rfl, fun p hp => by rw [List.mem_singleton.mp hp]; simp⟩, fun x hx => ⟨[], by rw [List.mem_singleton.mp hx]; exact List.mem_singleton.mpr rfl, rfl⟩, fun p hp np => absurd (List.mem_map.mpr ⟨p, hp, rfl⟩) np, List.mem_singleton.mpr rfl⟩
  obtain ⟨k', P, f, s, i, a, r, e, I⟩ := cloop_w hb hg (o := o) ho hax 1000 I0 (by decide) (fun _ => by simp) none none none none none
  have s2 : vWhile cwT cwB (eW b o c [(c, [])] [c] none none none none none) = some (.nx, eW b o c P [] f s i a r) := e
  refine ⟨P, ?_, I.i.kin, I.i.nd, fun p hp => ⟨I.i.wk p hp, by have := I.i.len p hp; have := I.i.sz hg; omega⟩, ⟨⟨[], I.c0, rfl⟩, ?_, ?_, ?_⟩⟩
  · have all : vb_chains_from [some (false, o), some (false, c), some (false, .bool b), none, none, none, none, none, none, none] = some (.rt (.dict (dicD P)), eW b o c P [] f s i a r) := seq_nx s0 (seq_nx s1 (seq_nx s2 rfl))
    show (match vb_chains_from [some (false, o), some (false, c), some (false, .bool b), none, none, none, none, none, none, none] with | some (.nx, _) => _ | some (.rt d, _) => _ | some (.exc c fs, _) => _ | _ => _) = _
    rw [all]; all_goals rfl
  · rintro x n ⟨l, h1, rfl⟩
    have := wk_rn (m := 0) .zero (I.i.wk _ h1)
    rw [Nat.zero_add] at this; exact this
  · rintro z n y ⟨l, h1, rfl⟩ hy q
    obtain ⟨q0, hq, e1, e2⟩ := I.cl (z, l) h1 List.not_mem_nil y hy q
    exact ⟨q0.2.length, e2, q0.2, by rw [← e1]; exact hq, rfl⟩
  · rintro x n m ⟨l, h1, rfl⟩ ⟨l2, h2, rfl⟩
    rw [nd_one I.i.nd h1 h2]
end
end DV.Com

namespace DV.Com
open PySem DI DV
def isL : D → Bool
  | .list _ => true
  | _ => false
def isI : D → Bool
  | .int _ => true
  | _ => false
theorem isi_list (m : D) : vIsi "list" m = some (.bool (isL m)) := by cases m <;> rfl
theorem int_spec (d : D) : v_is_integer [d] = some (.ok (.bool (isI d))) := by cases d <;> rfl
theorem chainI {ga gb gc : VM D} {v : VEnv} {x y z : Int} (h1 : ga v = some (.ok (.int x), v)) (h2 : gb v = some (.ok (.int y), v)) (h3 : gc v = some (.ok (.int z), v)) : vChain vLe vLt ga gb gc v = some (.ok (.bool (decide (x ≤ y) && decide (y < z))), v) := by
  unfold vChain
  rw [h1]; simp only [vbnd]
  rw [h2]; simp only
  have e : vLe (.int x) (.int y) = some (.bool (decide (x ≤ y))) := rfl
  rw [e]
  cases decide (x ≤ y) with
  | false => rfl
  | true => simp only; rw [h3]; rfl
theorem idx_dec (i : Int) (n : Nat) : (idx n (.int i)).isSome = (decide (0 ≤ i) && decide (i < (n : Int))) := by
  show (if 0 ≤ i ∧ i < (n : Int) then some i.toNat else none).isSome = _
  by_cases h : 0 ≤ i ∧ i < (n : Int)
  · rw [if_pos h]; simp [h]
  · rw [if_neg h]
    symm
    show (decide (0 ≤ i) && decide (i < (n : Int))) = false
    rw [← Bool.not_eq_true, Bool.and_eq_true, decide_eq_true_eq, decide_eq_true_eq]
    exact h
theorem index_spec (d : D) (n : Nat) : v_is_index [d, .int n] = some (.ok (.bool (idx n d).isSome)) := by
  cases d with
  | int i =>
    rw [idx_dec]
    have body : vb_is_index [some (false, .int i), some (false, .int n)] = some (.rt (.bool (decide (0 ≤ i) && decide (i < (n : Int)))), [some (false, .int i), some (false, .int n)]) := by
      unfold vb_is_index vRet vAnd
      rw [call_at (ds := [.int i]) rfl (int_spec _)]
      simp only [vbnd, isI, asV, if_true]
      rw [chainI (x := 0) (y := i) (z := n) rfl rfl rfl]
      rfl
    show (match vb_is_index [some (false, .int i), some (false, .int n)] with | some (.nx, _) => _ | some (.rt d, _) => _ | some (.exc c fs, _) => _ | _ => _) = _
    rw [body]; all_goals rfl
  | _ => rfl
/-! ### is_chain -/
/-- a list or a tuple of these -/
def SeqOf (o : D) (xs : List D) : Prop := o = .list xs ∨ o = .tuple xs
theorem SeqOf.seq {o : D} {xs : List D} (h : SeqOf o xs) : seqV o = some xs := by rcases h with rfl | rfl <;> rfl
theorem SeqOf.items {o : D} {xs : List D} (h : SeqOf o xs) : itemsV o = some xs := by rcases h with rfl | rfl <;> rfl
theorem SeqOf.len {o : D} {xs : List D} (h : SeqOf o xs) : vLen o = some (.int xs.length) := by rcases h with rfl | rfl <;> rfl
theorem SeqOf.ix {o a : D} {xs : List D} {i : Nat} (h : SeqOf o xs) (e : xs[i]? = some a) : vIx o (.int (i : Nat)) = some a := by rcases h with rfl | rfl <;> exact L2.atI_nat e
def chB (b : Bool) (xs : List D) (c e m : D) : Bool := match m with
  | .list l => decide (l.length ≤ 40) && (match wk b xs c l with
    | some r => eqT r e
    | none => false)
  | _ => false
abbrev eI (b : Bool) (o c e m : D) (r i : Option (Bool × D)) : VEnv := [some (false, o), some (false, c), some (false, e), some (false, m), some (false, .bool b), r, i]
abbrev icB : VSM := (vSeq (vIfS (vNotT (vTest (vCall v_is_index (vCons (vVar 6) (vCons (vU vLen (vVar 0)) vNil))))) (vRet (vC (.bool false))) vNext)
      (vSeq (vSet 5 (vCall v_led_to (vCons (vOp vIx (vVar 0) (vVar 6)) (vCons (vVar 5) (vCons (vVar 4) vNil)))))
      (vIfS (vTest (vOp vIsN (vVar 5) (vC .none))) (vRet (vC (.bool false))) vNext)))
theorem mkI_rt {fr : Bool} {n m : Nat} {g : VSM} {d d' r : D} {ds : List D} {v' : VEnv} (hl : ds.length + 1 = n) (h : g ((some (true, d) :: ds.map fun d => some (false, d)) ++ List.replicate (m - n) none) = some (.rt r, v')) (hv : v'[0]? = some (some (true, d'))) : vmkI fr n m g d ds = some (.ok r, d') := by
  unfold vmkI
  rw [if_pos hl, h]; simp only; rw [hv]
theorem mk_rt {fr : Bool} {n m : Nat} {g : VSM} {r : D} {ds : List D} {v' : VEnv} (hl : ds.length = n) (h : g ((ds.map fun d => some (false, d)) ++ List.replicate (m - n) none) = some (.rt r, v')) : vmk fr n m g ds = some (.ok r) := by
  unfold vmk
  rw [if_pos hl, h]
theorem notT_at {f : VM Bool} {v v1 : VEnv} {p : Bool} (h : f v = some (.ok p, v1)) : vNotT f v = some (.ok (!p), v1) := by unfold vNotT; rw [h]; rfl
theorem seq_rt {f g : VSM} {v v1 : VEnv} {d : D} (h : f v = some (.rt d, v1)) : vSeq f g v = some (.rt d, v1) := by unfold vSeq; rw [h]
theorem idx_int {n : Nat} {d : D} {i : Nat} (h : idx n d = some i) : d = .int (i : Nat) ∧ i < n := by
  unfold idx at h
  split at h
  · rename_i j
    split at h
    · rename_i hj
      cases h
      constructor
      · rw [Int.toNat_of_nonneg hj.1]
      · omega
    · cases h
  · cases h
section
variable {b : Bool} {g : Cfg} {xs : List D} {c o e m : D}
theorem ic_step (hb : StAll b) (hg : g ∈ cfgs) (ho : SeqOf o xs) (hax : ∀ a ∈ xs, IsAx g a) {s d : D} (hs : s ∈ cos g) :
    (∃ r, wk1 b xs s d = some r ∧ r ∈ cos g ∧ icB (eI b o c e m (some (false, s)) (some (false, d))) = some (.nx, eI b o c e m (some (false, r)) (some (false, d)))) ∨ (wk1 b xs s d = none ∧ ∃ v', icB (eI b o c e m (some (false, s)) (some (false, d))) = some (.rt (.bool false), v')) := by
  let v : VEnv := eI b o c e m (some (false, s)) (some (false, d))
  have cl : vCall v_is_index (vCons (vVar 6) (vCons (vU vLen (vVar 0)) vNil)) v = some (.ok (.bool (idx xs.length d).isSome), v) := call_at (ds := [d, .int xs.length]) (cons_at (var_at rfl) (cons_at (u_at (var_at rfl) ho.len) nil_at)) (index_spec _ _)
  have t1 := notT_at (test_at cl)
  cases q : idx xs.length d with
  | none =>
    rw [q] at t1
    exact .inr ⟨by unfold wk1; rw [q], v, seq_rt (ifT_at t1 rfl)⟩
  | some i =>
    rw [q] at t1
    obtain ⟨ed, hi⟩ := idx_int q
    obtain ⟨a, ha⟩ : ∃ a, xs[i]? = some a := ⟨xs[i], List.getElem?_eq_getElem hi⟩
    have st := hb g hg a (hax a (List.mem_of_getElem? ha)) s hs
    have e1 : vSet 5 (vCall v_led_to (vCons (vOp vIx (vVar 0) (vVar 6)) (vCons (vVar 5) (vCons (vVar 4) vNil)))) v = some (.nx, eI b o c e m (some (false, svb b a s)) (some (false, d))) :=
      set_at1 (i := 5) (call_at (ds := [a, s, .bool b]) (cons_at (op_at (var_at rfl) (var_at rfl) (by rw [ed]; exact ho.ix ha)) (cons_at (var_at rfl) (cons_at (var_at rfl) nil_at))) st.p)
    let v1 : VEnv := eI b o c e m (some (false, svb b a s)) (some (false, d))
    have t2 : vTest (vOp vIsN (vVar 5) (vC .none)) v1 = some (.ok (isN (svb b a s)), v1) := test_at (op_at (var_at rfl) rfl rfl)
    cases q2 : isN (svb b a s) with
    | true =>
      rw [q2] at t2
      refine .inr ⟨by unfold wk1; rw [q]; simp only; rw [ha]; simp only; rw [q2]; rfl, v1, seq_nx (if_at t1 rfl) (seq_nx e1 (ifT_at t2 rfl))⟩
    | false =>
      rw [q2] at t2
      exact .inl ⟨svb b a s, by unfold wk1; rw [q]; simp only; rw [ha]; simp only; rw [q2]; rfl, st.i q2, seq_nx (if_at t1 rfl) (seq_nx e1 (if_at t2 rfl))⟩
theorem ic_loop (hb : StAll b) (hg : g ∈ cfgs) (ho : SeqOf o xs) (hax : ∀ a ∈ xs, IsAx g a) : ∀ (l : List D) (s : D) (i : Option (Bool × D)), s ∈ cos g →
    (∃ r i', wk b xs s l = some r ∧ r ∈ cos g ∧ vloop 6 icB l (eI b o c e m (some (false, s)) i) = some (.nx, eI b o c e m (some (false, r)) i')) ∨ (wk b xs s l = none ∧ ∃ v', vloop 6 icB l (eI b o c e m (some (false, s)) i) = some (.rt (.bool false), v'))
  | [], s, i, hs => .inl ⟨s, i, rfl, hs, rfl⟩
  | d :: l, s, i, hs => by
    have un : ∀ o', icB (eI b o c e m (some (false, s)) (some (false, d))) = o' → vloop 6 icB (d :: l) (eI b o c e m (some (false, s)) i) = (match o' with
      | some (.nx, v1) => vloop 6 icB l v1
      | some (.ct, v1) => vloop 6 icB l v1
      | some (.bk, v1) => some (.nx, v1)
      | o => o) := fun o' h => by rw [← h]; rfl
    rcases ic_step (c := c) (e := e) (m := m) hb hg ho hax (d := d) hs with ⟨r, h1, h2, h3⟩ | ⟨h1, v', h3⟩
    · rw [un _ h3]
      have ew : wk b xs s (d :: l) = wk b xs r l := by
        show (match wk1 b xs s d with | some s => wk b xs s l | none => none) = _
        rw [h1]
      rw [ew]
      exact ic_loop hb hg ho hax l r (some (false, d)) h2
    · rw [un _ h3]
      refine .inr ⟨?_, v', rfl⟩
      show (match wk1 b xs s d with | some s => wk b xs s l | none => none) = _
      rw [h1]
theorem eq_dat {x y : D} (tx : isTup1 x = true) (ox : okT x = true) (oy : okT y = true) (dx : x.depth < 24) (dy : y.depth < 24) : vEq x y = some (.bool (eqT x y)) := by
  unfold isTup1 at tx
  split at tx
  · rename_i z zs
    have e : vEq (.tuple (z :: zs)) y = vDat dEq (.tuple (z :: zs)) y := by cases y <;> rfl
    rw [e]
    unfold vDat dEq
    rw [show dp (.tuple (z :: zs)) = true from decide_eq_true dx, show dp y = true from decide_eq_true dy, ox, oy]
    rfl
  · cases tx
theorem Good_eq {S : List D} (hS : Good S) {x y : D} (hx : x ∈ S) (hy : y ∈ S) : vEq x y = some (.bool (eqT x y)) := by
  have a := (hS.con hx).1
  have b := (hS.con hy).1
  exact eq_dat a.t a.o b.o (Nat.lt_of_le_of_lt a.d (by decide)) (Nat.lt_of_le_of_lt b.d (by decide))
theorem eq_cos (hg : g ∈ cfgs) {x y : D} (hx : x ∈ cos g) (hy : y ∈ cos g) : vEq x y = some (.bool (eqT x y)) := Good_eq (cgood hg) hx hy
theorem is_chain_spec (hb : StAll b) (hg : g ∈ cfgs) (ho : SeqOf o xs) (hax : ∀ a ∈ xs, IsAx g a) (hc : c ∈ cos g) (he : e ∈ cos g) (m : D) : v_is_chain [o, c, e, m, .bool b] = some (.ok (.bool (chB b xs c e m))) := by
  let v : VEnv := eI b o c e m none none
  have key : ∃ v', vb_is_chain v = some (.rt (.bool (chB b xs c e m)), v') := by
    have t1 := notT_at (test_at (show vU (vIsi "list") (vVar 3) v = some (.ok (.bool (isL m)), v) from u_at (var_at rfl) (isi_list m)))
    cases m with
    | list l =>
      have t2 : vTest (vOp vGt (vU vLen (vVar 3)) (vC cd_MOST_CHAIN_STEPS)) v = some (.ok (decide ((l.length : Int) > 40)), v) := test_at (op_at (u_at (var_at rfl) rfl) rfl rfl)
      have t3 : vOrT (vNotT (vTest (vU (vIsi "list") (vVar 3)))) (vTest (vOp vGt (vU vLen (vVar 3)) (vC cd_MOST_CHAIN_STEPS))) v = some (.ok (decide ((l.length : Int) > 40)), v) := by
        unfold vOrT; rw [t1]; exact t2
      by_cases hl : l.length ≤ 40
      · rw [decide_eq_false (by omega)] at t3
        have s2 : vSet 5 (vVar 1) v = some (.nx, eI b o c e (.list l) (some (false, c)) none) := rfl
        rcases ic_loop (c := c) (e := e) (m := .list l) hb hg ho hax l c none hc with ⟨r, i', h1, h2, h3⟩ | ⟨h1, v', h3⟩
        · have s3 : vFor (vVar 3) 6 icB (eI b o c e (.list l) (some (false, c)) none) = some (.nx, eI b o c e (.list l) (some (false, r)) i') := h3
          refine ⟨eI b o c e (.list l) (some (false, r)) i', ?_⟩
          have ec : chB b xs c e (.list l) = eqT r e := by unfold chB; simp only; rw [h1, decide_eq_true hl]; rfl
          rw [ec]
          refine seq_nx (if_at t3 rfl) (seq_nx s2 (seq_nx s3 ?_))
          unfold vRet
          rw [op_at (var_at rfl) (var_at rfl) (eq_cos hg h2 he)]; rfl
        · have s3 : vFor (vVar 3) 6 icB (eI b o c e (.list l) (some (false, c)) none) = some (.rt (.bool false), v') := h3
          refine ⟨v', ?_⟩
          have ec : chB b xs c e (.list l) = false := by unfold chB; simp only; rw [h1, Bool.and_false]
          rw [ec]
          exact seq_nx (if_at t3 rfl) (seq_nx s2 (seq_rt s3))
      · rw [decide_eq_true (by omega)] at t3
        refine ⟨v, ?_⟩
        have ec : chB b xs c e (.list l) = false := by unfold chB; simp only; rw [decide_eq_false hl]; rfl
        rw [ec]
        exact seq_rt (ifT_at t3 rfl)
    | _ =>
      have t3 : vOrT (vNotT (vTest (vU (vIsi "list") (vVar 3)))) (vTest (vOp vGt (vU vLen (vVar 3)) (vC cd_MOST_CHAIN_STEPS))) v = some (.ok true, v) := by
        unfold vOrT; rw [t1]; rfl
      exact ⟨v, seq_rt (ifT_at t3 rfl)⟩
  obtain ⟨v', all⟩ := key
  show (match vb_is_chain v with | some (.nx, _) => _ | some (.rt d, _) => _ | some (.exc c fs, _) => _ | _ => _) = _
  rw [all]; all_goals rfl
/-! ### find_chain -/
theorem wk_ints : ∀ {l : List D} {s x : D}, wk b xs s l = some x → ∀ d ∈ l, ∃ i : Nat, d = .int (i : Nat)
  | [], s, x, h, d, m => by cases m
  | y :: l, s, x, h, d, m => by
    have h : (match wk1 b xs s y with | some s => wk b xs s l | none => none) = some x := h
    cases q : wk1 b xs s y with
    | none => rw [q] at h; cases h
    | some t =>
      rw [q] at h
      rcases List.mem_cons.mp m with z | z
      · subst z
        unfold wk1 at q
        split at q
        · rename_i i hi
          exact ⟨i, (idx_int hi).1⟩
        · cases q
      · exact wk_ints h d z
def dirs (g : Cfg) : List D := g.2.map (two "out") ++ g.2.map (two "in")
theorem dirs_cos {g : Cfg} {c : D} (h : c ∈ dirs g) : c ∈ cos g := List.mem_append_right _ h
theorem chkD_all : (cfgs.all fun g => (dirs g).all fun c => okB (v_check_direction [c]) .none) = true := by decide +kernel
theorem chkD {g : Cfg} (hg : g ∈ cfgs) {c : D} (hc : c ∈ dirs g) : v_check_direction [c] = some (.ok .none) := okB_ok (List.all_eq_true.mp (List.all_eq_true.mp chkD_all g hg) c hc)
/-- what is found: the dict of the chains, the value -/
structure Found (b : Bool) (xs : List D) (c e : D) (P : Ch) (r : D) : Prop where
  fin : Fin' b xs c (chT P)
  r : (r = .none ∧ ∀ n, ¬ chT P e n) ∨ ∃ l, r = .list l ∧ chT P e l.length ∧ wk b xs c l = some e ∧ l.length ≤ 10
abbrev eF (b : Bool) (o c e : D) (x : Option (Bool × D)) : VEnv := [some (false, o), some (false, c), some (false, e), some (false, .bool b), x]
abbrev fB : VSM := (vSeq (vDrop (vCall v_check_concept (vCons (vVar 4) vNil)))
      (vIfS (vTest (vVar 3)) (vDrop (vCall v_check_direction (vCons (vVar 4) vNil))) vNext))
theorem fB_at (hg : g ∈ cfgs) {x : D} (hx : x ∈ cos g) (hd : b = true → x ∈ dirs g) : fB (eF b o c e (some (false, x))) = some (.nx, eF b o c e (some (false, x))) := by
  refine seq_nx (drop_at (call_at (ds := [x]) rfl (chkC hg hx))) ?_
  cases b with
  | false => rfl
  | true => exact ifT_at (c := vTest (vVar 3)) rfl (drop_at (call_at (ds := [x]) rfl (chkD hg (hd rfl))))
theorem find_spec (hb : StAll b) (hg : g ∈ cfgs) (ho : SeqOf o xs) (hax : ∀ a ∈ xs, IsAx g a) (hc : c ∈ cos g) (he : e ∈ cos g) (hd : b = true → c ∈ dirs g ∧ e ∈ dirs g) : ∃ P r, v_find_chain [o, c, e, .bool b] = some (.ok r) ∧ Found b xs c e P r := by
  obtain ⟨P, ep, kin, nd, pw, F⟩ := chains_spec hb hg ho.seq hax hc
  have hS := cgood hg
  obtain ⟨k, hk, hn⟩ := hS.nk he
  obtain ⟨l1, l2⟩ := look_dic hS he hn (P := P) kin
  have s1 : vFor (vTup (vCons (vVar 1) (vCons (vVar 2) vNil))) 4 fB (eF b o c e none) = some (.nx, eF b o c e (some (false, e))) := by
    show vloop 4 fB [c, e] (eF b o c e none) = _
    show (match fB (eF b o c e (some (false, c))) with
      | some (.nx, v1) => vloop 4 fB [e] v1
      | some (.ct, v1) => vloop 4 fB [e] v1
      | some (.bk, v1) => some (.nx, v1)
      | o => o) = _
    rw [fB_at hg hc fun z => (hd z).1]
    show (match fB (eF b o c e (some (false, e))) with
      | some (.nx, v1) => vloop 4 fB [] v1
      | some (.ct, v1) => vloop 4 fB [] v1
      | some (.bk, v1) => some (.nx, v1)
      | o => o) = _
    rw [fB_at hg he fun z => (hd z).2]
    rfl
  have cl : vCall v_chains_from (vCons (vVar 0) (vCons (vVar 1) (vCons (vVar 3) vNil))) (eF b o c e (some (false, e))) = some (.ok (.dict (dicD P)), eF b o c e (some (false, e))) := call_at (ds := [o, c, .bool b]) rfl ep
  have gt : vGet (vCall v_chains_from (vCons (vVar 0) (vCons (vVar 1) (vCons (vVar 3) vNil)))) (vVar 2) (eF b o c e (some (false, e))) = some (.ok ((lookD (dicD P) k).getD .none), eF b o c e (some (false, e))) := by
    unfold vGet
    rw [cl]; simp only [vbnd]
    rw [var_at (d := e) rfl]; simp only
    rw [hk]
  have all : vb_find_chain (eF b o c e none) = some (.rt ((lookD (dicD P) k).getD .none), eF b o c e (some (false, e))) := by
    refine seq_nx s1 ?_
    unfold vRet
    rw [gt]; rfl
  refine ⟨P, (lookD (dicD P) k).getD .none, ?_, F, ?_⟩
  · show (match vb_find_chain (eF b o c e none) with | some (.nx, _) => _ | some (.rt d, _) => _ | some (.exc c fs, _) => _ | _ => _) = _
    rw [all]; all_goals rfl
  · by_cases hm : e ∈ keysP P
    · obtain ⟨l, h1, h2⟩ := l2 hm
      refine .inr ⟨l, by rw [h2]; rfl, ⟨l, h1, rfl⟩, (pw _ h1).1, (pw _ h1).2⟩
    · refine .inl ⟨?_, fun n ⟨l, h1, _⟩ => hm (List.mem_map.mpr ⟨_, h1, rfl⟩)⟩
      have : ((keysP P).any fun z => eqT z e) = false := by
        rw [← Bool.not_eq_true]; intro z; exact hm ((hS.any kin he).mp z)
      rw [this] at l1
      cases q : lookD (dicD P) k with
      | none => rfl
      | some y => rw [q] at l1; cases l1
end
end DV.Com

namespace K05
open PySem L2 PySem.Spec PyProof.Rows DI
def top (i : Nat) : Stmt := PySem.Challenge.pw_factsandfar_k05_chains.main.body.getD i (.Pass ⟨0, 0, 0, 0⟩)
def clsB (K : PySem.W.Frag) : Bool := [].all id
def c_LETTERS : W := (.str "abcdefghijklmnopqrstuvwxyz")
def c_MOST_CHARACTERS : W := (.int 8)
def c_CONCEPT_FORMS : W := (.tup [(.tup [(.str "concept"), (.int 2)]), (.tup [(.str "out"), (.int 2)]), (.tup [(.str "in"), (.int 2)])])
def c_DIRECTION_FORMS : W := (.tup [(.tup [(.str "out"), (.int 2)]), (.tup [(.str "in"), (.int 2)])])
def c_ROLE_INCLUSIONS : W := (.tup [(.str "subrole"), (.str "subrole_inverse")])
def c_REVERSING : W := (.tup [(.str "subrole_inverse"), (.str "disjoint_inverse")])
def c_MOST_CHAIN_STEPS : W := (.int 40)

/-! ### consists_of -/
abbrev s_consists_of : Stmt := top 3
def b_consists_of : FS := (fSeq (fIfS (fOrT (fNotT (fTest (fIsi "str" (fVar 0)))) (fNotT (fTest (fChain opLe opLe (fC (.int 1)) (fCB opLen (fCons (fVar 0) fNil)) (fC c_MOST_CHARACTERS))))) (fRet (fC (.bl false))) fNext)
      (fRet (fCB opAll (fCons (fLc (fVar 0) 2 fYes (fOp opIn (fVar 2) (fVar 1))) fNil))))
def d_consists_of : OC := mkF 2 3 b_consists_of
theorem sc_consists_of : FnScope ["candidate", "characters", "character"] ["candidate", "characters"] (defScope s_consists_of) := ⟨rfl, rfl, rfl, by decide +kernel, rfl, by decide +kernel, by decide +kernel⟩
theorem kn_consists_of {P : Program} {w : World} {K : PySem.W.Frag} {mg : Str → Option Value} {base : Heap} {f : Addr} {fd : FuncData} (Fn : FunD K "consists_of" "consists_of" (defArgs s_consists_of) (defBody s_consists_of) (defScope s_consists_of) [] [] f fd) (hm : mg "consists_of" = some (.ref f)) (g_MOST_CHARACTERS : CN K mg "MOST_CHARACTERS" c_MOST_CHARACTERS) (f_isinstance : mg "isinstance" = none) (f_str : mg "str" = none) (f_len : mg "len" = none) (f_all : mg "all" = none) :
    Kn P w K mg base (EXc K) "consists_of" 1 ["candidate", "characters"] d_consists_of := by
  refine kn_of Fn hm (Fn.bindsN fun _ _ _ _ _ _ us hl => match us, hl with | [_, _], _ => rfl) sc_consists_of rfl fun cdv A ou s H E hgd hr => ?_
  have nd := sc_consists_of.nd
  have hgd : (cxOf (L2.CX P w) P w K mg base ["candidate", "characters", "character"] "consists_of" (defScope s_consists_of) f cdv A ou s H E).A.guards = some [] := hgd
  have tk : Takes (cxOf (L2.CX P w) P w K mg base ["candidate", "characters", "character"] "consists_of" (defScope s_consists_of) f cdv A ou s H E) (fun cls d _ H => E cls d H) := takes_of rfl rfl rfl rfl
  have hpo : PassesOwn (model P w) (cxOf (L2.CX P w) P w K mg base ["candidate", "characters", "character"] "consists_of" (defScope s_consists_of) f cdv A ou s H E).A (cxOf (L2.CX P w) P w K mg base ["candidate", "characters", "character"] "consists_of" (defScope s_consists_of) f cdv A ou s H E).env (cxOf (L2.CX P w) P w K mg base ["candidate", "characters", "character"] "consists_of" (defScope s_consists_of) f cdv A ou s H E).xe := passes_of rfl
  exact (pdb_cons (pds_if (PW.pt (pdw_or (pdt_not (pdt_val (pd_isi (T := "str") (pd_var 0) rfl f_isinstance rfl f_str (by decide +kernel)))) (pdw_or1 (pdt_not (pdt_chain op_le opr_I0b nox_I op_le opr_I0b nox_I pd_int (pd_callB call_len clr_len nox_len (by rfl) f_len PySem.boot_len (pda_cons (pd_var 0) pda_nil)) (pd_con g_MOST_CHARACTERS rfl)))))) (pdb_one (pds_ret pd_bl)) pdb_nil)
      (pdb_one (pds_ret (pd_callB (cr_all rfl) clr_all nox_all (by rfl) f_all (by decide +kernel) (pda_cons (pd_lc rfl nd (blkOk_by (N := ["candidate", "characters", "character"]) (sc := defScope s_consists_of) (by decide +kernel)) (pd_var 0) (fun _ _ _ _ _ => pg_name (i := 2) nd rfl (Or.inl rfl)) (fun _ _ _ _ _ => pdts_nil) (fun _ _ _ _ _ => (pd_cmp (op_in2 (hu65 hr)) opr_in nox_in (pd_var 2) (pd_var 1) (by rfl)))) pda_nil)))))

/-! ### is_word -/
abbrev s_is_word : Stmt := top 4
def b_is_word : FS := (fRet (fCB d_consists_of (fCons (fVar 0) (fCons (fC c_LETTERS) fNil))))
def d_is_word : OC := mkF 1 1 b_is_word
theorem sc_is_word : FnScope ["candidate"] ["candidate"] (defScope s_is_word) := ⟨rfl, rfl, rfl, by decide +kernel, rfl, by decide +kernel, by decide +kernel⟩
theorem kn_is_word {P : Program} {w : World} {K : PySem.W.Frag} {mg : Str → Option Value} {base : Heap} {f : Addr} {fd : FuncData} (Fn : FunD K "is_word" "is_word" (defArgs s_is_word) (defBody s_is_word) (defScope s_is_word) [] [] f fd) (hm : mg "is_word" = some (.ref f)) (g_LETTERS : CN K mg "LETTERS" c_LETTERS) (k_consists_of : Kn P w K mg base (EXc K) "consists_of" 1 ["candidate", "characters"] d_consists_of) :
    Kn P w K mg base (EXc K) "is_word" 2 ["candidate"] d_is_word := by
  refine kn_of Fn hm (Fn.bindsN fun _ _ _ _ _ _ us hl => match us, hl with | [_], _ => rfl) sc_is_word rfl fun cdv A ou s H E hgd hr => ?_
  have nd := sc_is_word.nd
  have hgd : (cxOf (L2.CX P w) P w K mg base ["candidate"] "is_word" (defScope s_is_word) f cdv A ou s H E).A.guards = some [] := hgd
  have tk : Takes (cxOf (L2.CX P w) P w K mg base ["candidate"] "is_word" (defScope s_is_word) f cdv A ou s H E) (fun cls d _ H => E cls d H) := takes_of rfl rfl rfl rfl
  have hpo : PassesOwn (model P w) (cxOf (L2.CX P w) P w K mg base ["candidate"] "is_word" (defScope s_is_word) f cdv A ou s H E).A (cxOf (L2.CX P w) P w K mg base ["candidate"] "is_word" (defScope s_is_word) f cdv A ou s H E).env (cxOf (L2.CX P w) P w K mg base ["candidate"] "is_word" (defScope s_is_word) f cdv A ou s H E).xe := passes_of rfl
  exact (pdb_one (pds_ret (pd_callK k_consists_of hgd (hr.mono (by decide)) rfl tk (pda_cons (pd_var 0) (pda_cons (pd_con g_LETTERS rfl) pda_nil)))))

/-! ### is_integer -/
abbrev s_is_integer : Stmt := top 5
def b_is_integer : FS := (fRet (fAnd (fIsi "int" (fVar 0)) (fNot (fIsi "bool" (fVar 0)))))
def d_is_integer : OC := mkF 1 1 b_is_integer
theorem sc_is_integer : FnScope ["candidate"] ["candidate"] (defScope s_is_integer) := ⟨rfl, rfl, rfl, by decide +kernel, rfl, by decide +kernel, by decide +kernel⟩
theorem kn_is_integer {P : Program} {w : World} {K : PySem.W.Frag} {mg : Str → Option Value} {base : Heap} {f : Addr} {fd : FuncData} (Fn : FunD K "is_integer" "is_integer" (defArgs s_is_integer) (defBody s_is_integer) (defScope s_is_integer) [] [] f fd) (hm : mg "is_integer" = some (.ref f)) (f_isinstance : mg "isinstance" = none) (f_int : mg "int" = none) (f_bool : mg "bool" = none) :
    Kn P w K mg base (EXc K) "is_integer" 1 ["candidate"] d_is_integer := by
  refine kn_of Fn hm (Fn.bindsN fun _ _ _ _ _ _ us hl => match us, hl with | [_], _ => rfl) sc_is_integer rfl fun cdv A ou s H E hgd hr => ?_
  have nd := sc_is_integer.nd
  have hgd : (cxOf (L2.CX P w) P w K mg base ["candidate"] "is_integer" (defScope s_is_integer) f cdv A ou s H E).A.guards = some [] := hgd
  have tk : Takes (cxOf (L2.CX P w) P w K mg base ["candidate"] "is_integer" (defScope s_is_integer) f cdv A ou s H E) (fun cls d _ H => E cls d H) := takes_of rfl rfl rfl rfl
  have hpo : PassesOwn (model P w) (cxOf (L2.CX P w) P w K mg base ["candidate"] "is_integer" (defScope s_is_integer) f cdv A ou s H E).A (cxOf (L2.CX P w) P w K mg base ["candidate"] "is_integer" (defScope s_is_integer) f cdv A ou s H E).env (cxOf (L2.CX P w) P w K mg base ["candidate"] "is_integer" (defScope s_is_integer) f cdv A ou s H E).xe := passes_of rfl
  exact (pdb_one (pds_ret (pd_and (pd_isi (T := "int") (pd_var 0) rfl f_isinstance rfl f_int (by decide +kernel)) (pd_one (pd_not (pd_isi (T := "bool") (pd_var 0) rfl f_isinstance rfl f_bool (by decide +kernel)))))))

/-! ### is_index -/
abbrev s_is_index : Stmt := top 6
def b_is_index : FS := (fRet (fAnd (fCB d_is_integer (fCons (fVar 0) fNil)) (fChain opLe opLt (fC (.int 0)) (fVar 0) (fVar 1))))
def d_is_index : OC := mkF 2 2 b_is_index
theorem sc_is_index : FnScope ["candidate", "count"] ["candidate", "count"] (defScope s_is_index) := ⟨rfl, rfl, rfl, by decide +kernel, rfl, by decide +kernel, by decide +kernel⟩
theorem kn_is_index {P : Program} {w : World} {K : PySem.W.Frag} {mg : Str → Option Value} {base : Heap} {f : Addr} {fd : FuncData} (Fn : FunD K "is_index" "is_index" (defArgs s_is_index) (defBody s_is_index) (defScope s_is_index) [] [] f fd) (hm : mg "is_index" = some (.ref f)) (k_is_integer : Kn P w K mg base (EXc K) "is_integer" 1 ["candidate"] d_is_integer) :
    Kn P w K mg base (EXc K) "is_index" 2 ["candidate", "count"] d_is_index := by
  refine kn_of Fn hm (Fn.bindsN fun _ _ _ _ _ _ us hl => match us, hl with | [_, _], _ => rfl) sc_is_index rfl fun cdv A ou s H E hgd hr => ?_
  have nd := sc_is_index.nd
  have hgd : (cxOf (L2.CX P w) P w K mg base ["candidate", "count"] "is_index" (defScope s_is_index) f cdv A ou s H E).A.guards = some [] := hgd
  have tk : Takes (cxOf (L2.CX P w) P w K mg base ["candidate", "count"] "is_index" (defScope s_is_index) f cdv A ou s H E) (fun cls d _ H => E cls d H) := takes_of rfl rfl rfl rfl
  have hpo : PassesOwn (model P w) (cxOf (L2.CX P w) P w K mg base ["candidate", "count"] "is_index" (defScope s_is_index) f cdv A ou s H E).A (cxOf (L2.CX P w) P w K mg base ["candidate", "count"] "is_index" (defScope s_is_index) f cdv A ou s H E).env (cxOf (L2.CX P w) P w K mg base ["candidate", "count"] "is_index" (defScope s_is_index) f cdv A ou s H E).xe := passes_of rfl
  exact (pdb_one (pds_ret (pd_and (pd_callK k_is_integer hgd (hr.mono (by decide)) rfl tk (pda_cons (pd_var 0) pda_nil)) (pd_one (pd_chain op_le opr_I0b nox_I op_lt opr_I0b nox_I pd_int (pd_var 0) (pd_var 1))))))

/-! ### tag_of -/
abbrev s_tag_of : Stmt := top 7
def b_tag_of : FS := (fSeq (fIfS (fOrT (fNotT (fTest (fIsi "tuple" (fVar 0)))) (fTest (fOp opEqD (fCB opLen (fCons (fVar 0) fNil)) (fC (.int 0))))) (fRet (fC .non)) fNext)
      (fSeq (fSet 2 (fOp opIx (fVar 0) (fC (.int 0))))
      (fSeq (fIfS (fAndT (fTest (fIsi "str" (fVar 2))) (fTest (fOp opIn (fTup (fCons (fVar 2) (fCons (fCB opLen (fCons (fVar 0) fNil)) fNil))) (fVar 1)))) (fRet (fVar 2)) fNext)
      (fRet (fC .non)))))
def d_tag_of : OC := mkF 2 3 b_tag_of
theorem sc_tag_of : FnScope ["candidate", "forms", "tag"] ["candidate", "forms"] (defScope s_tag_of) := ⟨rfl, rfl, rfl, by decide +kernel, rfl, by decide +kernel, by decide +kernel⟩
theorem kn_tag_of {P : Program} {w : World} {K : PySem.W.Frag} {mg : Str → Option Value} {base : Heap} {f : Addr} {fd : FuncData} (Fn : FunD K "tag_of" "tag_of" (defArgs s_tag_of) (defBody s_tag_of) (defScope s_tag_of) [] [] f fd) (hm : mg "tag_of" = some (.ref f)) (f_isinstance : mg "isinstance" = none) (f_tuple : mg "tuple" = none) (f_len : mg "len" = none) (f_str : mg "str" = none) :
    Kn P w K mg base (EXc K) "tag_of" 1 ["candidate", "forms"] d_tag_of := by
  refine kn_of Fn hm (Fn.bindsN fun _ _ _ _ _ _ us hl => match us, hl with | [_, _], _ => rfl) sc_tag_of rfl fun cdv A ou s H E hgd hr => ?_
  have nd := sc_tag_of.nd
  have hgd : (cxOf (L2.CX P w) P w K mg base ["candidate", "forms", "tag"] "tag_of" (defScope s_tag_of) f cdv A ou s H E).A.guards = some [] := hgd
  have tk : Takes (cxOf (L2.CX P w) P w K mg base ["candidate", "forms", "tag"] "tag_of" (defScope s_tag_of) f cdv A ou s H E) (fun cls d _ H => E cls d H) := takes_of rfl rfl rfl rfl
  have hpo : PassesOwn (model P w) (cxOf (L2.CX P w) P w K mg base ["candidate", "forms", "tag"] "tag_of" (defScope s_tag_of) f cdv A ou s H E).A (cxOf (L2.CX P w) P w K mg base ["candidate", "forms", "tag"] "tag_of" (defScope s_tag_of) f cdv A ou s H E).env (cxOf (L2.CX P w) P w K mg base ["candidate", "forms", "tag"] "tag_of" (defScope s_tag_of) f cdv A ou s H E).xe := passes_of rfl
  exact (pdb_cons (pds_if (PW.pt (pdw_or (pdt_not (pdt_val (pd_isi (T := "tuple") (pd_var 0) rfl f_isinstance rfl f_tuple (by decide +kernel)))) (pdw_or1 (pdt_cmp (op_eq2 hr.units) opr_eq2 nox_eq2 (pd_callB call_len clr_len nox_len (by rfl) f_len PySem.boot_len (pda_cons (pd_var 0) pda_nil)) pd_int (nomark _))))) (pdb_one (pds_ret pd_non)) pdb_nil)
      (pdb_cons (pds_set (i := 2) nd rfl (by first | exact Or.inl rfl | exact Or.inr rfl) (pd_ix (pd_var 0) pd_int))
      (pdb_cons (pds_if (PW.pt (pdw_and (pdt_val (pd_isi (T := "str") (pd_var 2) rfl f_isinstance rfl f_str (by decide +kernel))) (pdw_and1 (pdt_cmp (op_in2 (hu65 hr)) opr_in nox_in (pd_tup (pda_cons (pd_var 2) (pda_cons (pd_callB call_len clr_len nox_len (by rfl) f_len PySem.boot_len (pda_cons (pd_var 0) pda_nil)) pda_nil))) (pd_var 1) (by rfl))))) (pdb_one (pds_ret (pd_var 2))) pdb_nil)
      (pdb_one (pds_ret pd_non)))))

/-! ### is_concept -/
abbrev s_is_concept : Stmt := top 16
def b_is_concept : FS := (fRet (fAnd (fOp opNotN (fCB d_tag_of (fCons (fVar 0) (fCons (fC c_CONCEPT_FORMS) fNil))) (fC .non)) (fCB d_is_word (fCons (fOp opIx (fVar 0) (fC (.int 1))) fNil))))
def d_is_concept : OC := mkF 1 1 b_is_concept
theorem sc_is_concept : FnScope ["candidate"] ["candidate"] (defScope s_is_concept) := ⟨rfl, rfl, rfl, by decide +kernel, rfl, by decide +kernel, by decide +kernel⟩
theorem kn_is_concept {P : Program} {w : World} {K : PySem.W.Frag} {mg : Str → Option Value} {base : Heap} {f : Addr} {fd : FuncData} (Fn : FunD K "is_concept" "is_concept" (defArgs s_is_concept) (defBody s_is_concept) (defScope s_is_concept) [] [] f fd) (hm : mg "is_concept" = some (.ref f)) (g_CONCEPT_FORMS : CN K mg "CONCEPT_FORMS" c_CONCEPT_FORMS) (k_tag_of : Kn P w K mg base (EXc K) "tag_of" 1 ["candidate", "forms"] d_tag_of) (k_is_word : Kn P w K mg base (EXc K) "is_word" 2 ["candidate"] d_is_word) :
    Kn P w K mg base (EXc K) "is_concept" 3 ["candidate"] d_is_concept := by
  refine kn_of Fn hm (Fn.bindsN fun _ _ _ _ _ _ us hl => match us, hl with | [_], _ => rfl) sc_is_concept rfl fun cdv A ou s H E hgd hr => ?_
  have nd := sc_is_concept.nd
  have hgd : (cxOf (L2.CX P w) P w K mg base ["candidate"] "is_concept" (defScope s_is_concept) f cdv A ou s H E).A.guards = some [] := hgd
  have tk : Takes (cxOf (L2.CX P w) P w K mg base ["candidate"] "is_concept" (defScope s_is_concept) f cdv A ou s H E) (fun cls d _ H => E cls d H) := takes_of rfl rfl rfl rfl
  have hpo : PassesOwn (model P w) (cxOf (L2.CX P w) P w K mg base ["candidate"] "is_concept" (defScope s_is_concept) f cdv A ou s H E).A (cxOf (L2.CX P w) P w K mg base ["candidate"] "is_concept" (defScope s_is_concept) f cdv A ou s H E).env (cxOf (L2.CX P w) P w K mg base ["candidate"] "is_concept" (defScope s_is_concept) f cdv A ou s H E).xe := passes_of rfl
  exact (pdb_one (pds_ret (pd_and (pd_cmp op_notN' opr_notN nox_notN (pd_callK k_tag_of hgd (hr.mono (by decide)) rfl tk (pda_cons (pd_var 0) (pda_cons (pd_con g_CONCEPT_FORMS rfl) pda_nil))) pd_non (nomark _)) (pd_one (pd_callK k_is_word hgd (hr.mono (by decide)) rfl tk (pda_cons (pd_ix (pd_var 0) pd_int) pda_nil))))))

/-! ### is_direction -/
abbrev s_is_direction : Stmt := top 17
def b_is_direction : FS := (fRet (fAnd (fOp opNotN (fCB d_tag_of (fCons (fVar 0) (fCons (fC c_DIRECTION_FORMS) fNil))) (fC .non)) (fCB d_is_word (fCons (fOp opIx (fVar 0) (fC (.int 1))) fNil))))
def d_is_direction : OC := mkF 1 1 b_is_direction
theorem sc_is_direction : FnScope ["candidate"] ["candidate"] (defScope s_is_direction) := ⟨rfl, rfl, rfl, by decide +kernel, rfl, by decide +kernel, by decide +kernel⟩
theorem kn_is_direction {P : Program} {w : World} {K : PySem.W.Frag} {mg : Str → Option Value} {base : Heap} {f : Addr} {fd : FuncData} (Fn : FunD K "is_direction" "is_direction" (defArgs s_is_direction) (defBody s_is_direction) (defScope s_is_direction) [] [] f fd) (hm : mg "is_direction" = some (.ref f)) (g_DIRECTION_FORMS : CN K mg "DIRECTION_FORMS" c_DIRECTION_FORMS) (k_tag_of : Kn P w K mg base (EXc K) "tag_of" 1 ["candidate", "forms"] d_tag_of) (k_is_word : Kn P w K mg base (EXc K) "is_word" 2 ["candidate"] d_is_word) :
    Kn P w K mg base (EXc K) "is_direction" 3 ["candidate"] d_is_direction := by
  refine kn_of Fn hm (Fn.bindsN fun _ _ _ _ _ _ us hl => match us, hl with | [_], _ => rfl) sc_is_direction rfl fun cdv A ou s H E hgd hr => ?_
  have nd := sc_is_direction.nd
  have hgd : (cxOf (L2.CX P w) P w K mg base ["candidate"] "is_direction" (defScope s_is_direction) f cdv A ou s H E).A.guards = some [] := hgd
  have tk : Takes (cxOf (L2.CX P w) P w K mg base ["candidate"] "is_direction" (defScope s_is_direction) f cdv A ou s H E) (fun cls d _ H => E cls d H) := takes_of rfl rfl rfl rfl
  have hpo : PassesOwn (model P w) (cxOf (L2.CX P w) P w K mg base ["candidate"] "is_direction" (defScope s_is_direction) f cdv A ou s H E).A (cxOf (L2.CX P w) P w K mg base ["candidate"] "is_direction" (defScope s_is_direction) f cdv A ou s H E).env (cxOf (L2.CX P w) P w K mg base ["candidate"] "is_direction" (defScope s_is_direction) f cdv A ou s H E).xe := passes_of rfl
  exact (pdb_one (pds_ret (pd_and (pd_cmp op_notN' opr_notN nox_notN (pd_callK k_tag_of hgd (hr.mono (by decide)) rfl tk (pda_cons (pd_var 0) (pda_cons (pd_con g_DIRECTION_FORMS rfl) pda_nil))) pd_non (nomark _)) (pd_one (pd_callK k_is_word hgd (hr.mono (by decide)) rfl tk (pda_cons (pd_ix (pd_var 0) pd_int) pda_nil))))))

/-! ### check_concept -/
abbrev s_check_concept : Stmt := top 18
def b_check_concept : FS := (fIfS (fNotT (fTest (fCB d_is_concept (fCons (fVar 0) fNil)))) (fRaise0 "InvalidConcept") fNext)
def d_check_concept : OC := mkF 1 1 b_check_concept
theorem sc_check_concept : FnScope ["candidate"] ["candidate"] (defScope s_check_concept) := ⟨rfl, rfl, rfl, by decide +kernel, rfl, by decide +kernel, by decide +kernel⟩
theorem kn_check_concept {P : Program} {w : World} {K : PySem.W.Frag} {mg : Str → Option Value} {base : Heap} {f : Addr} {fd : FuncData} (Fn : FunD K "check_concept" "check_concept" (defArgs s_check_concept) (defBody s_check_concept) (defScope s_check_concept) [] [] f fd) (hm : mg "check_concept" = some (.ref f)) (T0_InvalidConcept : XM0 K mg "InvalidConcept") (k_is_concept : Kn P w K mg base (EXc K) "is_concept" 3 ["candidate"] d_is_concept) :
    Kn P w K mg base (EXc K) "check_concept" 4 ["candidate"] d_check_concept := by
  refine kn_of Fn hm (Fn.bindsN fun _ _ _ _ _ _ us hl => match us, hl with | [_], _ => rfl) sc_check_concept rfl fun cdv A ou s H E hgd hr => ?_
  have nd := sc_check_concept.nd
  have hgd : (cxOf (L2.CX P w) P w K mg base ["candidate"] "check_concept" (defScope s_check_concept) f cdv A ou s H E).A.guards = some [] := hgd
  have tk : Takes (cxOf (L2.CX P w) P w K mg base ["candidate"] "check_concept" (defScope s_check_concept) f cdv A ou s H E) (fun cls d _ H => E cls d H) := takes_of rfl rfl rfl rfl
  have hpo : PassesOwn (model P w) (cxOf (L2.CX P w) P w K mg base ["candidate"] "check_concept" (defScope s_check_concept) f cdv A ou s H E).A (cxOf (L2.CX P w) P w K mg base ["candidate"] "check_concept" (defScope s_check_concept) f cdv A ou s H E).env (cxOf (L2.CX P w) P w K mg base ["candidate"] "check_concept" (defScope s_check_concept) f cdv A ou s H E).xe := passes_of rfl
  exact (pdb_one (pds_if (pdt_not (pdt_val (pd_callK k_is_concept hgd (hr.mono (by decide)) rfl tk (pda_cons (pd_var 0) pda_nil)))) (pdb_one (pds_raise0 T0_InvalidConcept rfl tk rfl)) pdb_nil))

/-! ### check_direction -/
abbrev s_check_direction : Stmt := top 19
def b_check_direction : FS := (fIfS (fNotT (fTest (fCB d_is_direction (fCons (fVar 0) fNil)))) (fRaise0 "InvalidConcept") fNext)
def d_check_direction : OC := mkF 1 1 b_check_direction
theorem sc_check_direction : FnScope ["candidate"] ["candidate"] (defScope s_check_direction) := ⟨rfl, rfl, rfl, by decide +kernel, rfl, by decide +kernel, by decide +kernel⟩
theorem kn_check_direction {P : Program} {w : World} {K : PySem.W.Frag} {mg : Str → Option Value} {base : Heap} {f : Addr} {fd : FuncData} (Fn : FunD K "check_direction" "check_direction" (defArgs s_check_direction) (defBody s_check_direction) (defScope s_check_direction) [] [] f fd) (hm : mg "check_direction" = some (.ref f)) (T0_InvalidConcept : XM0 K mg "InvalidConcept") (k_is_direction : Kn P w K mg base (EXc K) "is_direction" 3 ["candidate"] d_is_direction) :
    Kn P w K mg base (EXc K) "check_direction" 4 ["candidate"] d_check_direction := by
  refine kn_of Fn hm (Fn.bindsN fun _ _ _ _ _ _ us hl => match us, hl with | [_], _ => rfl) sc_check_direction rfl fun cdv A ou s H E hgd hr => ?_
  have nd := sc_check_direction.nd
  have hgd : (cxOf (L2.CX P w) P w K mg base ["candidate"] "check_direction" (defScope s_check_direction) f cdv A ou s H E).A.guards = some [] := hgd
  have tk : Takes (cxOf (L2.CX P w) P w K mg base ["candidate"] "check_direction" (defScope s_check_direction) f cdv A ou s H E) (fun cls d _ H => E cls d H) := takes_of rfl rfl rfl rfl
  have hpo : PassesOwn (model P w) (cxOf (L2.CX P w) P w K mg base ["candidate"] "check_direction" (defScope s_check_direction) f cdv A ou s H E).A (cxOf (L2.CX P w) P w K mg base ["candidate"] "check_direction" (defScope s_check_direction) f cdv A ou s H E).env (cxOf (L2.CX P w) P w K mg base ["candidate"] "check_direction" (defScope s_check_direction) f cdv A ou s H E).xe := passes_of rfl
  exact (pdb_one (pds_if (pdt_not (pdt_val (pd_callK k_is_direction hgd (hr.mono (by decide)) rfl tk (pda_cons (pd_var 0) pda_nil)))) (pdb_one (pds_raise0 T0_InvalidConcept rfl tk rfl)) pdb_nil))

/-! ### inverse -/
abbrev s_inverse : Stmt := top 20
def b_inverse : FS := (fSeq (fDrop (fCB d_check_direction (fCons (fVar 0) fNil)))
      (fRet (fTup (fCons (fIf (fTest (fOp opEqD (fOp opIx (fVar 0) (fC (.int 0))) (fC (.str "out")))) (fC (.str "in")) (fC (.str "out"))) (fCons (fOp opIx (fVar 0) (fC (.int 1))) fNil)))))
def d_inverse : OC := mkF 1 1 b_inverse
theorem sc_inverse : FnScope ["direction"] ["direction"] (defScope s_inverse) := ⟨rfl, rfl, rfl, by decide +kernel, rfl, by decide +kernel, by decide +kernel⟩
theorem kn_inverse {P : Program} {w : World} {K : PySem.W.Frag} {mg : Str → Option Value} {base : Heap} {f : Addr} {fd : FuncData} (Fn : FunD K "inverse" "inverse" (defArgs s_inverse) (defBody s_inverse) (defScope s_inverse) [] [] f fd) (hm : mg "inverse" = some (.ref f)) (k_check_direction : Kn P w K mg base (EXc K) "check_direction" 4 ["candidate"] d_check_direction) :
    Kn P w K mg base (EXc K) "inverse" 5 ["direction"] d_inverse := by
  refine kn_of Fn hm (Fn.bindsN fun _ _ _ _ _ _ us hl => match us, hl with | [_], _ => rfl) sc_inverse rfl fun cdv A ou s H E hgd hr => ?_
  have nd := sc_inverse.nd
  have hgd : (cxOf (L2.CX P w) P w K mg base ["direction"] "inverse" (defScope s_inverse) f cdv A ou s H E).A.guards = some [] := hgd
  have tk : Takes (cxOf (L2.CX P w) P w K mg base ["direction"] "inverse" (defScope s_inverse) f cdv A ou s H E) (fun cls d _ H => E cls d H) := takes_of rfl rfl rfl rfl
  have hpo : PassesOwn (model P w) (cxOf (L2.CX P w) P w K mg base ["direction"] "inverse" (defScope s_inverse) f cdv A ou s H E).A (cxOf (L2.CX P w) P w K mg base ["direction"] "inverse" (defScope s_inverse) f cdv A ou s H E).env (cxOf (L2.CX P w) P w K mg base ["direction"] "inverse" (defScope s_inverse) f cdv A ou s H E).xe := passes_of rfl
  exact (pdb_cons (pds_expr (pd_callK k_check_direction hgd (hr.mono (by decide)) rfl tk (pda_cons (pd_var 0) pda_nil)))
      (pdb_one (pds_ret (pd_tup (pda_cons (pd_if (pdt_cmp (op_eq2 hr.units) opr_eq2 nox_eq2 (pd_ix (pd_var 0) pd_int) pd_str (nomark _)) pd_str pd_str) (pda_cons (pd_ix (pd_var 0) pd_int) pda_nil))))))

/-! ### second_direction -/
abbrev s_second_direction : Stmt := top 21
def b_second_direction : FS := (fSeq (fSet 2 (fTup (fCons (fOp opIx (fVar 1) (fC (.int 0))) (fCons (fOp opIx (fVar 0) (fC (.int 2))) fNil))))
      (fRet (fIf (fTest (fOp opIn (fOp opIx (fVar 0) (fC (.int 0))) (fC c_REVERSING))) (fCB d_inverse (fCons (fVar 2) fNil)) (fVar 2))))
def d_second_direction : OC := mkF 2 3 b_second_direction
theorem sc_second_direction : FnScope ["axiom", "direction", "same"] ["axiom", "direction"] (defScope s_second_direction) := ⟨rfl, rfl, rfl, by decide +kernel, rfl, by decide +kernel, by decide +kernel⟩
theorem kn_second_direction {P : Program} {w : World} {K : PySem.W.Frag} {mg : Str → Option Value} {base : Heap} {f : Addr} {fd : FuncData} (Fn : FunD K "second_direction" "second_direction" (defArgs s_second_direction) (defBody s_second_direction) (defScope s_second_direction) [] [] f fd) (hm : mg "second_direction" = some (.ref f)) (g_REVERSING : CN K mg "REVERSING" c_REVERSING) (k_inverse : Kn P w K mg base (EXc K) "inverse" 5 ["direction"] d_inverse) :
    Kn P w K mg base (EXc K) "second_direction" 6 ["axiom", "direction"] d_second_direction := by
  refine kn_of Fn hm (Fn.bindsN fun _ _ _ _ _ _ us hl => match us, hl with | [_, _], _ => rfl) sc_second_direction rfl fun cdv A ou s H E hgd hr => ?_
  have nd := sc_second_direction.nd
  have hgd : (cxOf (L2.CX P w) P w K mg base ["axiom", "direction", "same"] "second_direction" (defScope s_second_direction) f cdv A ou s H E).A.guards = some [] := hgd
  have tk : Takes (cxOf (L2.CX P w) P w K mg base ["axiom", "direction", "same"] "second_direction" (defScope s_second_direction) f cdv A ou s H E) (fun cls d _ H => E cls d H) := takes_of rfl rfl rfl rfl
  have hpo : PassesOwn (model P w) (cxOf (L2.CX P w) P w K mg base ["axiom", "direction", "same"] "second_direction" (defScope s_second_direction) f cdv A ou s H E).A (cxOf (L2.CX P w) P w K mg base ["axiom", "direction", "same"] "second_direction" (defScope s_second_direction) f cdv A ou s H E).env (cxOf (L2.CX P w) P w K mg base ["axiom", "direction", "same"] "second_direction" (defScope s_second_direction) f cdv A ou s H E).xe := passes_of rfl
  exact (pdb_cons (pds_set (i := 2) nd rfl (by first | exact Or.inl rfl | exact Or.inr rfl) (pd_tup (pda_cons (pd_ix (pd_var 1) pd_int) (pda_cons (pd_ix (pd_var 0) pd_int) pda_nil))))
      (pdb_one (pds_ret (pd_if (pdt_cmp (op_in2 (hu65 hr)) opr_in nox_in (pd_ix (pd_var 0) pd_int) (pd_con g_REVERSING rfl) (by rfl)) (pd_callK k_inverse hgd (hr.mono (by decide)) rfl tk (pda_cons (pd_var 2) pda_nil)) (pd_var 2)))))

/-! ### led_to -/
abbrev s_led_to : Stmt := top 24
def b_led_to : FS := (fSeq (fIfS (fAndT (fTest (fOp opEqD (fOp opIx (fVar 0) (fC (.int 0))) (fC (.str "subclass")))) (fAndT (fTest (fOp opEqD (fOp opIx (fVar 0) (fC (.int 1))) (fVar 1))) (fNotT (fTest (fVar 2))))) (fRet (fOp opIx (fVar 0) (fC (.int 2)))) fNext)
      (fSeq (fIfS (fAndT (fTest (fOp opIn (fOp opIx (fVar 0) (fC (.int 0))) (fC c_ROLE_INCLUSIONS))) (fAndT (fTest (fCB d_is_direction (fCons (fVar 1) fNil))) (fTest (fOp opEqD (fOp opIx (fVar 0) (fC (.int 1))) (fOp opIx (fVar 1) (fC (.int 1))))))) (fRet (fCB d_second_direction (fCons (fVar 0) (fCons (fVar 1) fNil)))) fNext)
      (fRet (fC .non))))
def d_led_to : OC := mkF 3 3 b_led_to
theorem sc_led_to : FnScope ["axiom", "concept", "roles_only"] ["axiom", "concept", "roles_only"] (defScope s_led_to) := ⟨rfl, rfl, rfl, by decide +kernel, rfl, by decide +kernel, by decide +kernel⟩
theorem fg_led_to {P : Program} {w : World} {K : PySem.W.Frag} {mg : Str → Option Value} {base : Heap} {f : Addr} {fd : FuncData} (Fn : FunD K "led_to" "led_to" (defArgs s_led_to) (defBody s_led_to) (defScope s_led_to) [(.bl false)] [] f fd) (hm : mg "led_to" = some (.ref f)) (g_ROLE_INCLUSIONS : CN K mg "ROLE_INCLUSIONS" c_ROLE_INCLUSIONS) (k_is_direction : Kn P w K mg base (EXc K) "is_direction" 3 ["candidate"] d_is_direction) (k_second_direction : Kn P w K mg base (EXc K) "second_direction" 6 ["axiom", "direction"] d_second_direction) :
    FnG P w K mg base 7 f fd ["axiom", "concept", "roles_only"] (spI w K (EXc K) d_led_to) := by
  refine fnJD_of Fn sc_led_to rfl fun cdv A ou s H E hgd hr => ?_
  have nd := sc_led_to.nd
  have hgd : (cxOf (L2.CX P w) P w K mg base ["axiom", "concept", "roles_only"] "led_to" (defScope s_led_to) f cdv A ou s H E).A.guards = some [] := hgd
  have tk : Takes (cxOf (L2.CX P w) P w K mg base ["axiom", "concept", "roles_only"] "led_to" (defScope s_led_to) f cdv A ou s H E) (fun cls d _ H => E cls d H) := takes_of rfl rfl rfl rfl
  have hpo : PassesOwn (model P w) (cxOf (L2.CX P w) P w K mg base ["axiom", "concept", "roles_only"] "led_to" (defScope s_led_to) f cdv A ou s H E).A (cxOf (L2.CX P w) P w K mg base ["axiom", "concept", "roles_only"] "led_to" (defScope s_led_to) f cdv A ou s H E).env (cxOf (L2.CX P w) P w K mg base ["axiom", "concept", "roles_only"] "led_to" (defScope s_led_to) f cdv A ou s H E).xe := passes_of rfl
  exact (pdb_cons (pds_if (PW.pt (pdw_and (pdt_cmp (op_eq2 hr.units) opr_eq2 nox_eq2 (pd_ix (pd_var 0) pd_int) pd_str (nomark _)) (pdw_and (pdt_cmp (op_eq2 hr.units) opr_eq2 nox_eq2 (pd_ix (pd_var 0) pd_int) (pd_var 1) (nomark _)) (pdw_and1 (pdt_not (pdt_val (pd_var 2))))))) (pdb_one (pds_ret (pd_ix (pd_var 0) pd_int))) pdb_nil)
      (pdb_cons (pds_if (PW.pt (pdw_and (pdt_cmp (op_in2 (hu65 hr)) opr_in nox_in (pd_ix (pd_var 0) pd_int) (pd_con g_ROLE_INCLUSIONS rfl) (by rfl)) (pdw_and (pdt_val (pd_callK k_is_direction hgd (hr.mono (by decide)) rfl tk (pda_cons (pd_var 1) pda_nil))) (pdw_and1 (pdt_cmp (op_eq2 hr.units) opr_eq2 nox_eq2 (pd_ix (pd_var 0) pd_int) (pd_ix (pd_var 1) pd_int) (nomark _)))))) (pdb_one (pds_ret (pd_callK k_second_direction hgd (hr.mono (by decide)) rfl tk (pda_cons (pd_var 0) (pda_cons (pd_var 1) pda_nil))))) pdb_nil)
      (pdb_one (pds_ret pd_non))))
theorem kn_led_to {P : Program} {w : World} {K : PySem.W.Frag} {mg : Str → Option Value} {base : Heap} {f : Addr} {fd : FuncData} (Fn : FunD K "led_to" "led_to" (defArgs s_led_to) (defBody s_led_to) (defScope s_led_to) [(.bl false)] [] f fd) (hm : mg "led_to" = some (.ref f)) (g_ROLE_INCLUSIONS : CN K mg "ROLE_INCLUSIONS" c_ROLE_INCLUSIONS) (k_is_direction : Kn P w K mg base (EXc K) "is_direction" 3 ["candidate"] d_is_direction) (k_second_direction : Kn P w K mg base (EXc K) "second_direction" 6 ["axiom", "direction"] d_second_direction) :
    Kn P w K mg base (EXc K) "led_to" 7 ["axiom", "concept", "roles_only"] d_led_to := by
  obtain ⟨ds, h1, h2⟩ := Fn.binds1 (ps := ["axiom", "concept", "roles_only"]) 3 1 (by simp) rfl (fun _ _ _ _ _ _ _ us its hl hi => match us, its, hl, hi with | [_, _, _], [_], _, _ => ⟨_, rfl, rfl⟩)
  cases h1
  exact ⟨f, fd, hm, Fn.kp, h2, fg_led_to Fn hm g_ROLE_INCLUSIONS k_is_direction k_second_direction⟩
theorem kd1_led_to {P : Program} {w : World} {K : PySem.W.Frag} {mg : Str → Option Value} {base : Heap} {f : Addr} {fd : FuncData} (Fn : FunD K "led_to" "led_to" (defArgs s_led_to) (defBody s_led_to) (defScope s_led_to) [(.bl false)] [] f fd) (hm : mg "led_to" = some (.ref f)) (g_ROLE_INCLUSIONS : CN K mg "ROLE_INCLUSIONS" c_ROLE_INCLUSIONS) (k_is_direction : Kn P w K mg base (EXc K) "is_direction" 3 ["candidate"] d_is_direction) (k_second_direction : Kn P w K mg base (EXc K) "second_direction" 6 ["axiom", "direction"] d_second_direction) :
    KnD P w K mg base (EXc K) "led_to" 7 ["axiom", "concept", "roles_only"] d_led_to [(.bl false)] := by
  obtain ⟨ds, h1, h2⟩ := Fn.binds1 (ps := ["axiom", "concept", "roles_only"]) 2 0 (by simp) rfl (fun _ _ _ _ _ _ _ us its hl hi => match us, its, hl, hi with | [_, _], [_], _, _ => ⟨_, rfl, rfl⟩)
  exact ⟨f, fd, _, ds, hm, Fn.kp, h2, h1, fun _ _ => (.cons (by first | exact Rep.non | exact Rep.bl _ | exact Rep.bl | exact Rep.int _ | exact Rep.int | exact Rep.str _ | constructor) .nil), fg_led_to Fn hm g_ROLE_INCLUSIONS k_is_direction k_second_direction⟩

/-! ### chains_from -/
abbrev s_chains_from : Stmt := top 25
def b_chains_from : FS := (fSeq (fSet 3 (fDict1 (fVar 1) (fLst fNil)))
      (fSeq (fSet 4 (fLst (fCons (fVar 1) fNil)))
      (fSeq (fWhile (fAndT (fTruL (fVar 4)) (fTest (fOp opLt (fCB opLen (fCons (fOp opIxD (fVar 3) (fOp opIx (fVar 4) (fC (.int 0)))) fNil)) (fC c_MOST_CHAIN_STEPS)))) (fSeq (fSet 5 (fLst fNil))
      (fSeq (fFor (fVar 4) 6 (fForE (fVar 0) 7 8 (fSeq (fSet 9 (fCB d_led_to (fCons (fVar 8) (fCons (fVar 6) (fCons (fVar 2) fNil)))))
      (fIfS (fAndT (fTest (fOp opNotN (fVar 9) (fC .non))) (fTest (fOp opNotInD (fVar 9) (fVar 3)))) (fSeq (fPutA (fVar 3) (fVar 9) (fOp opAdd (fOp opIxD (fVar 3) (fVar 6)) (fLst (fCons (fVar 7) fNil))))
      (fDrop (fApp (fVar 5) (fVar 9)))) fNext))))
      (fSet 4 (fVar 5)))))
      (fRet (fVar 3)))))
def d_chains_from : OC := mkF 3 10 b_chains_from
theorem sc_chains_from : FnScope ["ontology", "concept", "roles_only", "chains", "latest", "found", "start", "index", "axiom", "reached"] ["ontology", "concept", "roles_only"] (defScope s_chains_from) := ⟨rfl, rfl, rfl, by decide +kernel, rfl, by decide +kernel, by decide +kernel⟩
theorem fg_chains_from {P : Program} {w : World} {K : PySem.W.Frag} {mg : Str → Option Value} {base : Heap} {f : Addr} {fd : FuncData} (Fn : FunD K "chains_from" "chains_from" (defArgs s_chains_from) (defBody s_chains_from) (defScope s_chains_from) [(.bl false)] [] f fd) (hm : mg "chains_from" = some (.ref f)) (g_MOST_CHAIN_STEPS : CN K mg "MOST_CHAIN_STEPS" c_MOST_CHAIN_STEPS) (f_len : mg "len" = none) (f_enumerate : mg "enumerate" = none) (k_led_to : Kn P w K mg base (EXc K) "led_to" 7 ["axiom", "concept", "roles_only"] d_led_to) :
    FnG P w K mg base 8 f fd ["ontology", "concept", "roles_only"] (spI w K (EXc K) d_chains_from) := by
  refine fnJD_of Fn sc_chains_from rfl fun cdv A ou s H E hgd hr => ?_
  have nd := sc_chains_from.nd
  have hgd : (cxOf (L2.CX P w) P w K mg base ["ontology", "concept", "roles_only", "chains", "latest", "found", "start", "index", "axiom", "reached"] "chains_from" (defScope s_chains_from) f cdv A ou s H E).A.guards = some [] := hgd
  have tk : Takes (cxOf (L2.CX P w) P w K mg base ["ontology", "concept", "roles_only", "chains", "latest", "found", "start", "index", "axiom", "reached"] "chains_from" (defScope s_chains_from) f cdv A ou s H E) (fun cls d _ H => E cls d H) := takes_of rfl rfl rfl rfl
  have hpo : PassesOwn (model P w) (cxOf (L2.CX P w) P w K mg base ["ontology", "concept", "roles_only", "chains", "latest", "found", "start", "index", "axiom", "reached"] "chains_from" (defScope s_chains_from) f cdv A ou s H E).A (cxOf (L2.CX P w) P w K mg base ["ontology", "concept", "roles_only", "chains", "latest", "found", "start", "index", "axiom", "reached"] "chains_from" (defScope s_chains_from) f cdv A ou s H E).env (cxOf (L2.CX P w) P w K mg base ["ontology", "concept", "roles_only", "chains", "latest", "found", "start", "index", "axiom", "reached"] "chains_from" (defScope s_chains_from) f cdv A ou s H E).xe := passes_of rfl
  exact (pdb_cons (pds_set (i := 3) nd rfl (by first | exact Or.inl rfl | exact Or.inr rfl) (pd_disp1 (hu65 hr) (pd_var 1) (pd_lst pda_nil)))
      (pdb_cons (pds_set (i := 4) nd rfl (by first | exact Or.inl rfl | exact Or.inr rfl) (pd_lst (pda_cons (pd_var 1) pda_nil)))
      (pdb_cons (pds_while hpo (PW.pt (pdw_and (pdt_list (pd_var 4)) (pdw_and1 (pdt_cmp op_lt opr_I0b nox_I (pd_callB call_len clr_len nox_len (by rfl) f_len PySem.boot_len (pda_cons (pd_ixD (hu65 hr) (pd_var 3) (pd_ix (pd_var 4) pd_int)) pda_nil)) (pd_con g_MOST_CHAIN_STEPS rfl) (nomark _))))) (pdb_cons (pds_set (i := 5) nd rfl (by first | exact Or.inl rfl | exact Or.inr rfl) (pd_lst pda_nil))
      (pdb_cons (pds_for (j := 6) hpo rfl nd rfl (by first | exact Or.inl rfl | exact Or.inr rfl) (pd_var 4) (pdb_one (pds_forE (j1 := 7) (j2 := 8) hpo rfl nd rfl (by first | exact Or.inl rfl | exact Or.inr rfl) rfl (by first | exact Or.inl rfl | exact Or.inr rfl) rfl f_enumerate (pd_var 0) (pdb_cons (pds_set (i := 9) nd rfl (by first | exact Or.inl rfl | exact Or.inr rfl) (pd_callK k_led_to hgd (hr.mono (by decide)) rfl tk (pda_cons (pd_var 8) (pda_cons (pd_var 6) (pda_cons (pd_var 2) pda_nil)))))
      (pdb_one (pds_if (PW.pt (pdw_and (pdt_cmp op_notN' opr_notN nox_notN (pd_var 9) pd_non (nomark _)) (pdw_and1 (pdt_cmp (op_notIn3 (hu65 hr)) opr_notInD nox_notInD (pd_var 9) (pd_var 3) (by rfl))))) (pdb_cons (pds_putA (pd_op op_add4 opr_add nox_add (pd_ixD (hu65 hr) (pd_var 3) (pd_var 6)) (pd_lst (pda_cons (pd_var 7) pda_nil))) (pd_var 3) (pd_var 9) (fun _ _ a b => pg_sub a b (set_any (hu65 hr))))
      (pdb_one (pds_expr (pd_app (pd_var 5) (pd_var 9) (fun _ _ a b => pe_bm PySem.F.plainAttrs_list PySem.F.slot_list_append PySem.F.type_list_append mt_append a b))))) pdb_nil))))))
      (pdb_one (pds_set (i := 4) nd rfl (by first | exact Or.inl rfl | exact Or.inr rfl) (pd_var 5))))))
      (pdb_one (pds_ret (pd_var 3))))))
theorem kn_chains_from {P : Program} {w : World} {K : PySem.W.Frag} {mg : Str → Option Value} {base : Heap} {f : Addr} {fd : FuncData} (Fn : FunD K "chains_from" "chains_from" (defArgs s_chains_from) (defBody s_chains_from) (defScope s_chains_from) [(.bl false)] [] f fd) (hm : mg "chains_from" = some (.ref f)) (g_MOST_CHAIN_STEPS : CN K mg "MOST_CHAIN_STEPS" c_MOST_CHAIN_STEPS) (f_len : mg "len" = none) (f_enumerate : mg "enumerate" = none) (k_led_to : Kn P w K mg base (EXc K) "led_to" 7 ["axiom", "concept", "roles_only"] d_led_to) :
    Kn P w K mg base (EXc K) "chains_from" 8 ["ontology", "concept", "roles_only"] d_chains_from := by
  obtain ⟨ds, h1, h2⟩ := Fn.binds1 (ps := ["ontology", "concept", "roles_only"]) 3 1 (by simp) rfl (fun _ _ _ _ _ _ _ us its hl hi => match us, its, hl, hi with | [_, _, _], [_], _, _ => ⟨_, rfl, rfl⟩)
  cases h1
  exact ⟨f, fd, hm, Fn.kp, h2, fg_chains_from Fn hm g_MOST_CHAIN_STEPS f_len f_enumerate k_led_to⟩
theorem kd1_chains_from {P : Program} {w : World} {K : PySem.W.Frag} {mg : Str → Option Value} {base : Heap} {f : Addr} {fd : FuncData} (Fn : FunD K "chains_from" "chains_from" (defArgs s_chains_from) (defBody s_chains_from) (defScope s_chains_from) [(.bl false)] [] f fd) (hm : mg "chains_from" = some (.ref f)) (g_MOST_CHAIN_STEPS : CN K mg "MOST_CHAIN_STEPS" c_MOST_CHAIN_STEPS) (f_len : mg "len" = none) (f_enumerate : mg "enumerate" = none) (k_led_to : Kn P w K mg base (EXc K) "led_to" 7 ["axiom", "concept", "roles_only"] d_led_to) :
    KnD P w K mg base (EXc K) "chains_from" 8 ["ontology", "concept", "roles_only"] d_chains_from [(.bl false)] := by
  obtain ⟨ds, h1, h2⟩ := Fn.binds1 (ps := ["ontology", "concept", "roles_only"]) 2 0 (by simp) rfl (fun _ _ _ _ _ _ _ us its hl hi => match us, its, hl, hi with | [_, _], [_], _, _ => ⟨_, rfl, rfl⟩)
  exact ⟨f, fd, _, ds, hm, Fn.kp, h2, h1, fun _ _ => (.cons (by first | exact Rep.non | exact Rep.bl _ | exact Rep.bl | exact Rep.int _ | exact Rep.int | exact Rep.str _ | constructor) .nil), fg_chains_from Fn hm g_MOST_CHAIN_STEPS f_len f_enumerate k_led_to⟩

/-! ### find_chain -/
abbrev s_find_chain : Stmt := top 26
def b_find_chain : FS := (fSeq (fFor (fTup (fCons (fVar 1) (fCons (fVar 2) fNil))) 4 (fSeq (fDrop (fCB d_check_concept (fCons (fVar 4) fNil)))
      (fIfS (fTest (fVar 3)) (fDrop (fCB d_check_direction (fCons (fVar 4) fNil))) fNext)))
      (fRet (fDM opGet (fCB d_chains_from (fCons (fVar 0) (fCons (fVar 1) (fCons (fVar 3) fNil)))) (fCons (fVar 2) fNil))))
def d_find_chain : OC := mkF 4 5 b_find_chain
theorem sc_find_chain : FnScope ["ontology", "one", "other", "roles_only", "concept"] ["ontology", "one", "other", "roles_only"] (defScope s_find_chain) := ⟨rfl, rfl, rfl, by decide +kernel, rfl, by decide +kernel, by decide +kernel⟩
theorem fg_find_chain {P : Program} {w : World} {K : PySem.W.Frag} {mg : Str → Option Value} {base : Heap} {f : Addr} {fd : FuncData} (Fn : FunD K "find_chain" "find_chain" (defArgs s_find_chain) (defBody s_find_chain) (defScope s_find_chain) [] [("roles_only", (.bl false))] f fd) (hm : mg "find_chain" = some (.ref f)) (k_check_concept : Kn P w K mg base (EXc K) "check_concept" 4 ["candidate"] d_check_concept) (k_check_direction : Kn P w K mg base (EXc K) "check_direction" 4 ["candidate"] d_check_direction) (k_chains_from : Kn P w K mg base (EXc K) "chains_from" 8 ["ontology", "concept", "roles_only"] d_chains_from) :
    FnG P w K mg base 9 f fd ["ontology", "one", "other", "roles_only"] (spI w K (EXc K) d_find_chain) := by
  refine fnJD_of Fn sc_find_chain rfl fun cdv A ou s H E hgd hr => ?_
  have nd := sc_find_chain.nd
  have hgd : (cxOf (L2.CX P w) P w K mg base ["ontology", "one", "other", "roles_only", "concept"] "find_chain" (defScope s_find_chain) f cdv A ou s H E).A.guards = some [] := hgd
  have tk : Takes (cxOf (L2.CX P w) P w K mg base ["ontology", "one", "other", "roles_only", "concept"] "find_chain" (defScope s_find_chain) f cdv A ou s H E) (fun cls d _ H => E cls d H) := takes_of rfl rfl rfl rfl
  have hpo : PassesOwn (model P w) (cxOf (L2.CX P w) P w K mg base ["ontology", "one", "other", "roles_only", "concept"] "find_chain" (defScope s_find_chain) f cdv A ou s H E).A (cxOf (L2.CX P w) P w K mg base ["ontology", "one", "other", "roles_only", "concept"] "find_chain" (defScope s_find_chain) f cdv A ou s H E).env (cxOf (L2.CX P w) P w K mg base ["ontology", "one", "other", "roles_only", "concept"] "find_chain" (defScope s_find_chain) f cdv A ou s H E).xe := passes_of rfl
  exact (pdb_cons (pds_for (j := 4) hpo rfl nd rfl (by first | exact Or.inl rfl | exact Or.inr rfl) (pd_tup (pda_cons (pd_var 1) (pda_cons (pd_var 2) pda_nil))) (pdb_cons (pds_expr (pd_callK k_check_concept hgd (hr.mono (by decide)) rfl tk (pda_cons (pd_var 4) pda_nil)))
      (pdb_one (pds_if (pdt_val (pd_var 3)) (pdb_one (pds_expr (pd_callK k_check_direction hgd (hr.mono (by decide)) rfl tk (pda_cons (pd_var 4) pda_nil)))) pdb_nil))))
      (pdb_one (pds_ret (pd_dm (pd_callK k_chains_from hgd (hr.mono (by decide)) rfl tk (pda_cons (pd_var 0) (pda_cons (pd_var 1) (pda_cons (pd_var 3) pda_nil)))) (pda_cons (pd_var 2) pda_nil) dmr_get nox_get (fun _ _ a b => pe_bmD PySem.F.slot_dict_get PySem.F.type_dict_get (mt_getD (hu65 hr)) a b)))))
theorem kd1_find_chain {P : Program} {w : World} {K : PySem.W.Frag} {mg : Str → Option Value} {base : Heap} {f : Addr} {fd : FuncData} (Fn : FunD K "find_chain" "find_chain" (defArgs s_find_chain) (defBody s_find_chain) (defScope s_find_chain) [] [("roles_only", (.bl false))] f fd) (hm : mg "find_chain" = some (.ref f)) (k_check_concept : Kn P w K mg base (EXc K) "check_concept" 4 ["candidate"] d_check_concept) (k_check_direction : Kn P w K mg base (EXc K) "check_direction" 4 ["candidate"] d_check_direction) (k_chains_from : Kn P w K mg base (EXc K) "chains_from" 8 ["ontology", "concept", "roles_only"] d_chains_from) :
    KnD P w K mg base (EXc K) "find_chain" 9 ["ontology", "one", "other", "roles_only"] d_find_chain [(.bl false)] := by
  obtain ⟨ds, h1, h2⟩ := Fn.binds0 (ps := ["ontology", "one", "other", "roles_only"]) 3 (by simp) rfl (fun _ _ _ _ _ _ us its hl hi => match us, its, hl, hi with | [_, _, _], [_], _, _ => ⟨_, _, _, _, _, _, rfl, rfl, rfl⟩)
  exact ⟨f, fd, _, ds, hm, Fn.kp, h2, h1, fun _ _ => (.cons (by first | exact Rep.non | exact Rep.bl _ | exact Rep.bl | exact Rep.int _ | exact Rep.int | exact Rep.str _ | constructor) .nil), fg_find_chain Fn hm k_check_concept k_check_direction k_chains_from⟩

/-! ### is_chain -/
abbrev s_is_chain : Stmt := top 27
def b_is_chain : FS := (fSeq (fIfS (fOrT (fNotT (fTest (fIsi "list" (fVar 3)))) (fTest (fOp opGt (fCB opLen (fCons (fVar 3) fNil)) (fC c_MOST_CHAIN_STEPS)))) (fRet (fC (.bl false))) fNext)
      (fSeq (fSet 5 (fVar 1))
      (fSeq (fFor (fVar 3) 6 (fSeq (fIfS (fNotT (fTest (fCB d_is_index (fCons (fVar 6) (fCons (fCB opLen (fCons (fVar 0) fNil)) fNil))))) (fRet (fC (.bl false))) fNext)
      (fSeq (fSet 5 (fCB d_led_to (fCons (fOp opIx (fVar 0) (fVar 6)) (fCons (fVar 5) (fCons (fVar 4) fNil)))))
      (fIfS (fTest (fOp opIsN (fVar 5) (fC .non))) (fRet (fC (.bl false))) fNext))))
      (fRet (fOp opEqD (fVar 5) (fVar 2))))))
def d_is_chain : OC := mkF 5 7 b_is_chain
theorem sc_is_chain : FnScope ["ontology", "one", "other", "candidate", "roles_only", "reached", "index"] ["ontology", "one", "other", "candidate", "roles_only"] (defScope s_is_chain) := ⟨rfl, rfl, rfl, by decide +kernel, rfl, by decide +kernel, by decide +kernel⟩
theorem fg_is_chain {P : Program} {w : World} {K : PySem.W.Frag} {mg : Str → Option Value} {base : Heap} {f : Addr} {fd : FuncData} (Fn : FunD K "is_chain" "is_chain" (defArgs s_is_chain) (defBody s_is_chain) (defScope s_is_chain) [] [("roles_only", (.bl false))] f fd) (hm : mg "is_chain" = some (.ref f)) (g_MOST_CHAIN_STEPS : CN K mg "MOST_CHAIN_STEPS" c_MOST_CHAIN_STEPS) (f_isinstance : mg "isinstance" = none) (f_list : mg "list" = none) (f_len : mg "len" = none) (k_is_index : Kn P w K mg base (EXc K) "is_index" 2 ["candidate", "count"] d_is_index) (k_led_to : Kn P w K mg base (EXc K) "led_to" 7 ["axiom", "concept", "roles_only"] d_led_to) :
    FnG P w K mg base 8 f fd ["ontology", "one", "other", "candidate", "roles_only"] (spI w K (EXc K) d_is_chain) := by
  refine fnJD_of Fn sc_is_chain rfl fun cdv A ou s H E hgd hr => ?_
  have nd := sc_is_chain.nd
  have hgd : (cxOf (L2.CX P w) P w K mg base ["ontology", "one", "other", "candidate", "roles_only", "reached", "index"] "is_chain" (defScope s_is_chain) f cdv A ou s H E).A.guards = some [] := hgd
  have tk : Takes (cxOf (L2.CX P w) P w K mg base ["ontology", "one", "other", "candidate", "roles_only", "reached", "index"] "is_chain" (defScope s_is_chain) f cdv A ou s H E) (fun cls d _ H => E cls d H) := takes_of rfl rfl rfl rfl
  have hpo : PassesOwn (model P w) (cxOf (L2.CX P w) P w K mg base ["ontology", "one", "other", "candidate", "roles_only", "reached", "index"] "is_chain" (defScope s_is_chain) f cdv A ou s H E).A (cxOf (L2.CX P w) P w K mg base ["ontology", "one", "other", "candidate", "roles_only", "reached", "index"] "is_chain" (defScope s_is_chain) f cdv A ou s H E).env (cxOf (L2.CX P w) P w K mg base ["ontology", "one", "other", "candidate", "roles_only", "reached", "index"] "is_chain" (defScope s_is_chain) f cdv A ou s H E).xe := passes_of rfl
  exact (pdb_cons (pds_if (PW.pt (pdw_or (pdt_not (pdt_val (pd_isi (T := "list") (pd_var 3) rfl f_isinstance rfl f_list (by decide +kernel)))) (pdw_or1 (pdt_cmp op_gt opr_I0b nox_I (pd_callB call_len clr_len nox_len (by rfl) f_len PySem.boot_len (pda_cons (pd_var 3) pda_nil)) (pd_con g_MOST_CHAIN_STEPS rfl) (nomark _))))) (pdb_one (pds_ret pd_bl)) pdb_nil)
      (pdb_cons (pds_set (i := 5) nd rfl (by first | exact Or.inl rfl | exact Or.inr rfl) (pd_var 1))
      (pdb_cons (pds_for (j := 6) hpo rfl nd rfl (by first | exact Or.inl rfl | exact Or.inr rfl) (pd_var 3) (pdb_cons (pds_if (pdt_not (pdt_val (pd_callK k_is_index hgd (hr.mono (by decide)) rfl tk (pda_cons (pd_var 6) (pda_cons (pd_callB call_len clr_len nox_len (by rfl) f_len PySem.boot_len (pda_cons (pd_var 0) pda_nil)) pda_nil))))) (pdb_one (pds_ret pd_bl)) pdb_nil)
      (pdb_cons (pds_set (i := 5) nd rfl (by first | exact Or.inl rfl | exact Or.inr rfl) (pd_callK k_led_to hgd (hr.mono (by decide)) rfl tk (pda_cons (pd_ix (pd_var 0) (pd_var 6)) (pda_cons (pd_var 5) (pda_cons (pd_var 4) pda_nil)))))
      (pdb_one (pds_if (pdt_cmp op_isN' opr_isN nox_isN (pd_var 5) pd_non (nomark _)) (pdb_one (pds_ret pd_bl)) pdb_nil)))))
      (pdb_one (pds_ret (pd_cmp (op_eq2 hr.units) opr_eq2 nox_eq2 (pd_var 5) (pd_var 2) (nomark _)))))))
theorem kd1_is_chain {P : Program} {w : World} {K : PySem.W.Frag} {mg : Str → Option Value} {base : Heap} {f : Addr} {fd : FuncData} (Fn : FunD K "is_chain" "is_chain" (defArgs s_is_chain) (defBody s_is_chain) (defScope s_is_chain) [] [("roles_only", (.bl false))] f fd) (hm : mg "is_chain" = some (.ref f)) (g_MOST_CHAIN_STEPS : CN K mg "MOST_CHAIN_STEPS" c_MOST_CHAIN_STEPS) (f_isinstance : mg "isinstance" = none) (f_list : mg "list" = none) (f_len : mg "len" = none) (k_is_index : Kn P w K mg base (EXc K) "is_index" 2 ["candidate", "count"] d_is_index) (k_led_to : Kn P w K mg base (EXc K) "led_to" 7 ["axiom", "concept", "roles_only"] d_led_to) :
    KnD P w K mg base (EXc K) "is_chain" 8 ["ontology", "one", "other", "candidate", "roles_only"] d_is_chain [(.bl false)] := by
  obtain ⟨ds, h1, h2⟩ := Fn.binds0 (ps := ["ontology", "one", "other", "candidate", "roles_only"]) 4 (by simp) rfl (fun _ _ _ _ _ _ us its hl hi => match us, its, hl, hi with | [_, _, _, _], [_], _, _ => ⟨_, _, _, _, _, _, rfl, rfl, rfl⟩)
  exact ⟨f, fd, _, ds, hm, Fn.kp, h2, h1, fun _ _ => (.cons (by first | exact Rep.non | exact Rep.bl _ | exact Rep.bl | exact Rep.int _ | exact Rep.int | exact Rep.str _ | constructor) .nil), fg_is_chain Fn hm g_MOST_CHAIN_STEPS f_isinstance f_list f_len k_is_index k_led_to⟩

/-! ### _law_stream -/
abbrev s_law_stream : Stmt := top 29
def b_law_stream : FS := (fSeq (fSet 2 (fC (.int 0)))
      (fSeq (fIfS (fTest (fOp opLt (fVar 1) (fCB opLen (fCons (fVar 0) fNil)))) (fSet 2 (fOp opIx (fVar 0) (fVar 1))) fNext)
      (fSeq (fSet 3 (fCB opMax2 (fCons (fVar 2) (fCons (fOp opSub (fNeg (fC (.int 1))) (fVar 2)) fNil))))
      (fSeq (fSet 4 (fOp opMod (fOp opMul (fOp opAdd (fOp opAdd (fOp opAdd (fOp opMod (fVar 3) (fC (.int 2147483629))) (fOp opMul (fOp opMul (fC (.int 7919)) (fVar 1)) (fVar 1))) (fOp opMul (fC (.int 31)) (fVar 1))) (fC (.int 17))) (fC (.int 48271))) (fC (.int 2147483647))))
      (fRet (fLst (fCons (fOp opMul (fVar 3) (fCB opInt (fCons (fOp opGe (fVar 3) (fOp opPow (fC (.int 10)) (fC (.int 18)))) fNil))) (fCons (fVar 4) fNil))))))))
def d_law_stream : OC := mkF 2 5 b_law_stream
theorem sc_law_stream : FnScope ["_law_script", "_law_k", "_law_cell", "_law_size", "_law_mixed"] ["_law_script", "_law_k"] (defScope s_law_stream) := ⟨rfl, rfl, rfl, by decide +kernel, rfl, by decide +kernel, by decide +kernel⟩
theorem kn_law_stream {P : Program} {w : World} {K : PySem.W.Frag} {mg : Str → Option Value} {base : Heap} {f : Addr} {fd : FuncData} (Fn : FunD K "_law_stream" "_law_stream" (defArgs s_law_stream) (defBody s_law_stream) (defScope s_law_stream) [] [] f fd) (hm : mg "_law_stream" = some (.ref f)) (f_len : mg "len" = none) (f_max : mg "max" = none) (f_int : mg "int" = none) :
    Kn P w K mg base (EXc K) "_law_stream" 1 ["_law_script", "_law_k"] d_law_stream := by
  refine kn_of Fn hm (Fn.bindsN fun _ _ _ _ _ _ us hl => match us, hl with | [_, _], _ => rfl) sc_law_stream rfl fun cdv A ou s H E hgd hr => ?_
  have nd := sc_law_stream.nd
  have hgd : (cxOf (L2.CX P w) P w K mg base ["_law_script", "_law_k", "_law_cell", "_law_size", "_law_mixed"] "_law_stream" (defScope s_law_stream) f cdv A ou s H E).A.guards = some [] := hgd
  have tk : Takes (cxOf (L2.CX P w) P w K mg base ["_law_script", "_law_k", "_law_cell", "_law_size", "_law_mixed"] "_law_stream" (defScope s_law_stream) f cdv A ou s H E) (fun cls d _ H => E cls d H) := takes_of rfl rfl rfl rfl
  have hpo : PassesOwn (model P w) (cxOf (L2.CX P w) P w K mg base ["_law_script", "_law_k", "_law_cell", "_law_size", "_law_mixed"] "_law_stream" (defScope s_law_stream) f cdv A ou s H E).A (cxOf (L2.CX P w) P w K mg base ["_law_script", "_law_k", "_law_cell", "_law_size", "_law_mixed"] "_law_stream" (defScope s_law_stream) f cdv A ou s H E).env (cxOf (L2.CX P w) P w K mg base ["_law_script", "_law_k", "_law_cell", "_law_size", "_law_mixed"] "_law_stream" (defScope s_law_stream) f cdv A ou s H E).xe := passes_of rfl
  exact (pdb_cons (pds_set (i := 2) nd rfl (by first | exact Or.inl rfl | exact Or.inr rfl) pd_int)
      (pdb_cons (pds_if (pdt_cmp op_lt opr_I0b nox_I (pd_var 1) (pd_callB call_len clr_len nox_len (by rfl) f_len PySem.boot_len (pda_cons (pd_var 0) pda_nil)) (nomark _)) (pdb_one (pds_set (i := 2) nd rfl (by first | exact Or.inl rfl | exact Or.inr rfl) (pd_ix (pd_var 0) (pd_var 1)))) pdb_nil)
      (pdb_cons (pds_set (i := 3) nd rfl (by first | exact Or.inl rfl | exact Or.inr rfl) (pd_callB (call_max2 rfl) clr_max nox_max (by rfl) f_max (by decide +kernel) (pda_cons (pd_var 2) (pda_cons (pd_op op_sub opr_I0i nox_I (pd_neg pd_int) (pd_var 2)) pda_nil))))
      (pdb_cons (pds_set (i := 4) nd rfl (by first | exact Or.inl rfl | exact Or.inr rfl) (pd_op op_mod (opr_Ii cMod_ok) nox_I (pd_op op_mul (opr_Ii cMul_ok) nox_I (pd_op op_add4 opr_add nox_add (pd_op op_add4 opr_add nox_add (pd_op op_add4 opr_add nox_add (pd_op op_mod (opr_Ii cMod_ok) nox_I (pd_var 3) pd_int) (pd_op op_mul (opr_Ii cMul_ok) nox_I (pd_op op_mul (opr_Ii cMul_ok) nox_I pd_int (pd_var 1)) (pd_var 1))) (pd_op op_mul (opr_Ii cMul_ok) nox_I pd_int (pd_var 1))) pd_int) pd_int) pd_int))
      (pdb_one (pds_ret (pd_lst (pda_cons (pd_op op_mul (opr_Ii cMul_ok) nox_I (pd_var 3) (pd_callTy call_int1 clr_int nox_int (by rfl) f_int (by decide +kernel) (pda_cons (pd_cmp op_ge opr_I0b nox_I (pd_var 3) (pd_op op_pow (opr_Ii cPow_ok) nox_I pd_int pd_int) (nomark _)) pda_nil))) (pda_cons (pd_var 4) pda_nil)))))))))

/-! ### _law_draw -/
abbrev s_law_draw : Stmt := top 30
def b_law_draw : FS := (fSeq (fIfS (fTest (fOp opGt (fOp opIx (fVar 0) (fC (.int 0))) (fC (.int 0)))) (fSeq (fSet 2 (fOp opMod (fOp opIx (fVar 0) (fC (.int 0))) (fVar 1)))
      (fSeq (fPut (fVar 0) (fC (.int 0)) (fOp opDiv (fOp opIx (fVar 0) (fC (.int 0))) (fVar 1)))
      (fRet (fVar 2)))) fNext)
      (fSeq (fPut (fVar 0) (fC (.int 1)) (fOp opMod (fOp opAdd (fOp opMul (fOp opIx (fVar 0) (fC (.int 1))) (fC (.int 69621))) (fC (.int 7))) (fC (.int 2147483647))))
      (fRet (fOp opMod (fOp opDiv (fOp opMod (fOp opMul (fOp opIx (fVar 0) (fC (.int 1))) (fOp opIx (fVar 0) (fC (.int 1)))) (fC (.int 2147483629))) (fC (.int 32))) (fVar 1)))))
def d_law_draw : OC := mkF 2 3 b_law_draw
theorem sc_law_draw : FnScope ["_law_stream_here", "_law_count", "_law_result"] ["_law_stream_here", "_law_count"] (defScope s_law_draw) := ⟨rfl, rfl, rfl, by decide +kernel, rfl, by decide +kernel, by decide +kernel⟩
theorem kn_law_draw {P : Program} {w : World} {K : PySem.W.Frag} {mg : Str → Option Value} {base : Heap} {f : Addr} {fd : FuncData} (Fn : FunD K "_law_draw" "_law_draw" (defArgs s_law_draw) (defBody s_law_draw) (defScope s_law_draw) [] [] f fd) (hm : mg "_law_draw" = some (.ref f)) :
    Kn P w K mg base (EXc K) "_law_draw" 1 ["_law_stream_here", "_law_count"] d_law_draw := by
  refine kn_of Fn hm (Fn.bindsN fun _ _ _ _ _ _ us hl => match us, hl with | [_, _], _ => rfl) sc_law_draw rfl fun cdv A ou s H E hgd hr => ?_
  have nd := sc_law_draw.nd
  have hgd : (cxOf (L2.CX P w) P w K mg base ["_law_stream_here", "_law_count", "_law_result"] "_law_draw" (defScope s_law_draw) f cdv A ou s H E).A.guards = some [] := hgd
  have tk : Takes (cxOf (L2.CX P w) P w K mg base ["_law_stream_here", "_law_count", "_law_result"] "_law_draw" (defScope s_law_draw) f cdv A ou s H E) (fun cls d _ H => E cls d H) := takes_of rfl rfl rfl rfl
  have hpo : PassesOwn (model P w) (cxOf (L2.CX P w) P w K mg base ["_law_stream_here", "_law_count", "_law_result"] "_law_draw" (defScope s_law_draw) f cdv A ou s H E).A (cxOf (L2.CX P w) P w K mg base ["_law_stream_here", "_law_count", "_law_result"] "_law_draw" (defScope s_law_draw) f cdv A ou s H E).env (cxOf (L2.CX P w) P w K mg base ["_law_stream_here", "_law_count", "_law_result"] "_law_draw" (defScope s_law_draw) f cdv A ou s H E).xe := passes_of rfl
  exact (pdb_cons (pds_if (pdt_cmp op_gt opr_I0b nox_I (pd_ix (pd_var 0) pd_int) pd_int (nomark _)) (pdb_cons (pds_set (i := 2) nd rfl (by first | exact Or.inl rfl | exact Or.inr rfl) (pd_op op_mod (opr_Ii cMod_ok) nox_I (pd_ix (pd_var 0) pd_int) (pd_var 1)))
      (pdb_cons (pds_put (pd_op op_fdiv (opr_Ii cDiv_ok) nox_I (pd_ix (pd_var 0) pd_int) (pd_var 1)) (pd_var 0) pd_int (fun _ _ a b => pg_sub a b set_list))
      (pdb_one (pds_ret (pd_var 2))))) pdb_nil)
      (pdb_cons (pds_put (pd_op op_mod (opr_Ii cMod_ok) nox_I (pd_op op_add4 opr_add nox_add (pd_op op_mul (opr_Ii cMul_ok) nox_I (pd_ix (pd_var 0) pd_int) pd_int) pd_int) pd_int) (pd_var 0) pd_int (fun _ _ a b => pg_sub a b set_list))
      (pdb_one (pds_ret (pd_op op_mod (opr_Ii cMod_ok) nox_I (pd_op op_fdiv (opr_Ii cDiv_ok) nox_I (pd_op op_mod (opr_Ii cMod_ok) nox_I (pd_op op_mul (opr_Ii cMul_ok) nox_I (pd_ix (pd_var 0) pd_int) (pd_ix (pd_var 0) pd_int)) pd_int) pd_int) (pd_var 1))))))

/-! ### _law_choose -/
abbrev s_law_choose : Stmt := top 31
def b_law_choose : FS := (fRet (fOp opIx (fVar 1) (fCB d_law_draw (fCons (fVar 0) (fCons (fCB opLen (fCons (fVar 1) fNil)) fNil)))))
def d_law_choose : OC := mkF 2 2 b_law_choose
theorem sc_law_choose : FnScope ["_law_stream_here", "_law_items"] ["_law_stream_here", "_law_items"] (defScope s_law_choose) := ⟨rfl, rfl, rfl, by decide +kernel, rfl, by decide +kernel, by decide +kernel⟩
theorem kn_law_choose {P : Program} {w : World} {K : PySem.W.Frag} {mg : Str → Option Value} {base : Heap} {f : Addr} {fd : FuncData} (Fn : FunD K "_law_choose" "_law_choose" (defArgs s_law_choose) (defBody s_law_choose) (defScope s_law_choose) [] [] f fd) (hm : mg "_law_choose" = some (.ref f)) (f_len : mg "len" = none) (k_law_draw : Kn P w K mg base (EXc K) "_law_draw" 1 ["_law_stream_here", "_law_count"] d_law_draw) :
    Kn P w K mg base (EXc K) "_law_choose" 2 ["_law_stream_here", "_law_items"] d_law_choose := by
  refine kn_of Fn hm (Fn.bindsN fun _ _ _ _ _ _ us hl => match us, hl with | [_, _], _ => rfl) sc_law_choose rfl fun cdv A ou s H E hgd hr => ?_
  have nd := sc_law_choose.nd
  have hgd : (cxOf (L2.CX P w) P w K mg base ["_law_stream_here", "_law_items"] "_law_choose" (defScope s_law_choose) f cdv A ou s H E).A.guards = some [] := hgd
  have tk : Takes (cxOf (L2.CX P w) P w K mg base ["_law_stream_here", "_law_items"] "_law_choose" (defScope s_law_choose) f cdv A ou s H E) (fun cls d _ H => E cls d H) := takes_of rfl rfl rfl rfl
  have hpo : PassesOwn (model P w) (cxOf (L2.CX P w) P w K mg base ["_law_stream_here", "_law_items"] "_law_choose" (defScope s_law_choose) f cdv A ou s H E).A (cxOf (L2.CX P w) P w K mg base ["_law_stream_here", "_law_items"] "_law_choose" (defScope s_law_choose) f cdv A ou s H E).env (cxOf (L2.CX P w) P w K mg base ["_law_stream_here", "_law_items"] "_law_choose" (defScope s_law_choose) f cdv A ou s H E).xe := passes_of rfl
  exact (pdb_one (pds_ret (pd_ix (pd_var 1) (pd_callK k_law_draw hgd (hr.mono (by decide)) rfl tk (pda_cons (pd_var 0) (pda_cons (pd_callB call_len clr_len nox_len (by rfl) f_len PySem.boot_len (pda_cons (pd_var 1) pda_nil)) pda_nil))))))

/-! ### _law_names -/
abbrev s_law_names : Stmt := top 32
def b_law_names : FS := (fSeq (fSet 1 (fOp opIx (fLst (fCons (fC (.str "")) (fCons (fC (.str "k")) (fCons (fC (.str "zzzzzzz")) fNil)))) (fCB d_law_draw (fCons (fVar 0) (fCons (fC (.int 3)) fNil)))))
      (fSeq (fSet 2 (fLc (fC (.str "abcd")) 4 fYes (fOp opAdd (fVar 1) (fVar 4))))
      (fSeq (fSet 3 (fLc (fC (.str "rst")) 4 fYes (fOp opAdd (fVar 1) (fVar 4))))
      (fRet (fTup (fCons (fVar 2) (fCons (fOp opIx (fLst (fCons (fVar 3) (fCons (fSl (fVar 2) fNoPart (fPart (fC (.int 3)))) fNil))) (fCB opInt (fCons (fOp opEqD (fCB d_law_draw (fCons (fVar 0) (fCons (fC (.int 4)) fNil))) (fC (.int 0))) fNil))) fNil)))))))
def d_law_names : OC := mkF 1 5 b_law_names
theorem sc_law_names : FnScope ["_law_stream_here", "_law_head", "_law_concept_names", "_law_role_names", "_law_sign"] ["_law_stream_here"] (defScope s_law_names) := ⟨rfl, rfl, rfl, by decide +kernel, rfl, by decide +kernel, by decide +kernel⟩
theorem kn_law_names {P : Program} {w : World} {K : PySem.W.Frag} {mg : Str → Option Value} {base : Heap} {f : Addr} {fd : FuncData} (Fn : FunD K "_law_names" "_law_names" (defArgs s_law_names) (defBody s_law_names) (defScope s_law_names) [] [] f fd) (hm : mg "_law_names" = some (.ref f)) (f_int : mg "int" = none) (k_law_draw : Kn P w K mg base (EXc K) "_law_draw" 1 ["_law_stream_here", "_law_count"] d_law_draw) :
    Kn P w K mg base (EXc K) "_law_names" 2 ["_law_stream_here"] d_law_names := by
  refine kn_of Fn hm (Fn.bindsN fun _ _ _ _ _ _ us hl => match us, hl with | [_], _ => rfl) sc_law_names rfl fun cdv A ou s H E hgd hr => ?_
  have nd := sc_law_names.nd
  have hgd : (cxOf (L2.CX P w) P w K mg base ["_law_stream_here", "_law_head", "_law_concept_names", "_law_role_names", "_law_sign"] "_law_names" (defScope s_law_names) f cdv A ou s H E).A.guards = some [] := hgd
  have tk : Takes (cxOf (L2.CX P w) P w K mg base ["_law_stream_here", "_law_head", "_law_concept_names", "_law_role_names", "_law_sign"] "_law_names" (defScope s_law_names) f cdv A ou s H E) (fun cls d _ H => E cls d H) := takes_of rfl rfl rfl rfl
  have hpo : PassesOwn (model P w) (cxOf (L2.CX P w) P w K mg base ["_law_stream_here", "_law_head", "_law_concept_names", "_law_role_names", "_law_sign"] "_law_names" (defScope s_law_names) f cdv A ou s H E).A (cxOf (L2.CX P w) P w K mg base ["_law_stream_here", "_law_head", "_law_concept_names", "_law_role_names", "_law_sign"] "_law_names" (defScope s_law_names) f cdv A ou s H E).env (cxOf (L2.CX P w) P w K mg base ["_law_stream_here", "_law_head", "_law_concept_names", "_law_role_names", "_law_sign"] "_law_names" (defScope s_law_names) f cdv A ou s H E).xe := passes_of rfl
  exact (pdb_cons (pds_set (i := 1) nd rfl (by first | exact Or.inl rfl | exact Or.inr rfl) (pd_ix (pd_lst (pda_cons pd_str (pda_cons pd_str (pda_cons pd_str pda_nil)))) (pd_callK k_law_draw hgd (hr.mono (by decide)) rfl tk (pda_cons (pd_var 0) (pda_cons pd_int pda_nil)))))
      (pdb_cons (pds_setLc rfl nd rfl rfl (sw_true rfl rfl rfl (by decide +kernel)) (blkOk_by (N := ["_law_stream_here", "_law_head", "_law_concept_names", "_law_role_names", "_law_sign"]) (sc := defScope s_law_names) (by decide +kernel)) pd_str (fun _ _ _ _ _ => pg_name (i := 4) nd rfl (Or.inl rfl)) (fun _ _ _ _ _ => pdts_nil) (fun _ _ _ _ _ => (pd_op op_add4 opr_add nox_add (pd_var 1) (pd_var 4))))
      (pdb_cons (pds_setLc rfl nd rfl rfl (sw_true rfl rfl rfl (by decide +kernel)) (blkOk_by (N := ["_law_stream_here", "_law_head", "_law_concept_names", "_law_role_names", "_law_sign"]) (sc := defScope s_law_names) (by decide +kernel)) pd_str (fun _ _ _ _ _ => pg_name (i := 4) nd rfl (Or.inl rfl)) (fun _ _ _ _ _ => pdts_nil) (fun _ _ _ _ _ => (pd_op op_add4 opr_add nox_add (pd_var 1) (pd_var 4))))
      (pdb_one (pds_ret (pd_tup (pda_cons (pd_var 2) (pda_cons (pd_ix (pd_lst (pda_cons (pd_var 3) (pda_cons (pd_sl (pd_var 2) pdo_none (pdo_some pd_int)) pda_nil))) (pd_callTy call_int1 clr_int nox_int (by rfl) f_int (by decide +kernel) (pda_cons (pd_cmp (op_eq2 hr.units) opr_eq2 nox_eq2 (pd_callK k_law_draw hgd (hr.mono (by decide)) rfl tk (pda_cons (pd_var 0) (pda_cons pd_int pda_nil))) pd_int (nomark _)) pda_nil))) pda_nil))))))))

/-! ### _law_concept -/
abbrev s_law_concept : Stmt := top 33
def b_law_concept : FS := (fSeq (fSet 2 (fOp opIx (fLst (fCons (fC (.str "concept")) (fCons (fC (.str "concept")) (fCons (fC (.str "out")) (fCons (fC (.str "in")) fNil))))) (fCB d_law_draw (fCons (fVar 0) (fCons (fC (.int 4)) fNil)))))
      (fRet (fTup (fCons (fVar 2) (fCons (fCB d_law_choose (fCons (fVar 0) (fCons (fOp opIx (fVar 1) (fCB opInt (fCons (fOp opNeD (fVar 2) (fC (.str "concept"))) fNil))) fNil))) fNil)))))
def d_law_concept : OC := mkF 2 3 b_law_concept
theorem sc_law_concept : FnScope ["_law_stream_here", "_law_names_here", "_law_word"] ["_law_stream_here", "_law_names_here"] (defScope s_law_concept) := ⟨rfl, rfl, rfl, by decide +kernel, rfl, by decide +kernel, by decide +kernel⟩
theorem kn_law_concept {P : Program} {w : World} {K : PySem.W.Frag} {mg : Str → Option Value} {base : Heap} {f : Addr} {fd : FuncData} (Fn : FunD K "_law_concept" "_law_concept" (defArgs s_law_concept) (defBody s_law_concept) (defScope s_law_concept) [] [] f fd) (hm : mg "_law_concept" = some (.ref f)) (f_int : mg "int" = none) (k_law_draw : Kn P w K mg base (EXc K) "_law_draw" 1 ["_law_stream_here", "_law_count"] d_law_draw) (k_law_choose : Kn P w K mg base (EXc K) "_law_choose" 2 ["_law_stream_here", "_law_items"] d_law_choose) :
    Kn P w K mg base (EXc K) "_law_concept" 3 ["_law_stream_here", "_law_names_here"] d_law_concept := by
  refine kn_of Fn hm (Fn.bindsN fun _ _ _ _ _ _ us hl => match us, hl with | [_, _], _ => rfl) sc_law_concept rfl fun cdv A ou s H E hgd hr => ?_
  have nd := sc_law_concept.nd
  have hgd : (cxOf (L2.CX P w) P w K mg base ["_law_stream_here", "_law_names_here", "_law_word"] "_law_concept" (defScope s_law_concept) f cdv A ou s H E).A.guards = some [] := hgd
  have tk : Takes (cxOf (L2.CX P w) P w K mg base ["_law_stream_here", "_law_names_here", "_law_word"] "_law_concept" (defScope s_law_concept) f cdv A ou s H E) (fun cls d _ H => E cls d H) := takes_of rfl rfl rfl rfl
  have hpo : PassesOwn (model P w) (cxOf (L2.CX P w) P w K mg base ["_law_stream_here", "_law_names_here", "_law_word"] "_law_concept" (defScope s_law_concept) f cdv A ou s H E).A (cxOf (L2.CX P w) P w K mg base ["_law_stream_here", "_law_names_here", "_law_word"] "_law_concept" (defScope s_law_concept) f cdv A ou s H E).env (cxOf (L2.CX P w) P w K mg base ["_law_stream_here", "_law_names_here", "_law_word"] "_law_concept" (defScope s_law_concept) f cdv A ou s H E).xe := passes_of rfl
  exact (pdb_cons (pds_set (i := 2) nd rfl (by first | exact Or.inl rfl | exact Or.inr rfl) (pd_ix (pd_lst (pda_cons pd_str (pda_cons pd_str (pda_cons pd_str (pda_cons pd_str pda_nil))))) (pd_callK k_law_draw hgd (hr.mono (by decide)) rfl tk (pda_cons (pd_var 0) (pda_cons pd_int pda_nil)))))
      (pdb_one (pds_ret (pd_tup (pda_cons (pd_var 2) (pda_cons (pd_callK k_law_choose hgd (hr.mono (by decide)) rfl tk (pda_cons (pd_var 0) (pda_cons (pd_ix (pd_var 1) (pd_callTy call_int1 clr_int nox_int (by rfl) f_int (by decide +kernel) (pda_cons (pd_cmp (op_ne2 hr.units) opr_ne2 nox_ne2 (pd_var 2) pd_str (nomark _)) pda_nil))) pda_nil))) pda_nil))))))

/-! ### _law_axiom -/
abbrev s_law_axiom : Stmt := top 34
def b_law_axiom : FS := (fSeq (fSet 3 (fCB d_law_choose (fCons (fVar 0) (fCons (fVar 2) fNil))))
      (fSeq (fIfS (fOrT (fTest (fOp opEqD (fVar 3) (fC (.str "subclass")))) (fTest (fOp opEqD (fVar 3) (fC (.str "disjoint"))))) (fRet (fTup (fCons (fVar 3) (fCons (fCB d_law_concept (fCons (fVar 0) (fCons (fVar 1) fNil))) (fCons (fCB d_law_concept (fCons (fVar 0) (fCons (fVar 1) fNil))) fNil))))) fNext)
      (fSeq (fIfS (fTest (fOp opEqD (fVar 3) (fC (.str "functional")))) (fRet (fTup (fCons (fVar 3) (fCons (fTup (fCons (fOp opIx (fLst (fCons (fC (.str "out")) (fCons (fC (.str "in")) fNil))) (fCB d_law_draw (fCons (fVar 0) (fCons (fC (.int 2)) fNil)))) (fCons (fCB d_law_choose (fCons (fVar 0) (fCons (fOp opIx (fVar 1) (fC (.int 1))) fNil))) fNil))) fNil)))) fNext)
      (fRet (fTup (fCons (fVar 3) (fCons (fCB d_law_choose (fCons (fVar 0) (fCons (fOp opIx (fVar 1) (fC (.int 1))) fNil))) (fCons (fCB d_law_choose (fCons (fVar 0) (fCons (fOp opIx (fVar 1) (fC (.int 1))) fNil))) fNil))))))))
def d_law_axiom : OC := mkF 3 4 b_law_axiom
theorem sc_law_axiom : FnScope ["_law_stream_here", "_law_names_here", "_law_menu", "_law_word"] ["_law_stream_here", "_law_names_here", "_law_menu"] (defScope s_law_axiom) := ⟨rfl, rfl, rfl, by decide +kernel, rfl, by decide +kernel, by decide +kernel⟩
theorem kn_law_axiom {P : Program} {w : World} {K : PySem.W.Frag} {mg : Str → Option Value} {base : Heap} {f : Addr} {fd : FuncData} (Fn : FunD K "_law_axiom" "_law_axiom" (defArgs s_law_axiom) (defBody s_law_axiom) (defScope s_law_axiom) [] [] f fd) (hm : mg "_law_axiom" = some (.ref f)) (k_law_choose : Kn P w K mg base (EXc K) "_law_choose" 2 ["_law_stream_here", "_law_items"] d_law_choose) (k_law_concept : Kn P w K mg base (EXc K) "_law_concept" 3 ["_law_stream_here", "_law_names_here"] d_law_concept) (k_law_draw : Kn P w K mg base (EXc K) "_law_draw" 1 ["_law_stream_here", "_law_count"] d_law_draw) :
    Kn P w K mg base (EXc K) "_law_axiom" 4 ["_law_stream_here", "_law_names_here", "_law_menu"] d_law_axiom := by
  refine kn_of Fn hm (Fn.bindsN fun _ _ _ _ _ _ us hl => match us, hl with | [_, _, _], _ => rfl) sc_law_axiom rfl fun cdv A ou s H E hgd hr => ?_
  have nd := sc_law_axiom.nd
  have hgd : (cxOf (L2.CX P w) P w K mg base ["_law_stream_here", "_law_names_here", "_law_menu", "_law_word"] "_law_axiom" (defScope s_law_axiom) f cdv A ou s H E).A.guards = some [] := hgd
  have tk : Takes (cxOf (L2.CX P w) P w K mg base ["_law_stream_here", "_law_names_here", "_law_menu", "_law_word"] "_law_axiom" (defScope s_law_axiom) f cdv A ou s H E) (fun cls d _ H => E cls d H) := takes_of rfl rfl rfl rfl
  have hpo : PassesOwn (model P w) (cxOf (L2.CX P w) P w K mg base ["_law_stream_here", "_law_names_here", "_law_menu", "_law_word"] "_law_axiom" (defScope s_law_axiom) f cdv A ou s H E).A (cxOf (L2.CX P w) P w K mg base ["_law_stream_here", "_law_names_here", "_law_menu", "_law_word"] "_law_axiom" (defScope s_law_axiom) f cdv A ou s H E).env (cxOf (L2.CX P w) P w K mg base ["_law_stream_here", "_law_names_here", "_law_menu", "_law_word"] "_law_axiom" (defScope s_law_axiom) f cdv A ou s H E).xe := passes_of rfl
  exact (pdb_cons (pds_set (i := 3) nd rfl (by first | exact Or.inl rfl | exact Or.inr rfl) (pd_callK k_law_choose hgd (hr.mono (by decide)) rfl tk (pda_cons (pd_var 0) (pda_cons (pd_var 2) pda_nil))))
      (pdb_cons (pds_if (PW.pt (pdw_or (pdt_cmp (op_eq2 hr.units) opr_eq2 nox_eq2 (pd_var 3) pd_str (nomark _)) (pdw_or1 (pdt_cmp (op_eq2 hr.units) opr_eq2 nox_eq2 (pd_var 3) pd_str (nomark _))))) (pdb_one (pds_ret (pd_tup (pda_cons (pd_var 3) (pda_cons (pd_callK k_law_concept hgd (hr.mono (by decide)) rfl tk (pda_cons (pd_var 0) (pda_cons (pd_var 1) pda_nil))) (pda_cons (pd_callK k_law_concept hgd (hr.mono (by decide)) rfl tk (pda_cons (pd_var 0) (pda_cons (pd_var 1) pda_nil))) pda_nil)))))) pdb_nil)
      (pdb_cons (pds_if (pdt_cmp (op_eq2 hr.units) opr_eq2 nox_eq2 (pd_var 3) pd_str (nomark _)) (pdb_one (pds_ret (pd_tup (pda_cons (pd_var 3) (pda_cons (pd_tup (pda_cons (pd_ix (pd_lst (pda_cons pd_str (pda_cons pd_str pda_nil))) (pd_callK k_law_draw hgd (hr.mono (by decide)) rfl tk (pda_cons (pd_var 0) (pda_cons pd_int pda_nil)))) (pda_cons (pd_callK k_law_choose hgd (hr.mono (by decide)) rfl tk (pda_cons (pd_var 0) (pda_cons (pd_ix (pd_var 1) pd_int) pda_nil))) pda_nil))) pda_nil))))) pdb_nil)
      (pdb_one (pds_ret (pd_tup (pda_cons (pd_var 3) (pda_cons (pd_callK k_law_choose hgd (hr.mono (by decide)) rfl tk (pda_cons (pd_var 0) (pda_cons (pd_ix (pd_var 1) pd_int) pda_nil))) (pda_cons (pd_callK k_law_choose hgd (hr.mono (by decide)) rfl tk (pda_cons (pd_var 0) (pda_cons (pd_ix (pd_var 1) pd_int) pda_nil))) pda_nil)))))))))

/-! ### _law_allowed -/
abbrev s_law_allowed : Stmt := top 35
def b_law_allowed : FS := (fSeq (fSet 1 (fLc (fVar 0) 2 (fOrT (fTest (fOp opEqD (fOp opIx (fVar 2) (fC (.int 0))) (fC (.str "subrole")))) (fTest (fOp opEqD (fOp opIx (fVar 2) (fC (.int 0))) (fC (.str "subrole_inverse"))))) (fOp opIx (fVar 2) (fC (.int 2)))))
      (fRet (fOp opEqD (fLc (fVar 0) 2 (fAndT (fTest (fOp opEqD (fOp opIx (fVar 2) (fC (.int 0))) (fC (.str "functional")))) (fTest (fOp opIn (fOp opIx (fOp opIx (fVar 2) (fC (.int 1))) (fC (.int 1))) (fVar 1)))) (fVar 2)) (fLst fNil))))
def d_law_allowed : OC := mkF 1 3 b_law_allowed
theorem sc_law_allowed : FnScope ["_law_items", "_law_second", "_law_axiom_here"] ["_law_items"] (defScope s_law_allowed) := ⟨rfl, rfl, rfl, by decide +kernel, rfl, by decide +kernel, by decide +kernel⟩
theorem kn_law_allowed {P : Program} {w : World} {K : PySem.W.Frag} {mg : Str → Option Value} {base : Heap} {f : Addr} {fd : FuncData} (Fn : FunD K "_law_allowed" "_law_allowed" (defArgs s_law_allowed) (defBody s_law_allowed) (defScope s_law_allowed) [] [] f fd) (hm : mg "_law_allowed" = some (.ref f)) :
    Kn P w K mg base (EXc K) "_law_allowed" 1 ["_law_items"] d_law_allowed := by
  refine kn_of Fn hm (Fn.bindsN fun _ _ _ _ _ _ us hl => match us, hl with | [_], _ => rfl) sc_law_allowed rfl fun cdv A ou s H E hgd hr => ?_
  have nd := sc_law_allowed.nd
  have hgd : (cxOf (L2.CX P w) P w K mg base ["_law_items", "_law_second", "_law_axiom_here"] "_law_allowed" (defScope s_law_allowed) f cdv A ou s H E).A.guards = some [] := hgd
  have tk : Takes (cxOf (L2.CX P w) P w K mg base ["_law_items", "_law_second", "_law_axiom_here"] "_law_allowed" (defScope s_law_allowed) f cdv A ou s H E) (fun cls d _ H => E cls d H) := takes_of rfl rfl rfl rfl
  have hpo : PassesOwn (model P w) (cxOf (L2.CX P w) P w K mg base ["_law_items", "_law_second", "_law_axiom_here"] "_law_allowed" (defScope s_law_allowed) f cdv A ou s H E).A (cxOf (L2.CX P w) P w K mg base ["_law_items", "_law_second", "_law_axiom_here"] "_law_allowed" (defScope s_law_allowed) f cdv A ou s H E).env (cxOf (L2.CX P w) P w K mg base ["_law_items", "_law_second", "_law_axiom_here"] "_law_allowed" (defScope s_law_allowed) f cdv A ou s H E).xe := passes_of rfl
  exact (pdb_cons (pds_set (i := 1) nd rfl (by first | exact Or.inl rfl | exact Or.inr rfl) (pd_lc rfl nd (blkOk_by (N := ["_law_items", "_law_second", "_law_axiom_here"]) (sc := defScope s_law_allowed) (by decide +kernel)) (pd_var 0) (fun _ _ _ _ _ => pg_name (i := 2) nd rfl (Or.inl rfl)) (fun _ _ _ _ _ => (pdts_one (PW.pt (pdw_or (pdt_cmp (op_eq2 hr.units) opr_eq2 nox_eq2 (pd_ix (pd_var 2) pd_int) pd_str (nomark _)) (pdw_or1 (pdt_cmp (op_eq2 hr.units) opr_eq2 nox_eq2 (pd_ix (pd_var 2) pd_int) pd_str (nomark _))))))) (fun _ _ _ _ _ => (pd_ix (pd_var 2) pd_int))))
      (pdb_one (pds_ret (pd_cmp (op_eq2 hr.units) opr_eq2 nox_eq2 (pd_lc rfl nd (blkOk_by (N := ["_law_items", "_law_second", "_law_axiom_here"]) (sc := defScope s_law_allowed) (by decide +kernel)) (pd_var 0) (fun _ _ _ _ _ => pg_name (i := 2) nd rfl (Or.inl rfl)) (fun _ _ _ _ _ => (pdts_one (PW.pt (pdw_and (pdt_cmp (op_eq2 hr.units) opr_eq2 nox_eq2 (pd_ix (pd_var 2) pd_int) pd_str (nomark _)) (pdw_and1 (pdt_cmp (op_in2 (hu65 hr)) opr_in nox_in (pd_ix (pd_ix (pd_var 2) pd_int) pd_int) (pd_var 1) (by rfl))))))) (fun _ _ _ _ _ => (pd_var 2))) (pd_lst pda_nil) (nomark _)))))

/-! ### _law_ontology -/
abbrev s_law_ontology : Stmt := top 36
def b_law_ontology : FS := (fSeq (fSet 4 (fLst fNil))
      (fSeq (fForR rng1 (fCons (fCB d_law_draw (fCons (fVar 0) (fCons (fOp opAdd (fVar 3) (fC (.int 1))) fNil))) fNil) 5 (fSeq (fSet 6 (fCB d_law_axiom (fCons (fVar 0) (fCons (fVar 1) (fCons (fVar 2) fNil)))))
      (fIfS (fAndT (fTest (fOp opNotIn (fVar 6) (fVar 4))) (fTest (fCB d_law_allowed (fCons (fOp opAdd (fVar 4) (fLst (fCons (fVar 6) fNil))) fNil)))) (fDrop (fApp (fVar 4) (fVar 6))) fNext)))
      (fRet (fVar 4))))
def d_law_ontology : OC := mkF 4 7 b_law_ontology
theorem sc_law_ontology : FnScope ["_law_stream_here", "_law_names_here", "_law_menu", "_law_most", "_law_result", "_law_turn", "_law_axiom_here"] ["_law_stream_here", "_law_names_here", "_law_menu", "_law_most"] (defScope s_law_ontology) := ⟨rfl, rfl, rfl, by decide +kernel, rfl, by decide +kernel, by decide +kernel⟩
theorem kn_law_ontology {P : Program} {w : World} {K : PySem.W.Frag} {mg : Str → Option Value} {base : Heap} {f : Addr} {fd : FuncData} (Fn : FunD K "_law_ontology" "_law_ontology" (defArgs s_law_ontology) (defBody s_law_ontology) (defScope s_law_ontology) [] [] f fd) (hm : mg "_law_ontology" = some (.ref f)) (f_range : mg "range" = none) (k_law_draw : Kn P w K mg base (EXc K) "_law_draw" 1 ["_law_stream_here", "_law_count"] d_law_draw) (k_law_axiom : Kn P w K mg base (EXc K) "_law_axiom" 4 ["_law_stream_here", "_law_names_here", "_law_menu"] d_law_axiom) (k_law_allowed : Kn P w K mg base (EXc K) "_law_allowed" 1 ["_law_items"] d_law_allowed) :
    Kn P w K mg base (EXc K) "_law_ontology" 5 ["_law_stream_here", "_law_names_here", "_law_menu", "_law_most"] d_law_ontology := by
  refine kn_of Fn hm (Fn.bindsN fun _ _ _ _ _ _ us hl => match us, hl with | [_, _, _, _], _ => rfl) sc_law_ontology rfl fun cdv A ou s H E hgd hr => ?_
  have nd := sc_law_ontology.nd
  have hgd : (cxOf (L2.CX P w) P w K mg base ["_law_stream_here", "_law_names_here", "_law_menu", "_law_most", "_law_result", "_law_turn", "_law_axiom_here"] "_law_ontology" (defScope s_law_ontology) f cdv A ou s H E).A.guards = some [] := hgd
  have tk : Takes (cxOf (L2.CX P w) P w K mg base ["_law_stream_here", "_law_names_here", "_law_menu", "_law_most", "_law_result", "_law_turn", "_law_axiom_here"] "_law_ontology" (defScope s_law_ontology) f cdv A ou s H E) (fun cls d _ H => E cls d H) := takes_of rfl rfl rfl rfl
  have hpo : PassesOwn (model P w) (cxOf (L2.CX P w) P w K mg base ["_law_stream_here", "_law_names_here", "_law_menu", "_law_most", "_law_result", "_law_turn", "_law_axiom_here"] "_law_ontology" (defScope s_law_ontology) f cdv A ou s H E).A (cxOf (L2.CX P w) P w K mg base ["_law_stream_here", "_law_names_here", "_law_menu", "_law_most", "_law_result", "_law_turn", "_law_axiom_here"] "_law_ontology" (defScope s_law_ontology) f cdv A ou s H E).env (cxOf (L2.CX P w) P w K mg base ["_law_stream_here", "_law_names_here", "_law_menu", "_law_most", "_law_result", "_law_turn", "_law_axiom_here"] "_law_ontology" (defScope s_law_ontology) f cdv A ou s H E).xe := passes_of rfl
  exact (pdb_cons (pds_set (i := 4) nd rfl (by first | exact Or.inl rfl | exact Or.inr rfl) (pd_lst pda_nil))
      (pdb_cons (pds_forR1 (j := 5) hpo rfl nd rfl (by first | exact Or.inl rfl | exact Or.inr rfl) rfl f_range (pda_cons (pd_callK k_law_draw hgd (hr.mono (by decide)) rfl tk (pda_cons (pd_var 0) (pda_cons (pd_op op_add4 opr_add nox_add (pd_var 3) pd_int) pda_nil))) pda_nil) (pdb_cons (pds_set (i := 6) nd rfl (by first | exact Or.inl rfl | exact Or.inr rfl) (pd_callK k_law_axiom hgd (hr.mono (by decide)) rfl tk (pda_cons (pd_var 0) (pda_cons (pd_var 1) (pda_cons (pd_var 2) pda_nil)))))
      (pdb_one (pds_if (PW.pt (pdw_and (pdt_cmp (op_notIn2 (hu65 hr)) opr_notIn nox_notIn (pd_var 6) (pd_var 4) (by rfl)) (pdw_and1 (pdt_val (pd_callK k_law_allowed hgd (hr.mono (by decide)) rfl tk (pda_cons (pd_op op_add4 opr_add nox_add (pd_var 4) (pd_lst (pda_cons (pd_var 6) pda_nil))) pda_nil)))))) (pdb_one (pds_expr (pd_app (pd_var 4) (pd_var 6) (fun _ _ a b => pe_bm PySem.F.plainAttrs_list PySem.F.slot_list_append PySem.F.type_list_append mt_append a b)))) pdb_nil))))
      (pdb_one (pds_ret (pd_var 4)))))

/-! ### _law_successor -/
abbrev s_law_successor : Stmt := top 37
def b_law_successor : FS := (fSeq (fIfS (fAndT (fTest (fOp opEqD (fOp opIx (fVar 0) (fC (.int 0))) (fC (.str "subclass")))) (fNotT (fTest (fVar 2)))) (fRet (fIf (fTest (fOp opEqD (fOp opIx (fVar 0) (fC (.int 1))) (fVar 1))) (fOp opIx (fVar 0) (fC (.int 2))) (fC .non))) fNext)
      (fSeq (fIfS (fOrT (fTest (fOp opNotIn (fOp opIx (fVar 0) (fC (.int 0))) (fTup (fCons (fC (.str "subrole")) (fCons (fC (.str "subrole_inverse")) fNil))))) (fOrT (fTest (fOp opEqD (fOp opIx (fVar 1) (fC (.int 0))) (fC (.str "concept")))) (fTest (fOp opNeD (fOp opIx (fVar 1) (fC (.int 1))) (fOp opIx (fVar 0) (fC (.int 1))))))) (fRet (fC .non)) fNext)
      (fSeq (fIfS (fTest (fOp opEqD (fOp opIx (fVar 0) (fC (.int 0))) (fC (.str "subrole")))) (fRet (fTup (fCons (fOp opIx (fVar 1) (fC (.int 0))) (fCons (fOp opIx (fVar 0) (fC (.int 2))) fNil)))) fNext)
      (fRet (fTup (fCons (fOp opIx (fLst (fCons (fC (.str "out")) (fCons (fC (.str "in")) fNil))) (fCB opInt (fCons (fOp opEqD (fOp opIx (fVar 1) (fC (.int 0))) (fC (.str "out"))) fNil))) (fCons (fOp opIx (fVar 0) (fC (.int 2))) fNil)))))))
def d_law_successor : OC := mkF 3 3 b_law_successor
theorem sc_law_successor : FnScope ["_law_axiom_here", "_law_concept_here", "_law_tied"] ["_law_axiom_here", "_law_concept_here", "_law_tied"] (defScope s_law_successor) := ⟨rfl, rfl, rfl, by decide +kernel, rfl, by decide +kernel, by decide +kernel⟩
theorem kn_law_successor {P : Program} {w : World} {K : PySem.W.Frag} {mg : Str → Option Value} {base : Heap} {f : Addr} {fd : FuncData} (Fn : FunD K "_law_successor" "_law_successor" (defArgs s_law_successor) (defBody s_law_successor) (defScope s_law_successor) [] [] f fd) (hm : mg "_law_successor" = some (.ref f)) (f_int : mg "int" = none) :
    Kn P w K mg base (EXc K) "_law_successor" 1 ["_law_axiom_here", "_law_concept_here", "_law_tied"] d_law_successor := by
  refine kn_of Fn hm (Fn.bindsN fun _ _ _ _ _ _ us hl => match us, hl with | [_, _, _], _ => rfl) sc_law_successor rfl fun cdv A ou s H E hgd hr => ?_
  have nd := sc_law_successor.nd
  have hgd : (cxOf (L2.CX P w) P w K mg base ["_law_axiom_here", "_law_concept_here", "_law_tied"] "_law_successor" (defScope s_law_successor) f cdv A ou s H E).A.guards = some [] := hgd
  have tk : Takes (cxOf (L2.CX P w) P w K mg base ["_law_axiom_here", "_law_concept_here", "_law_tied"] "_law_successor" (defScope s_law_successor) f cdv A ou s H E) (fun cls d _ H => E cls d H) := takes_of rfl rfl rfl rfl
  have hpo : PassesOwn (model P w) (cxOf (L2.CX P w) P w K mg base ["_law_axiom_here", "_law_concept_here", "_law_tied"] "_law_successor" (defScope s_law_successor) f cdv A ou s H E).A (cxOf (L2.CX P w) P w K mg base ["_law_axiom_here", "_law_concept_here", "_law_tied"] "_law_successor" (defScope s_law_successor) f cdv A ou s H E).env (cxOf (L2.CX P w) P w K mg base ["_law_axiom_here", "_law_concept_here", "_law_tied"] "_law_successor" (defScope s_law_successor) f cdv A ou s H E).xe := passes_of rfl
  exact (pdb_cons (pds_if (PW.pt (pdw_and (pdt_cmp (op_eq2 hr.units) opr_eq2 nox_eq2 (pd_ix (pd_var 0) pd_int) pd_str (nomark _)) (pdw_and1 (pdt_not (pdt_val (pd_var 2)))))) (pdb_one (pds_ret (pd_if (pdt_cmp (op_eq2 hr.units) opr_eq2 nox_eq2 (pd_ix (pd_var 0) pd_int) (pd_var 1) (nomark _)) (pd_ix (pd_var 0) pd_int) pd_non))) pdb_nil)
      (pdb_cons (pds_if (PW.pt (pdw_or (pdt_cmp (op_notIn2 (hu65 hr)) opr_notIn nox_notIn (pd_ix (pd_var 0) pd_int) (pd_tup (pda_cons pd_str (pda_cons pd_str pda_nil))) (by rfl)) (pdw_or (pdt_cmp (op_eq2 hr.units) opr_eq2 nox_eq2 (pd_ix (pd_var 1) pd_int) pd_str (nomark _)) (pdw_or1 (pdt_cmp (op_ne2 hr.units) opr_ne2 nox_ne2 (pd_ix (pd_var 1) pd_int) (pd_ix (pd_var 0) pd_int) (nomark _)))))) (pdb_one (pds_ret pd_non)) pdb_nil)
      (pdb_cons (pds_if (pdt_cmp (op_eq2 hr.units) opr_eq2 nox_eq2 (pd_ix (pd_var 0) pd_int) pd_str (nomark _)) (pdb_one (pds_ret (pd_tup (pda_cons (pd_ix (pd_var 1) pd_int) (pda_cons (pd_ix (pd_var 0) pd_int) pda_nil))))) pdb_nil)
      (pdb_one (pds_ret (pd_tup (pda_cons (pd_ix (pd_lst (pda_cons pd_str (pda_cons pd_str pda_nil))) (pd_callTy call_int1 clr_int nox_int (by rfl) f_int (by decide +kernel) (pda_cons (pd_cmp (op_eq2 hr.units) opr_eq2 nox_eq2 (pd_ix (pd_var 1) pd_int) pd_str (nomark _)) pda_nil))) (pda_cons (pd_ix (pd_var 0) pd_int) pda_nil))))))))

/-! ### _law_reachable -/
abbrev s_law_reachable : Stmt := top 38
def b_law_reachable : FS := (fSeq (fSet 3 (fLst (fCons (fVar 1) fNil)))
      (fSeq (fSet 4 (fC (.int 0)))
      (fSeq (fWhile (fTest (fOp opLt (fVar 4) (fCB opLen (fCons (fVar 3) fNil)))) (fSeq (fFor (fVar 0) 5 (fSeq (fSet 6 (fCB d_law_successor (fCons (fVar 5) (fCons (fOp opIx (fVar 3) (fVar 4)) (fCons (fVar 2) fNil)))))
      (fIfS (fAndT (fTest (fOp opNotN (fVar 6) (fC .non))) (fTest (fOp opNotIn (fVar 6) (fVar 3)))) (fDrop (fApp (fVar 3) (fVar 6))) fNext)))
      (fSet 4 (fOp opAdd (fVar 4) (fC (.int 1))))))
      (fRet (fCB opSorted (fCons (fVar 3) fNil))))))
def d_law_reachable : OC := mkF 3 7 b_law_reachable
theorem sc_law_reachable : FnScope ["_law_ontology_here", "_law_concept_here", "_law_tied", "_law_result", "_law_position", "_law_axiom_here", "_law_to"] ["_law_ontology_here", "_law_concept_here", "_law_tied"] (defScope s_law_reachable) := ⟨rfl, rfl, rfl, by decide +kernel, rfl, by decide +kernel, by decide +kernel⟩
theorem kn_law_reachable {P : Program} {w : World} {K : PySem.W.Frag} {mg : Str → Option Value} {base : Heap} {f : Addr} {fd : FuncData} (Fn : FunD K "_law_reachable" "_law_reachable" (defArgs s_law_reachable) (defBody s_law_reachable) (defScope s_law_reachable) [] [] f fd) (hm : mg "_law_reachable" = some (.ref f)) (f_len : mg "len" = none) (f_sorted : mg "sorted" = none) (k_law_successor : Kn P w K mg base (EXc K) "_law_successor" 1 ["_law_axiom_here", "_law_concept_here", "_law_tied"] d_law_successor) :
    Kn P w K mg base (EXc K) "_law_reachable" 2 ["_law_ontology_here", "_law_concept_here", "_law_tied"] d_law_reachable := by
  refine kn_of Fn hm (Fn.bindsN fun _ _ _ _ _ _ us hl => match us, hl with | [_, _, _], _ => rfl) sc_law_reachable rfl fun cdv A ou s H E hgd hr => ?_
  have nd := sc_law_reachable.nd
  have hgd : (cxOf (L2.CX P w) P w K mg base ["_law_ontology_here", "_law_concept_here", "_law_tied", "_law_result", "_law_position", "_law_axiom_here", "_law_to"] "_law_reachable" (defScope s_law_reachable) f cdv A ou s H E).A.guards = some [] := hgd
  have tk : Takes (cxOf (L2.CX P w) P w K mg base ["_law_ontology_here", "_law_concept_here", "_law_tied", "_law_result", "_law_position", "_law_axiom_here", "_law_to"] "_law_reachable" (defScope s_law_reachable) f cdv A ou s H E) (fun cls d _ H => E cls d H) := takes_of rfl rfl rfl rfl
  have hpo : PassesOwn (model P w) (cxOf (L2.CX P w) P w K mg base ["_law_ontology_here", "_law_concept_here", "_law_tied", "_law_result", "_law_position", "_law_axiom_here", "_law_to"] "_law_reachable" (defScope s_law_reachable) f cdv A ou s H E).A (cxOf (L2.CX P w) P w K mg base ["_law_ontology_here", "_law_concept_here", "_law_tied", "_law_result", "_law_position", "_law_axiom_here", "_law_to"] "_law_reachable" (defScope s_law_reachable) f cdv A ou s H E).env (cxOf (L2.CX P w) P w K mg base ["_law_ontology_here", "_law_concept_here", "_law_tied", "_law_result", "_law_position", "_law_axiom_here", "_law_to"] "_law_reachable" (defScope s_law_reachable) f cdv A ou s H E).xe := passes_of rfl
  exact (pdb_cons (pds_set (i := 3) nd rfl (by first | exact Or.inl rfl | exact Or.inr rfl) (pd_lst (pda_cons (pd_var 1) pda_nil)))
      (pdb_cons (pds_set (i := 4) nd rfl (by first | exact Or.inl rfl | exact Or.inr rfl) pd_int)
      (pdb_cons (pds_while hpo (pdt_cmp op_lt opr_I0b nox_I (pd_var 4) (pd_callB call_len clr_len nox_len (by rfl) f_len PySem.boot_len (pda_cons (pd_var 3) pda_nil)) (nomark _)) (pdb_cons (pds_for (j := 5) hpo rfl nd rfl (by first | exact Or.inl rfl | exact Or.inr rfl) (pd_var 0) (pdb_cons (pds_set (i := 6) nd rfl (by first | exact Or.inl rfl | exact Or.inr rfl) (pd_callK k_law_successor hgd (hr.mono (by decide)) rfl tk (pda_cons (pd_var 5) (pda_cons (pd_ix (pd_var 3) (pd_var 4)) (pda_cons (pd_var 2) pda_nil)))))
      (pdb_one (pds_if (PW.pt (pdw_and (pdt_cmp op_notN' opr_notN nox_notN (pd_var 6) pd_non (nomark _)) (pdw_and1 (pdt_cmp (op_notIn2 (hu65 hr)) opr_notIn nox_notIn (pd_var 6) (pd_var 3) (by rfl))))) (pdb_one (pds_expr (pd_app (pd_var 3) (pd_var 6) (fun _ _ a b => pe_bm PySem.F.plainAttrs_list PySem.F.slot_list_append PySem.F.type_list_append mt_append a b)))) pdb_nil))))
      (pdb_one (pds_set (i := 4) nd rfl (by first | exact Or.inl rfl | exact Or.inr rfl) (pd_op op_add4 opr_add nox_add (pd_var 4) pd_int)))))
      (pdb_one (pds_ret (pd_callB (call_sort rfl hr.units) clr_sorted nox_sorted (by rfl) f_sorted (by decide +kernel) (pda_cons (pd_var 3) pda_nil)))))))

/-! ### _law_rounds -/
abbrev s_law_rounds : Stmt := top 39
def b_law_rounds : FS := (fSeq (fSet 2 (fLst (fCons (fTup (fCons (fVar 1) (fCons (fC (.int 0)) fNil))) fNil)))
      (fSeq (fSet 3 (fC (.int 0)))
      (fSeq (fWhile (fTest (fOp opLt (fVar 3) (fCB opLen (fCons (fVar 2) fNil)))) (fSeq (fUnpA (fOp opIx (fVar 2) (fVar 3)) 2 (tgC (tgN 5) (tgC (tgN 6) tg0)))
      (fSeq (fFor (fVar 0) 4 (fSeq (fSet 7 (fCB d_law_successor (fCons (fVar 4) (fCons (fVar 5) (fCons (fC (.bl false)) fNil)))))
      (fIfS (fAndT (fTest (fOp opNotN (fVar 7) (fC .non))) (fTest (fOp opNotIn (fVar 7) (fLcG (fiV (fVar 2)) (tgT 2 (tgC (tgN 8) (tgC (tgN 9) tg0))) [8, 9] fYes (fVar 8))))) (fDrop (fApp (fVar 2) (fTup (fCons (fVar 7) (fCons (fOp opAdd (fVar 6) (fC (.int 1))) fNil))))) fNext)))
      (fSet 3 (fOp opAdd (fVar 3) (fC (.int 1)))))))
      (fRet (fCB opDictP (fCons (fVar 2) fNil))))))
def d_law_rounds : OC := mkF 2 10 b_law_rounds
theorem sc_law_rounds : FnScope ["_law_ontology_here", "_law_concept_here", "_law_result", "_law_position", "_law_axiom_here", "_law_item", "_law_count", "_law_to", "_law_known", "_law_rest"] ["_law_ontology_here", "_law_concept_here"] (defScope s_law_rounds) := ⟨rfl, rfl, rfl, by decide +kernel, rfl, by decide +kernel, by decide +kernel⟩
theorem kn_law_rounds {P : Program} {w : World} {K : PySem.W.Frag} {mg : Str → Option Value} {base : Heap} {f : Addr} {fd : FuncData} (Fn : FunD K "_law_rounds" "_law_rounds" (defArgs s_law_rounds) (defBody s_law_rounds) (defScope s_law_rounds) [] [] f fd) (hm : mg "_law_rounds" = some (.ref f)) (f_len : mg "len" = none) (f_dict : mg "dict" = none) (k_law_successor : Kn P w K mg base (EXc K) "_law_successor" 1 ["_law_axiom_here", "_law_concept_here", "_law_tied"] d_law_successor) :
    Kn P w K mg base (EXc K) "_law_rounds" 2 ["_law_ontology_here", "_law_concept_here"] d_law_rounds := by
  refine kn_of Fn hm (Fn.bindsN fun _ _ _ _ _ _ us hl => match us, hl with | [_, _], _ => rfl) sc_law_rounds rfl fun cdv A ou s H E hgd hr => ?_
  have nd := sc_law_rounds.nd
  have hgd : (cxOf (L2.CX P w) P w K mg base ["_law_ontology_here", "_law_concept_here", "_law_result", "_law_position", "_law_axiom_here", "_law_item", "_law_count", "_law_to", "_law_known", "_law_rest"] "_law_rounds" (defScope s_law_rounds) f cdv A ou s H E).A.guards = some [] := hgd
  have tk : Takes (cxOf (L2.CX P w) P w K mg base ["_law_ontology_here", "_law_concept_here", "_law_result", "_law_position", "_law_axiom_here", "_law_item", "_law_count", "_law_to", "_law_known", "_law_rest"] "_law_rounds" (defScope s_law_rounds) f cdv A ou s H E) (fun cls d _ H => E cls d H) := takes_of rfl rfl rfl rfl
  have hpo : PassesOwn (model P w) (cxOf (L2.CX P w) P w K mg base ["_law_ontology_here", "_law_concept_here", "_law_result", "_law_position", "_law_axiom_here", "_law_item", "_law_count", "_law_to", "_law_known", "_law_rest"] "_law_rounds" (defScope s_law_rounds) f cdv A ou s H E).A (cxOf (L2.CX P w) P w K mg base ["_law_ontology_here", "_law_concept_here", "_law_result", "_law_position", "_law_axiom_here", "_law_item", "_law_count", "_law_to", "_law_known", "_law_rest"] "_law_rounds" (defScope s_law_rounds) f cdv A ou s H E).env (cxOf (L2.CX P w) P w K mg base ["_law_ontology_here", "_law_concept_here", "_law_result", "_law_position", "_law_axiom_here", "_law_item", "_law_count", "_law_to", "_law_known", "_law_rest"] "_law_rounds" (defScope s_law_rounds) f cdv A ou s H E).xe := passes_of rfl
  exact (pdb_cons (pds_set (i := 2) nd rfl (by first | exact Or.inl rfl | exact Or.inr rfl) (pd_lst (pda_cons (pd_tup (pda_cons (pd_var 1) (pda_cons pd_int pda_nil))) pda_nil)))
      (pdb_cons (pds_set (i := 3) nd rfl (by first | exact Or.inl rfl | exact Or.inr rfl) pd_int)
      (pdb_cons (pds_while hpo (pdt_cmp op_lt opr_I0b nox_I (pd_var 3) (pd_callB call_len clr_len nox_len (by rfl) f_len PySem.boot_len (pda_cons (pd_var 2) pda_nil)) (nomark _)) (pdb_cons (pds_unpA (js := [5, 6]) (n := 2) rfl (pd_ix (pd_var 2) (pd_var 3)) (pgs_cons (pg_name (i := 5) nd rfl (by first | exact Or.inl rfl | exact Or.inr rfl)) (pgs_cons (pg_name (i := 6) nd rfl (by first | exact Or.inl rfl | exact Or.inr rfl)) pgs_nil)) (tgsr_cons (tgr_name (by decide)) (tgsr_cons (tgr_name (by decide)) tgsr_nil)))
      (pdb_cons (pds_for (j := 4) hpo rfl nd rfl (by first | exact Or.inl rfl | exact Or.inr rfl) (pd_var 0) (pdb_cons (pds_set (i := 7) nd rfl (by first | exact Or.inl rfl | exact Or.inr rfl) (pd_callK k_law_successor hgd (hr.mono (by decide)) rfl tk (pda_cons (pd_var 4) (pda_cons (pd_var 5) (pda_cons pd_bl pda_nil)))))
      (pdb_one (pds_if (PW.pt (pdw_and (pdt_cmp op_notN' opr_notN nox_notN (pd_var 7) pd_non (nomark _)) (pdw_and1 (pdt_cmp (op_notIn2 (hu65 hr)) opr_notIn nox_notIn (pd_var 7) (pd_lcG (own := [("_law_known", 8), ("_law_rest", 9)]) (js := [8, 9]) rfl nd (blkOk_by (N := ["_law_ontology_here", "_law_concept_here", "_law_result", "_law_position", "_law_axiom_here", "_law_item", "_law_count", "_law_to", "_law_known", "_law_rest"]) (sc := defScope s_law_rounds) (by decide +kernel)) rfl (pdi_val (pd_var 2)) (tgr_tup (tgsr_cons (tgr_name (by decide)) (tgsr_cons (tgr_name (by decide)) tgsr_nil))) (fun _ _ _ _ _ => (pg_tup (n := 2) rfl (pgs_cons (pg_name (i := 8) nd rfl (Or.inl rfl)) (pgs_cons (pg_name (i := 9) nd rfl (Or.inl rfl)) pgs_nil)))) (fun _ _ _ _ _ => pdts_nil) (fun _ _ _ _ _ => (pd_var 8))) (by rfl))))) (pdb_one (pds_expr (pd_app (pd_var 2) (pd_tup (pda_cons (pd_var 7) (pda_cons (pd_op op_add4 opr_add nox_add (pd_var 6) pd_int) pda_nil))) (fun _ _ a b => pe_bm PySem.F.plainAttrs_list PySem.F.slot_list_append PySem.F.type_list_append mt_append a b)))) pdb_nil))))
      (pdb_one (pds_set (i := 3) nd rfl (by first | exact Or.inl rfl | exact Or.inr rfl) (pd_op op_add4 opr_add nox_add (pd_var 3) pd_int))))))
      (pdb_one (pds_ret (pd_callTy (call_dictP rfl (hu65 hr)) clr_dictP nox_dictP (by rfl) f_dict (by decide +kernel) (pda_cons (pd_var 2) pda_nil)))))))

/-! ### _law_leads -/
abbrev s_law_leads : Stmt := top 40
def b_law_leads : FS := (fSeq (fIfS (fOrT (fNotT (fTest (fIsi "list" (fVar 3)))) (fTest (fOp opGt (fCB opLen (fCons (fVar 3) fNil)) (fC (.int 40))))) (fRet (fC (.bl false))) fNext)
      (fSeq (fSet 4 (fVar 1))
      (fSeq (fFor (fVar 3) 5 (fSeq (fIfS (fOrT (fNotT (fTest (fIsi "int" (fVar 5)))) (fOrT (fTest (fIsi "bool" (fVar 5))) (fNotT (fTest (fChain opLe opLt (fC (.int 0)) (fVar 5) (fCB opLen (fCons (fVar 0) fNil))))))) (fRet (fC (.bl false))) fNext)
      (fSeq (fSet 4 (fCB d_law_successor (fCons (fOp opIx (fVar 0) (fVar 5)) (fCons (fVar 4) (fCons (fC (.bl false)) fNil)))))
      (fIfS (fTest (fOp opIsN (fVar 4) (fC .non))) (fRet (fC (.bl false))) fNext))))
      (fRet (fOp opEqD (fVar 4) (fVar 2))))))
def d_law_leads : OC := mkF 4 6 b_law_leads
theorem sc_law_leads : FnScope ["_law_ontology_here", "_law_one", "_law_other", "_law_value", "_law_position", "_law_index"] ["_law_ontology_here", "_law_one", "_law_other", "_law_value"] (defScope s_law_leads) := ⟨rfl, rfl, rfl, by decide +kernel, rfl, by decide +kernel, by decide +kernel⟩
theorem kn_law_leads {P : Program} {w : World} {K : PySem.W.Frag} {mg : Str → Option Value} {base : Heap} {f : Addr} {fd : FuncData} (Fn : FunD K "_law_leads" "_law_leads" (defArgs s_law_leads) (defBody s_law_leads) (defScope s_law_leads) [] [] f fd) (hm : mg "_law_leads" = some (.ref f)) (f_isinstance : mg "isinstance" = none) (f_list : mg "list" = none) (f_len : mg "len" = none) (f_int : mg "int" = none) (f_bool : mg "bool" = none) (k_law_successor : Kn P w K mg base (EXc K) "_law_successor" 1 ["_law_axiom_here", "_law_concept_here", "_law_tied"] d_law_successor) :
    Kn P w K mg base (EXc K) "_law_leads" 2 ["_law_ontology_here", "_law_one", "_law_other", "_law_value"] d_law_leads := by
  refine kn_of Fn hm (Fn.bindsN fun _ _ _ _ _ _ us hl => match us, hl with | [_, _, _, _], _ => rfl) sc_law_leads rfl fun cdv A ou s H E hgd hr => ?_
  have nd := sc_law_leads.nd
  have hgd : (cxOf (L2.CX P w) P w K mg base ["_law_ontology_here", "_law_one", "_law_other", "_law_value", "_law_position", "_law_index"] "_law_leads" (defScope s_law_leads) f cdv A ou s H E).A.guards = some [] := hgd
  have tk : Takes (cxOf (L2.CX P w) P w K mg base ["_law_ontology_here", "_law_one", "_law_other", "_law_value", "_law_position", "_law_index"] "_law_leads" (defScope s_law_leads) f cdv A ou s H E) (fun cls d _ H => E cls d H) := takes_of rfl rfl rfl rfl
  have hpo : PassesOwn (model P w) (cxOf (L2.CX P w) P w K mg base ["_law_ontology_here", "_law_one", "_law_other", "_law_value", "_law_position", "_law_index"] "_law_leads" (defScope s_law_leads) f cdv A ou s H E).A (cxOf (L2.CX P w) P w K mg base ["_law_ontology_here", "_law_one", "_law_other", "_law_value", "_law_position", "_law_index"] "_law_leads" (defScope s_law_leads) f cdv A ou s H E).env (cxOf (L2.CX P w) P w K mg base ["_law_ontology_here", "_law_one", "_law_other", "_law_value", "_law_position", "_law_index"] "_law_leads" (defScope s_law_leads) f cdv A ou s H E).xe := passes_of rfl
  exact (pdb_cons (pds_if (PW.pt (pdw_or (pdt_not (pdt_val (pd_isi (T := "list") (pd_var 3) rfl f_isinstance rfl f_list (by decide +kernel)))) (pdw_or1 (pdt_cmp op_gt opr_I0b nox_I (pd_callB call_len clr_len nox_len (by rfl) f_len PySem.boot_len (pda_cons (pd_var 3) pda_nil)) pd_int (nomark _))))) (pdb_one (pds_ret pd_bl)) pdb_nil)
      (pdb_cons (pds_set (i := 4) nd rfl (by first | exact Or.inl rfl | exact Or.inr rfl) (pd_var 1))
      (pdb_cons (pds_for (j := 5) hpo rfl nd rfl (by first | exact Or.inl rfl | exact Or.inr rfl) (pd_var 3) (pdb_cons (pds_if (PW.pt (pdw_or (pdt_not (pdt_val (pd_isi (T := "int") (pd_var 5) rfl f_isinstance rfl f_int (by decide +kernel)))) (pdw_or (pdt_val (pd_isi (T := "bool") (pd_var 5) rfl f_isinstance rfl f_bool (by decide +kernel))) (pdw_or1 (pdt_not (pdt_chain op_le opr_I0b nox_I op_lt opr_I0b nox_I pd_int (pd_var 5) (pd_callB call_len clr_len nox_len (by rfl) f_len PySem.boot_len (pda_cons (pd_var 0) pda_nil)))))))) (pdb_one (pds_ret pd_bl)) pdb_nil)
      (pdb_cons (pds_set (i := 4) nd rfl (by first | exact Or.inl rfl | exact Or.inr rfl) (pd_callK k_law_successor hgd (hr.mono (by decide)) rfl tk (pda_cons (pd_ix (pd_var 0) (pd_var 5)) (pda_cons (pd_var 4) (pda_cons pd_bl pda_nil)))))
      (pdb_one (pds_if (pdt_cmp op_isN' opr_isN nox_isN (pd_var 4) pd_non (nomark _)) (pdb_one (pds_ret pd_bl)) pdb_nil)))))
      (pdb_one (pds_ret (pd_cmp (op_eq2 hr.units) opr_eq2 nox_eq2 (pd_var 4) (pd_var 2) (nomark _)))))))

/-! ### _law_mutated -/
abbrev s_law_mutated : Stmt := top 41
def b_law_mutated : FS := (fSeq (fSet 3 (fCB d_law_draw (fCons (fVar 0) (fCons (fOp opAdd (fCB opLen (fCons (fVar 1) fNil)) (fC (.int 1))) fNil))))
      (fSeq (fSet 4 (fCB d_law_choose (fCons (fVar 0) (fCons (fLst (fCons (fC .non) (fCons (fC (.bl true)) (fCons (fC (.bl false)) (fCons (fC (.str "0")) (fCons (fNeg (fC (.int 1))) (fCons (fVar 2) (fCons (fLst (fCons (fC (.int 0)) fNil)) (fCons (fOp opPow (fC (.int 10)) (fC (.int 20))) (fCons (fCB d_law_draw (fCons (fVar 0) (fCons (fOp opAdd (fVar 2) (fC (.int 1))) fNil))) fNil)))))))))) fNil))))
      (fSeq (fSet 5 (fCB d_law_draw (fCons (fVar 0) (fCons (fC (.int 5)) fNil))))
      (fSeq (fIfS (fTest (fOp opEqD (fVar 5) (fC (.int 0)))) (fRet (fCB opTuple (fCons (fVar 1) fNil))) fNext)
      (fSeq (fIfS (fTest (fOp opEqD (fVar 5) (fC (.int 1)))) (fRet (fOp opAdd (fSl (fVar 1) fNoPart (fPart (fVar 3))) (fSl (fVar 1) (fPart (fOp opAdd (fVar 3) (fC (.int 1)))) fNoPart))) fNext)
      (fSeq (fIfS (fTest (fOp opEqD (fVar 5) (fC (.int 2)))) (fRet (fOp opAdd (fOp opAdd (fSl (fVar 1) fNoPart (fPart (fVar 3))) (fLst (fCons (fCB d_law_draw (fCons (fVar 0) (fCons (fOp opAdd (fVar 2) (fC (.int 1))) fNil))) fNil))) (fSl (fVar 1) (fPart (fVar 3)) fNoPart))) fNext)
      (fRet (fOp opAdd (fOp opAdd (fSl (fVar 1) fNoPart (fPart (fVar 3))) (fLst (fCons (fVar 4) fNil))) (fSl (fVar 1) (fPart (fOp opAdd (fVar 3) (fC (.int 1)))) fNoPart)))))))))
def d_law_mutated : OC := mkF 3 6 b_law_mutated
theorem sc_law_mutated : FnScope ["_law_stream_here", "_law_value", "_law_count", "_law_position", "_law_odd", "_law_choice"] ["_law_stream_here", "_law_value", "_law_count"] (defScope s_law_mutated) := ⟨rfl, rfl, rfl, by decide +kernel, rfl, by decide +kernel, by decide +kernel⟩
theorem kn_law_mutated {P : Program} {w : World} {K : PySem.W.Frag} {mg : Str → Option Value} {base : Heap} {f : Addr} {fd : FuncData} (Fn : FunD K "_law_mutated" "_law_mutated" (defArgs s_law_mutated) (defBody s_law_mutated) (defScope s_law_mutated) [] [] f fd) (hm : mg "_law_mutated" = some (.ref f)) (f_len : mg "len" = none) (f_tuple : mg "tuple" = none) (k_law_draw : Kn P w K mg base (EXc K) "_law_draw" 1 ["_law_stream_here", "_law_count"] d_law_draw) (k_law_choose : Kn P w K mg base (EXc K) "_law_choose" 2 ["_law_stream_here", "_law_items"] d_law_choose) :
    Kn P w K mg base (EXc K) "_law_mutated" 3 ["_law_stream_here", "_law_value", "_law_count"] d_law_mutated := by
  refine kn_of Fn hm (Fn.bindsN fun _ _ _ _ _ _ us hl => match us, hl with | [_, _, _], _ => rfl) sc_law_mutated rfl fun cdv A ou s H E hgd hr => ?_
  have nd := sc_law_mutated.nd
  have hgd : (cxOf (L2.CX P w) P w K mg base ["_law_stream_here", "_law_value", "_law_count", "_law_position", "_law_odd", "_law_choice"] "_law_mutated" (defScope s_law_mutated) f cdv A ou s H E).A.guards = some [] := hgd
  have tk : Takes (cxOf (L2.CX P w) P w K mg base ["_law_stream_here", "_law_value", "_law_count", "_law_position", "_law_odd", "_law_choice"] "_law_mutated" (defScope s_law_mutated) f cdv A ou s H E) (fun cls d _ H => E cls d H) := takes_of rfl rfl rfl rfl
  have hpo : PassesOwn (model P w) (cxOf (L2.CX P w) P w K mg base ["_law_stream_here", "_law_value", "_law_count", "_law_position", "_law_odd", "_law_choice"] "_law_mutated" (defScope s_law_mutated) f cdv A ou s H E).A (cxOf (L2.CX P w) P w K mg base ["_law_stream_here", "_law_value", "_law_count", "_law_position", "_law_odd", "_law_choice"] "_law_mutated" (defScope s_law_mutated) f cdv A ou s H E).env (cxOf (L2.CX P w) P w K mg base ["_law_stream_here", "_law_value", "_law_count", "_law_position", "_law_odd", "_law_choice"] "_law_mutated" (defScope s_law_mutated) f cdv A ou s H E).xe := passes_of rfl
  exact (pdb_cons (pds_set (i := 3) nd rfl (by first | exact Or.inl rfl | exact Or.inr rfl) (pd_callK k_law_draw hgd (hr.mono (by decide)) rfl tk (pda_cons (pd_var 0) (pda_cons (pd_op op_add4 opr_add nox_add (pd_callB call_len clr_len nox_len (by rfl) f_len PySem.boot_len (pda_cons (pd_var 1) pda_nil)) pd_int) pda_nil))))
      (pdb_cons (pds_set (i := 4) nd rfl (by first | exact Or.inl rfl | exact Or.inr rfl) (pd_callK k_law_choose hgd (hr.mono (by decide)) rfl tk (pda_cons (pd_var 0) (pda_cons (pd_lst (pda_cons pd_non (pda_cons pd_bl (pda_cons pd_bl (pda_cons pd_str (pda_cons (pd_neg pd_int) (pda_cons (pd_var 2) (pda_cons (pd_lst (pda_cons pd_int pda_nil)) (pda_cons (pd_op op_pow (opr_Ii cPow_ok) nox_I pd_int pd_int) (pda_cons (pd_callK k_law_draw hgd (hr.mono (by decide)) rfl tk (pda_cons (pd_var 0) (pda_cons (pd_op op_add4 opr_add nox_add (pd_var 2) pd_int) pda_nil))) pda_nil)))))))))) pda_nil))))
      (pdb_cons (pds_set (i := 5) nd rfl (by first | exact Or.inl rfl | exact Or.inr rfl) (pd_callK k_law_draw hgd (hr.mono (by decide)) rfl tk (pda_cons (pd_var 0) (pda_cons pd_int pda_nil))))
      (pdb_cons (pds_if (pdt_cmp (op_eq2 hr.units) opr_eq2 nox_eq2 (pd_var 5) pd_int (nomark _)) (pdb_one (pds_ret (pd_callTy call_tuple_of clr_tuple nox_tuple (by rfl) f_tuple (by decide +kernel) (pda_cons (pd_var 1) pda_nil)))) pdb_nil)
      (pdb_cons (pds_if (pdt_cmp (op_eq2 hr.units) opr_eq2 nox_eq2 (pd_var 5) pd_int (nomark _)) (pdb_one (pds_ret (pd_op op_add4 opr_add nox_add (pd_sl (pd_var 1) pdo_none (pdo_some (pd_var 3))) (pd_sl (pd_var 1) (pdo_some (pd_op op_add4 opr_add nox_add (pd_var 3) pd_int)) pdo_none)))) pdb_nil)
      (pdb_cons (pds_if (pdt_cmp (op_eq2 hr.units) opr_eq2 nox_eq2 (pd_var 5) pd_int (nomark _)) (pdb_one (pds_ret (pd_op op_add4 opr_add nox_add (pd_op op_add4 opr_add nox_add (pd_sl (pd_var 1) pdo_none (pdo_some (pd_var 3))) (pd_lst (pda_cons (pd_callK k_law_draw hgd (hr.mono (by decide)) rfl tk (pda_cons (pd_var 0) (pda_cons (pd_op op_add4 opr_add nox_add (pd_var 2) pd_int) pda_nil))) pda_nil))) (pd_sl (pd_var 1) (pdo_some (pd_var 3)) pdo_none)))) pdb_nil)
      (pdb_one (pds_ret (pd_op op_add4 opr_add nox_add (pd_op op_add4 opr_add nox_add (pd_sl (pd_var 1) pdo_none (pdo_some (pd_var 3))) (pd_lst (pda_cons (pd_var 4) pda_nil))) (pd_sl (pd_var 1) (pdo_some (pd_op op_add4 opr_add nox_add (pd_var 3) pd_int)) pdo_none))))))))))

/-! ### _law_limit_holds -/
abbrev s_law_limit_holds : Stmt := top 42
def b_law_limit_holds : FS := (fSeq (fPar 0 1 (fCons (fLst (fCons (fTup (fCons (fC (.str "subclass")) (fCons (fTup (fCons (fC (.str "concept")) (fCons (fC (.str "a")) fNil))) (fCons (fTup (fCons (fC (.str "concept")) (fCons (fC (.str "a")) fNil))) fNil)))) fNil)) (fCons (fTup (fCons (fC (.str "concept")) (fCons (fC (.str "a")) fNil))) fNil)))
      (fRet (fAnd (fCB (fun ws => d_is_chain (ws ++ [(.bl false)])) (fCons (fVar 0) (fCons (fVar 1) (fCons (fVar 1) (fCons (fOp opRepL (fLst (fCons (fC (.int 0)) fNil)) (fC (.int 40))) fNil))))) (fNot (fCB (fun ws => d_is_chain (ws ++ [(.bl false)])) (fCons (fVar 0) (fCons (fVar 1) (fCons (fVar 1) (fCons (fOp opRepL (fLst (fCons (fC (.int 0)) fNil)) (fC (.int 41))) fNil)))))))))
def d_law_limit_holds : OC := mkF 0 2 b_law_limit_holds
theorem sc_law_limit_holds : FnScope ["_law_loop", "_law_concept_here"] [] (defScope s_law_limit_holds) := ⟨rfl, rfl, rfl, by decide +kernel, rfl, by decide +kernel, by decide +kernel⟩
theorem kn_law_limit_holds {P : Program} {w : World} {K : PySem.W.Frag} {mg : Str → Option Value} {base : Heap} {f : Addr} {fd : FuncData} (Fn : FunD K "_law_limit_holds" "_law_limit_holds" (defArgs s_law_limit_holds) (defBody s_law_limit_holds) (defScope s_law_limit_holds) [] [] f fd) (hm : mg "_law_limit_holds" = some (.ref f)) (kd1_is_chain : KnD P w K mg base (EXc K) "is_chain" 8 ["ontology", "one", "other", "candidate", "roles_only"] d_is_chain [(.bl false)]) :
    Kn P w K mg base (EXc K) "_law_limit_holds" 9 [] d_law_limit_holds := by
  refine kn_of Fn hm (Fn.bindsN fun _ _ _ _ _ _ us hl => match us, hl with | [], _ => rfl) sc_law_limit_holds rfl fun cdv A ou s H E hgd hr => ?_
  have nd := sc_law_limit_holds.nd
  have hgd : (cxOf (L2.CX P w) P w K mg base ["_law_loop", "_law_concept_here"] "_law_limit_holds" (defScope s_law_limit_holds) f cdv A ou s H E).A.guards = some [] := hgd
  have tk : Takes (cxOf (L2.CX P w) P w K mg base ["_law_loop", "_law_concept_here"] "_law_limit_holds" (defScope s_law_limit_holds) f cdv A ou s H E) (fun cls d _ H => E cls d H) := takes_of rfl rfl rfl rfl
  have hpo : PassesOwn (model P w) (cxOf (L2.CX P w) P w K mg base ["_law_loop", "_law_concept_here"] "_law_limit_holds" (defScope s_law_limit_holds) f cdv A ou s H E).A (cxOf (L2.CX P w) P w K mg base ["_law_loop", "_law_concept_here"] "_law_limit_holds" (defScope s_law_limit_holds) f cdv A ou s H E).env (cxOf (L2.CX P w) P w K mg base ["_law_loop", "_law_concept_here"] "_law_limit_holds" (defScope s_law_limit_holds) f cdv A ou s H E).xe := passes_of rfl
  exact (pdb_cons (pds_par (i := 0) (j := 1) rfl nd rfl rfl (by decide) rfl rfl (pda_cons (pd_lst (pda_cons (pd_tup (pda_cons pd_str (pda_cons (pd_tup (pda_cons pd_str (pda_cons pd_str pda_nil))) (pda_cons (pd_tup (pda_cons pd_str (pda_cons pd_str pda_nil))) pda_nil)))) pda_nil)) (pda_cons (pd_tup (pda_cons pd_str (pda_cons pd_str pda_nil))) pda_nil)))
      (pdb_one (pds_ret (pd_and (pd_callD kd1_is_chain hgd (hr.mono (by decide)) rfl tk (pda_cons (pd_var 0) (pda_cons (pd_var 1) (pda_cons (pd_var 1) (pda_cons (pd_op op_rep opr_repL nox_repL (pd_lst (pda_cons pd_int pda_nil)) pd_int) pda_nil))))) (pd_one (pd_not (pd_callD kd1_is_chain hgd (hr.mono (by decide)) rfl tk (pda_cons (pd_var 0) (pda_cons (pd_var 1) (pda_cons (pd_var 1) (pda_cons (pd_op op_rep opr_repL nox_repL (pd_lst (pda_cons pd_int pda_nil)) pd_int) pda_nil)))))))))))

/-! ### law -/
abbrev s_law : Stmt := top 43
def b_law : FS := (fSeq (fIfS (fNotT (fTest (fCB d_law_limit_holds fNil))) (fRet (fC (.bl false))) fNext)
      (fSeq (fSet 1 (fLst (fCons (fC (.str "subclass")) (fCons (fC (.str "subclass")) (fCons (fC (.str "subclass")) (fCons (fC (.str "subclass")) (fCons (fC (.str "subrole")) (fCons (fC (.str "subrole_inverse")) (fCons (fC (.str "disjoint")) fNil)))))))))
      (fSeq (fForR rng1 (fCons (fCB opMax2 (fCons (fC (.int 1)) (fCons (fCB opMin2 (fCons (fC (.int 8)) (fCons (fCB opLen (fCons (fVar 0) fNil)) fNil))) fNil))) fNil) 2 (fSeq (fSet 3 (fCB d_law_stream (fCons (fVar 0) (fCons (fVar 2) fNil))))
      (fSeq (fSet 4 (fCB d_law_names (fCons (fVar 3) fNil)))
      (fSeq (fSet 5 (fCB d_law_ontology (fCons (fVar 3) (fCons (fVar 4) (fCons (fVar 1) (fCons (fC (.int 12)) fNil))))))
      (fSeq (fIfS (fTest (fOp opEqD (fCB d_law_draw (fCons (fVar 3) (fCons (fC (.int 2)) fNil))) (fC (.int 0)))) (fSet 5 (fCB opTuple (fCons (fVar 5) fNil))) fNext)
      (fSeq (fSet 6 (fOp opAdd (fLc (fOp opIx (fVar 4) (fC (.int 0))) 13 fYes (fTup (fCons (fC (.str "concept")) (fCons (fVar 13) fNil)))) (fLc (fOp opIx (fVar 4) (fC (.int 1))) 13 fYes (fTup (fCons (fC (.str "out")) (fCons (fVar 13) fNil))))))
      (fSeq (fSet 6 (fOp opAdd (fVar 6) (fLc (fOp opIx (fVar 4) (fC (.int 1))) 13 fYes (fTup (fCons (fC (.str "in")) (fCons (fVar 13) fNil))))))
      (fSeq (fFor (fVar 6) 7 (fSeq (fSet 9 (fCB d_law_rounds (fCons (fVar 5) (fCons (fVar 7) fNil))))
      (fFor (fVar 6) 10 (fSeq (fSet 11 (fCB (fun ws => d_find_chain (ws ++ [(.bl false)])) (fCons (fVar 5) (fCons (fVar 7) (fCons (fVar 10) fNil)))))
      (fSeq (fIfS (fOrT (fTest (fOp opNeD (fOp opIsN (fVar 11) (fC .non)) (fOp opNotInD (fVar 10) (fVar 9)))) (fTest (fOp opNeD (fCB (fun ws => d_find_chain (ws ++ [(.bl false)])) (fCons (fVar 5) (fCons (fVar 7) (fCons (fVar 10) fNil)))) (fVar 11)))) (fRet (fC (.bl false))) fNext)
      (fSeq (fIfS (fTest (fOp opNotN (fVar 11) (fC .non))) (fSeq (fIfS (fOrT (fTest (fOp opNeD (fCB opLen (fCons (fVar 11) fNil)) (fOp opIxD (fVar 9) (fVar 10)))) (fNotT (fTest (fCB d_law_leads (fCons (fVar 5) (fCons (fVar 7) (fCons (fVar 10) (fCons (fVar 11) fNil)))))))) (fRet (fC (.bl false))) fNext)
      (fIfS (fTest (fOp opNotB (fCB (fun ws => d_is_chain (ws ++ [(.bl false)])) (fCons (fVar 5) (fCons (fVar 7) (fCons (fVar 10) (fCons (fVar 11) fNil))))) (fC (.bl true)))) (fRet (fC (.bl false))) fNext)) fNext)
      (fSeq (fSet 12 (fCB d_law_mutated (fCons (fVar 3) (fCons (fIf (fTest (fOp opIsN (fVar 11) (fC .non))) (fLst fNil) (fCB opList (fCons (fVar 11) fNil))) (fCons (fCB opLen (fCons (fVar 5) fNil)) fNil)))))
      (fIfS (fTest (fOp opNeD (fCB (fun ws => d_is_chain (ws ++ [(.bl false)])) (fCons (fVar 5) (fCons (fVar 7) (fCons (fVar 10) (fCons (fVar 12) fNil))))) (fCB d_law_leads (fCons (fVar 5) (fCons (fVar 7) (fCons (fVar 10) (fCons (fVar 12) fNil))))))) (fRet (fC (.bl false))) fNext))))))))
      (fFor (fLst (fCons (fC .non) (fCons (fTup fNil) (fCons fEmp (fCons (fC (.str "")) (fCons (fC (.int 0)) (fCons (fLst (fCons (fC .non) fNil)) (fCons (fLst (fCons (fLst fNil) fNil)) (fCons (fLst (fCons (fC (.str "0")) fNil)) (fCons (fLst (fCons (fC (.bl true)) fNil)) (fCons (fOp opRepL (fLst (fCons (fC (.int 0)) fNil)) (fC (.int 41))) fNil))))))))))) 8 (fSeq (fUnpA (fSl (fVar 6) fNoPart (fPart (fC (.int 2)))) 2 (tgC (tgN 7) (tgC (tgN 10) tg0)))
      (fIfS (fTest (fOp opNeD (fCB (fun ws => d_is_chain (ws ++ [(.bl false)])) (fCons (fVar 5) (fCons (fVar 7) (fCons (fVar 10) (fCons (fVar 8) fNil))))) (fCB d_law_leads (fCons (fVar 5) (fCons (fVar 7) (fCons (fVar 10) (fCons (fVar 8) fNil))))))) (fRet (fC (.bl false))) fNext)))))))))))
      (fRet (fC (.bl true))))))
def d_law : OC := mkF 1 14 b_law
theorem sc_law : FnScope ["_law_script", "_law_menu", "_law_k", "_law_stream_here", "_law_names_here", "_law_ontology_here", "_law_concepts", "_law_one", "_law_value", "_law_count", "_law_other", "_law_result", "_law_mutated_here", "_law_name"] ["_law_script"] (defScope s_law) := ⟨rfl, rfl, rfl, by decide +kernel, rfl, by decide +kernel, by decide +kernel⟩
theorem fl_law {P : Program} {w : World} {K : PySem.W.Frag} {mg : Str → Option Value} {base : Heap} {f : Addr} {fd : FuncData} (Fn : FunD K "law" "law" (defArgs s_law) (defBody s_law) (defScope s_law) [] [] f fd) (hm : mg "law" = some (.ref f)) (f_len : mg "len" = none) (f_min : mg "min" = none) (f_max : mg "max" = none) (f_tuple : mg "tuple" = none) (f_list : mg "list" = none) (f_range : mg "range" = none) (k_law_limit_holds : Kn P w K mg base (EXc K) "_law_limit_holds" 9 [] d_law_limit_holds) (k_law_stream : Kn P w K mg base (EXc K) "_law_stream" 1 ["_law_script", "_law_k"] d_law_stream) (k_law_names : Kn P w K mg base (EXc K) "_law_names" 2 ["_law_stream_here"] d_law_names) (k_law_ontology : Kn P w K mg base (EXc K) "_law_ontology" 5 ["_law_stream_here", "_law_names_here", "_law_menu", "_law_most"] d_law_ontology) (k_law_draw : Kn P w K mg base (EXc K) "_law_draw" 1 ["_law_stream_here", "_law_count"] d_law_draw) (k_law_rounds : Kn P w K mg base (EXc K) "_law_rounds" 2 ["_law_ontology_here", "_law_concept_here"] d_law_rounds) (k_law_leads : Kn P w K mg base (EXc K) "_law_leads" 2 ["_law_ontology_here", "_law_one", "_law_other", "_law_value"] d_law_leads) (k_law_mutated : Kn P w K mg base (EXc K) "_law_mutated" 3 ["_law_stream_here", "_law_value", "_law_count"] d_law_mutated) (kd1_find_chain : KnD P w K mg base (EXc K) "find_chain" 9 ["ontology", "one", "other", "roles_only"] d_find_chain [(.bl false)]) (kd1_is_chain : KnD P w K mg base (EXc K) "is_chain" 8 ["ontology", "one", "other", "candidate", "roles_only"] d_is_chain [(.bl false)]) :
    FnG P w K mg base 10 f fd ["_law_script"] (spI w K (EXc K) d_law) := by
  refine fnJ_of Fn sc_law rfl fun cdv A ou s H E hgd hr => ?_
  have nd := sc_law.nd
  have hgd : (cxOf (L2.CX P w) P w K mg base ["_law_script", "_law_menu", "_law_k", "_law_stream_here", "_law_names_here", "_law_ontology_here", "_law_concepts", "_law_one", "_law_value", "_law_count", "_law_other", "_law_result", "_law_mutated_here", "_law_name"] "law" (defScope s_law) f cdv A ou s H E).A.guards = some [] := hgd
  have tk : Takes (cxOf (L2.CX P w) P w K mg base ["_law_script", "_law_menu", "_law_k", "_law_stream_here", "_law_names_here", "_law_ontology_here", "_law_concepts", "_law_one", "_law_value", "_law_count", "_law_other", "_law_result", "_law_mutated_here", "_law_name"] "law" (defScope s_law) f cdv A ou s H E) (fun cls d _ H => E cls d H) := takes_of rfl rfl rfl rfl
  have hpo : PassesOwn (model P w) (cxOf (L2.CX P w) P w K mg base ["_law_script", "_law_menu", "_law_k", "_law_stream_here", "_law_names_here", "_law_ontology_here", "_law_concepts", "_law_one", "_law_value", "_law_count", "_law_other", "_law_result", "_law_mutated_here", "_law_name"] "law" (defScope s_law) f cdv A ou s H E).A (cxOf (L2.CX P w) P w K mg base ["_law_script", "_law_menu", "_law_k", "_law_stream_here", "_law_names_here", "_law_ontology_here", "_law_concepts", "_law_one", "_law_value", "_law_count", "_law_other", "_law_result", "_law_mutated_here", "_law_name"] "law" (defScope s_law) f cdv A ou s H E).env (cxOf (L2.CX P w) P w K mg base ["_law_script", "_law_menu", "_law_k", "_law_stream_here", "_law_names_here", "_law_ontology_here", "_law_concepts", "_law_one", "_law_value", "_law_count", "_law_other", "_law_result", "_law_mutated_here", "_law_name"] "law" (defScope s_law) f cdv A ou s H E).xe := passes_of rfl
  exact (pdb_cons (pds_if (pdt_not (pdt_val (pd_callK0 k_law_limit_holds hgd (hr.mono (by decide)) rfl tk))) (pdb_one (pds_ret pd_bl)) pdb_nil)
      (pdb_cons (pds_set (i := 1) nd rfl (by first | exact Or.inl rfl | exact Or.inr rfl) (pd_lst (pda_cons pd_str (pda_cons pd_str (pda_cons pd_str (pda_cons pd_str (pda_cons pd_str (pda_cons pd_str (pda_cons pd_str pda_nil)))))))))
      (pdb_cons (pds_forR1 (j := 2) hpo rfl nd rfl (by first | exact Or.inl rfl | exact Or.inr rfl) rfl f_range (pda_cons (pd_callB (call_max2 rfl) clr_max nox_max (by rfl) f_max (by decide +kernel) (pda_cons pd_int (pda_cons (pd_callB (call_min2 rfl) clr_min nox_min (by rfl) f_min (by decide +kernel) (pda_cons pd_int (pda_cons (pd_callB call_len clr_len nox_len (by rfl) f_len PySem.boot_len (pda_cons (pd_var 0) pda_nil)) pda_nil))) pda_nil))) pda_nil) (pdb_cons (pds_set (i := 3) nd rfl (by first | exact Or.inl rfl | exact Or.inr rfl) (pd_callK k_law_stream hgd (hr.mono (by decide)) rfl tk (pda_cons (pd_var 0) (pda_cons (pd_var 2) pda_nil))))
      (pdb_cons (pds_set (i := 4) nd rfl (by first | exact Or.inl rfl | exact Or.inr rfl) (pd_callK k_law_names hgd (hr.mono (by decide)) rfl tk (pda_cons (pd_var 3) pda_nil)))
      (pdb_cons (pds_set (i := 5) nd rfl (by first | exact Or.inl rfl | exact Or.inr rfl) (pd_callK k_law_ontology hgd (hr.mono (by decide)) rfl tk (pda_cons (pd_var 3) (pda_cons (pd_var 4) (pda_cons (pd_var 1) (pda_cons pd_int pda_nil))))))
      (pdb_cons (pds_if (pdt_cmp (op_eq2 hr.units) opr_eq2 nox_eq2 (pd_callK k_law_draw hgd (hr.mono (by decide)) rfl tk (pda_cons (pd_var 3) (pda_cons pd_int pda_nil))) pd_int (nomark _)) (pdb_one (pds_set (i := 5) nd rfl (by first | exact Or.inl rfl | exact Or.inr rfl) (pd_callTy call_tuple_of clr_tuple nox_tuple (by rfl) f_tuple (by decide +kernel) (pda_cons (pd_var 5) pda_nil)))) pdb_nil)
      (pdb_cons (pds_set (i := 6) nd rfl (by first | exact Or.inl rfl | exact Or.inr rfl) (pd_op op_add4 opr_add nox_add (pd_lc rfl nd (blkOk_by (N := ["_law_script", "_law_menu", "_law_k", "_law_stream_here", "_law_names_here", "_law_ontology_here", "_law_concepts", "_law_one", "_law_value", "_law_count", "_law_other", "_law_result", "_law_mutated_here", "_law_name"]) (sc := defScope s_law) (by decide +kernel)) (pd_ix (pd_var 4) pd_int) (fun _ _ _ _ _ => pg_name (i := 13) nd rfl (Or.inl rfl)) (fun _ _ _ _ _ => pdts_nil) (fun _ _ _ _ _ => (pd_tup (pda_cons pd_str (pda_cons (pd_var 13) pda_nil))))) (pd_lc rfl nd (blkOk_by (N := ["_law_script", "_law_menu", "_law_k", "_law_stream_here", "_law_names_here", "_law_ontology_here", "_law_concepts", "_law_one", "_law_value", "_law_count", "_law_other", "_law_result", "_law_mutated_here", "_law_name"]) (sc := defScope s_law) (by decide +kernel)) (pd_ix (pd_var 4) pd_int) (fun _ _ _ _ _ => pg_name (i := 13) nd rfl (Or.inl rfl)) (fun _ _ _ _ _ => pdts_nil) (fun _ _ _ _ _ => (pd_tup (pda_cons pd_str (pda_cons (pd_var 13) pda_nil)))))))
      (pdb_cons (pds_set (i := 6) nd rfl (by first | exact Or.inl rfl | exact Or.inr rfl) (pd_op op_add4 opr_add nox_add (pd_var 6) (pd_lc rfl nd (blkOk_by (N := ["_law_script", "_law_menu", "_law_k", "_law_stream_here", "_law_names_here", "_law_ontology_here", "_law_concepts", "_law_one", "_law_value", "_law_count", "_law_other", "_law_result", "_law_mutated_here", "_law_name"]) (sc := defScope s_law) (by decide +kernel)) (pd_ix (pd_var 4) pd_int) (fun _ _ _ _ _ => pg_name (i := 13) nd rfl (Or.inl rfl)) (fun _ _ _ _ _ => pdts_nil) (fun _ _ _ _ _ => (pd_tup (pda_cons pd_str (pda_cons (pd_var 13) pda_nil)))))))
      (pdb_cons (pds_for (j := 7) hpo rfl nd rfl (by first | exact Or.inl rfl | exact Or.inr rfl) (pd_var 6) (pdb_cons (pds_set (i := 9) nd rfl (by first | exact Or.inl rfl | exact Or.inr rfl) (pd_callK k_law_rounds hgd (hr.mono (by decide)) rfl tk (pda_cons (pd_var 5) (pda_cons (pd_var 7) pda_nil))))
      (pdb_one (pds_for (j := 10) hpo rfl nd rfl (by first | exact Or.inl rfl | exact Or.inr rfl) (pd_var 6) (pdb_cons (pds_set (i := 11) nd rfl (by first | exact Or.inl rfl | exact Or.inr rfl) (pd_callD kd1_find_chain hgd (hr.mono (by decide)) rfl tk (pda_cons (pd_var 5) (pda_cons (pd_var 7) (pda_cons (pd_var 10) pda_nil)))))
      (pdb_cons (pds_if (PW.pt (pdw_or (pdt_cmp (op_ne2 hr.units) opr_ne2 nox_ne2 (pd_cmp op_isN' opr_isN nox_isN (pd_var 11) pd_non (nomark _)) (pd_cmp (op_notIn3 (hu65 hr)) opr_notInD nox_notInD (pd_var 10) (pd_var 9) (by rfl)) (nomark _)) (pdw_or1 (pdt_cmp (op_ne2 hr.units) opr_ne2 nox_ne2 (pd_callD kd1_find_chain hgd (hr.mono (by decide)) rfl tk (pda_cons (pd_var 5) (pda_cons (pd_var 7) (pda_cons (pd_var 10) pda_nil)))) (pd_var 11) (nomark _))))) (pdb_one (pds_ret pd_bl)) pdb_nil)
      (pdb_cons (pds_if (pdt_cmp op_notN' opr_notN nox_notN (pd_var 11) pd_non (nomark _)) (pdb_cons (pds_if (PW.pt (pdw_or (pdt_cmp (op_ne2 hr.units) opr_ne2 nox_ne2 (pd_callB call_len clr_len nox_len (by rfl) f_len PySem.boot_len (pda_cons (pd_var 11) pda_nil)) (pd_ixD (hu65 hr) (pd_var 9) (pd_var 10)) (nomark _)) (pdw_or1 (pdt_not (pdt_val (pd_callK k_law_leads hgd (hr.mono (by decide)) rfl tk (pda_cons (pd_var 5) (pda_cons (pd_var 7) (pda_cons (pd_var 10) (pda_cons (pd_var 11) pda_nil)))))))))) (pdb_one (pds_ret pd_bl)) pdb_nil)
      (pdb_one (pds_if (pdt_cmp op_notBB opr_notB nox_notB (pd_callD kd1_is_chain hgd (hr.mono (by decide)) rfl tk (pda_cons (pd_var 5) (pda_cons (pd_var 7) (pda_cons (pd_var 10) (pda_cons (pd_var 11) pda_nil))))) pd_bl (nomark _)) (pdb_one (pds_ret pd_bl)) pdb_nil))) pdb_nil)
      (pdb_cons (pds_set (i := 12) nd rfl (by first | exact Or.inl rfl | exact Or.inr rfl) (pd_callK k_law_mutated hgd (hr.mono (by decide)) rfl tk (pda_cons (pd_var 3) (pda_cons (pd_if (pdt_cmp op_isN' opr_isN nox_isN (pd_var 11) pd_non (nomark _)) (pd_lst pda_nil) (pd_callTy call_list_of clr_list nox_list (by rfl) f_list (by decide +kernel) (pda_cons (pd_var 11) pda_nil))) (pda_cons (pd_callB call_len clr_len nox_len (by rfl) f_len PySem.boot_len (pda_cons (pd_var 5) pda_nil)) pda_nil)))))
      (pdb_one (pds_if (pdt_cmp (op_ne2 hr.units) opr_ne2 nox_ne2 (pd_callD kd1_is_chain hgd (hr.mono (by decide)) rfl tk (pda_cons (pd_var 5) (pda_cons (pd_var 7) (pda_cons (pd_var 10) (pda_cons (pd_var 12) pda_nil))))) (pd_callK k_law_leads hgd (hr.mono (by decide)) rfl tk (pda_cons (pd_var 5) (pda_cons (pd_var 7) (pda_cons (pd_var 10) (pda_cons (pd_var 12) pda_nil))))) (nomark _)) (pdb_one (pds_ret pd_bl)) pdb_nil))))))))))
      (pdb_one (pds_for (j := 8) hpo rfl nd rfl (by first | exact Or.inl rfl | exact Or.inr rfl) (pd_lst (pda_cons pd_non (pda_cons (pd_tup pda_nil) (pda_cons pd_emp (pda_cons pd_str (pda_cons pd_int (pda_cons (pd_lst (pda_cons pd_non pda_nil)) (pda_cons (pd_lst (pda_cons (pd_lst pda_nil) pda_nil)) (pda_cons (pd_lst (pda_cons pd_str pda_nil)) (pda_cons (pd_lst (pda_cons pd_bl pda_nil)) (pda_cons (pd_op op_rep opr_repL nox_repL (pd_lst (pda_cons pd_int pda_nil)) pd_int) pda_nil))))))))))) (pdb_cons (pds_unpA (js := [7, 10]) (n := 2) rfl (pd_sl (pd_var 6) pdo_none (pdo_some pd_int)) (pgs_cons (pg_name (i := 7) nd rfl (by first | exact Or.inl rfl | exact Or.inr rfl)) (pgs_cons (pg_name (i := 10) nd rfl (by first | exact Or.inl rfl | exact Or.inr rfl)) pgs_nil)) (tgsr_cons (tgr_name (by decide)) (tgsr_cons (tgr_name (by decide)) tgsr_nil)))
      (pdb_one (pds_if (pdt_cmp (op_ne2 hr.units) opr_ne2 nox_ne2 (pd_callD kd1_is_chain hgd (hr.mono (by decide)) rfl tk (pda_cons (pd_var 5) (pda_cons (pd_var 7) (pda_cons (pd_var 10) (pda_cons (pd_var 8) pda_nil))))) (pd_callK k_law_leads hgd (hr.mono (by decide)) rfl tk (pda_cons (pd_var 5) (pda_cons (pd_var 7) (pda_cons (pd_var 10) (pda_cons (pd_var 8) pda_nil))))) (nomark _)) (pdb_one (pds_ret pd_bl)) pdb_nil)))))))))))))
      (pdb_one (pds_ret pd_bl)))))

end K05

namespace K05
open PySem DI DV DV.Com

/-! ### consists_of -/
theorem vk_consists_of : VP false d_consists_of v_consists_of := vp_of rfl fun L0 X0 => (show VSj _ _ vb_consists_of from (vs_seq (vs_if (vj_orT (vj_notT (vj_test (vj_isi (vj_var).top))) (vj_notT (vj_test (vj_chain opv_le opv_le vj_c (vj_cb1 oc_len (vj_var).top) (vj_c (by rfl)))))) (vs_ret rfl vj_c) vs_next)
      (vs_ret rfl (vj_cb1 oc_all (((vj_lc vj_var vj_yes (vj_op opv_in vj_var (vj_var).top) (fun h => absurd h (by decide)))).old).top))))

/-! ### is_word -/
theorem vk_is_word : VP false d_is_word v_is_word := vp_of rfl fun L0 X0 => (show VSj _ _ vb_is_word from (vs_ret rfl (vj_call vk_consists_of (vj_cons vj_var (vj_cons (vj_c (by rfl)) vj_nil)))))

/-! ### is_integer -/
theorem vk_is_integer : VP false d_is_integer v_is_integer := vp_of rfl fun L0 X0 => (show VSj _ _ vb_is_integer from (vs_ret rfl (vj_and (vj_isi (vj_var).top) (vj_not (vj_isi (vj_var).top)))))

/-! ### is_index -/
theorem vk_is_index : VP false d_is_index v_is_index := vp_of rfl fun L0 X0 => (show VSj _ _ vb_is_index from (vs_ret rfl (vj_and (vj_call vk_is_integer (vj_cons vj_var vj_nil)) (vj_chain opv_le opv_lt vj_c vj_var vj_var))))

/-! ### tag_of -/
theorem vk_tag_of : VP false d_tag_of v_tag_of := vp_of rfl fun L0 X0 => (show VSj _ _ vb_tag_of from (vs_seq (vs_if (vj_orT (vj_notT (vj_test (vj_isi (vj_var).top))) (vj_test (vj_op opv_eq (vj_cb1 oc_len (vj_var).top) (vj_c).top))) (vs_ret rfl vj_c) vs_next)
      (vs_seq (vs_set (fun h => absurd h (by decide)) (vj_op opv_ix vj_var (vj_c).top))
      (vs_seq (vs_if (vj_andT (vj_test (vj_isi (vj_var).top)) (vj_test (vj_op opv_in (vj_tup (vj_cons vj_var (vj_cons (vj_cb1 oc_len (vj_var).top) vj_nil))) (vj_var).top))) (vs_ret rfl vj_var) vs_next)
      (vs_ret rfl vj_c)))))

/-! ### is_concept -/
theorem vk_is_concept : VP false d_is_concept v_is_concept := vp_of rfl fun L0 X0 => (show VSj _ _ vb_is_concept from (vs_ret rfl (vj_and (vj_op opv_notN (vj_call vk_tag_of (vj_cons vj_var (vj_cons (vj_c (by rfl)) vj_nil))) (vj_c).top) (vj_call vk_is_word (vj_cons (vj_op opv_ix vj_var (vj_c).top) vj_nil)))))

/-! ### is_direction -/
theorem vk_is_direction : VP false d_is_direction v_is_direction := vp_of rfl fun L0 X0 => (show VSj _ _ vb_is_direction from (vs_ret rfl (vj_and (vj_op opv_notN (vj_call vk_tag_of (vj_cons vj_var (vj_cons (vj_c (by rfl)) vj_nil))) (vj_c).top) (vj_call vk_is_word (vj_cons (vj_op opv_ix vj_var (vj_c).top) vj_nil)))))

/-! ### check_concept -/
theorem vk_check_concept : VP false d_check_concept v_check_concept := vp_of rfl fun L0 X0 => (show VSj _ _ vb_check_concept from (vs_if (vj_notT (vj_test (vj_call vk_is_concept (vj_cons vj_var vj_nil)))) vs_raise0 vs_next))

/-! ### check_direction -/
theorem vk_check_direction : VP false d_check_direction v_check_direction := vp_of rfl fun L0 X0 => (show VSj _ _ vb_check_direction from (vs_if (vj_notT (vj_test (vj_call vk_is_direction (vj_cons vj_var vj_nil)))) vs_raise0 vs_next))

/-! ### inverse -/
theorem vk_inverse : VP false d_inverse v_inverse := vp_of rfl fun L0 X0 => (show VSj _ _ vb_inverse from (vs_seq (vs_drop (vj_call vk_check_direction (vj_cons vj_var vj_nil)))
      (vs_ret rfl (vj_tup (vj_cons (vj_if (vj_test (vj_op opv_eq (vj_op opv_ix vj_var (vj_c).top) (vj_c).top)) vj_c vj_c) (vj_cons (vj_op opv_ix vj_var (vj_c).top) vj_nil))))))

/-! ### second_direction -/
theorem vk_second_direction : VP false d_second_direction v_second_direction := vp_of rfl fun L0 X0 => (show VSj _ _ vb_second_direction from (vs_seq (vs_set (fun h => absurd h (by decide)) (vj_tup (vj_cons (vj_op opv_ix vj_var (vj_c).top) (vj_cons (vj_op opv_ix vj_var (vj_c).top) vj_nil))))
      (vs_ret rfl (vj_if (vj_test (vj_op opv_in (vj_op opv_ix vj_var (vj_c).top) ((vj_c (by rfl))).top)) (vj_call vk_inverse (vj_cons vj_var vj_nil)) vj_var))))

/-! ### led_to -/
theorem vk_led_to : VP false d_led_to v_led_to := vp_of rfl fun L0 X0 => (show VSj _ _ vb_led_to from (vs_seq (vs_if (vj_andT (vj_test (vj_op opv_eq (vj_op opv_ix vj_var (vj_c).top) (vj_c).top)) (vj_andT (vj_test (vj_op opv_eq (vj_op opv_ix vj_var (vj_c).top) (vj_var).top)) (vj_notT (vj_test vj_var)))) (vs_ret rfl (vj_op opv_ix vj_var (vj_c).top)) vs_next)
      (vs_seq (vs_if (vj_andT (vj_test (vj_op opv_in (vj_op opv_ix vj_var (vj_c).top) ((vj_c (by rfl))).top)) (vj_andT (vj_test (vj_call vk_is_direction (vj_cons vj_var vj_nil))) (vj_test (vj_op opv_eq (vj_op opv_ix vj_var (vj_c).top) ((vj_op opv_ix vj_var (vj_c).top)).top)))) (vs_ret rfl (vj_call vk_second_direction (vj_cons vj_var (vj_cons vj_var vj_nil)))) vs_next)
      (vs_ret rfl vj_c))))

/-! ### chains_from -/
theorem vk_chains_from : VP true d_chains_from v_chains_from := vp_of rfl fun L0 X0 => (show VSj _ _ vb_chains_from from (vs_seq (vs_setOwn (fun h => absurd h (by decide)) (vj_dictE vj_var))
      (vs_seq (vs_set (fun h => absurd h (by decide)) ((vj_lst (vj_cons vj_var vj_nil))).old)
      (vs_seq (vs_while (vj_andT (vj_truL vj_var) (vj_test (vj_op opv_lt (vj_cb1 oc_len ((vj_opO opv_ixD vj_any ((vj_op opv_ix vj_var (vj_c).top)).top)).top) ((vj_c (by rfl))).top))) (vs_seq (vs_setOwn (fun h => absurd h (by decide)) (vj_lst vj_nil))
      (vs_seq (vs_for vj_var (fun h => absurd h (by decide)) (vs_forE vj_var (fun h => absurd h (by decide)) (fun h => absurd h (by decide)) (vs_seq (vs_set (fun h => absurd h (by decide)) (vj_call vk_led_to (vj_cons vj_var (vj_cons vj_var (vj_cons vj_var vj_nil)))))
      (vs_if (vj_andT (vj_test (vj_op opv_notN vj_var (vj_c).top)) (vj_test (vj_op opv_notInD vj_var vj_any))) (vs_seq (vs_putD vj_var ((vj_opF opvf_add (vj_opO opv_ixD vj_any (vj_var).top) (((vj_lst (vj_cons vj_var vj_nil))).old).top)).old)
      (vs_drop (vj_app vj_var))) vs_next))))
      (vs_frz (fun h => absurd h (by decide)) (vs_set (fun h => absurd h (by decide)) vj_var)))))
      (vs_retOwn (fun h => absurd h (by decide)))))))

/-! ### find_chain -/
theorem vk_find_chain : VP false d_find_chain v_find_chain := vp_of rfl fun L0 X0 => (show VSj _ _ vb_find_chain from (vs_seq (vs_for (vj_tup (vj_cons vj_var (vj_cons vj_var vj_nil))) (fun h => absurd h (by decide)) (vs_seq (vs_drop (vj_call vk_check_concept (vj_cons vj_var vj_nil)))
      (vs_if (vj_test vj_var) (vs_drop (vj_call vk_check_direction (vj_cons vj_var vj_nil))) vs_next)))
      (vs_ret rfl (vj_get ((vj_callF vk_chains_from (vj_cons vj_var (vj_cons vj_var (vj_cons vj_var vj_nil))))).old vj_var))))

/-! ### is_chain -/
theorem vk_is_chain : VP false d_is_chain v_is_chain := vp_of rfl fun L0 X0 => (show VSj _ _ vb_is_chain from (vs_seq (vs_if (vj_orT (vj_notT (vj_test (vj_isi (vj_var).top))) (vj_test (vj_op opv_gt (vj_cb1 oc_len (vj_var).top) ((vj_c (by rfl))).top))) (vs_ret rfl vj_c) vs_next)
      (vs_seq (vs_set (fun h => absurd h (by decide)) vj_var)
      (vs_seq (vs_for vj_var (fun h => absurd h (by decide)) (vs_seq (vs_if (vj_notT (vj_test (vj_call vk_is_index (vj_cons vj_var (vj_cons (vj_cb1 oc_len (vj_var).top) vj_nil))))) (vs_ret rfl vj_c) vs_next)
      (vs_seq (vs_set (fun h => absurd h (by decide)) (vj_call vk_led_to (vj_cons (vj_op opv_ix vj_var (vj_var).top) (vj_cons vj_var (vj_cons vj_var vj_nil)))))
      (vs_if (vj_test (vj_op opv_isN vj_var (vj_c).top)) (vs_ret rfl vj_c) vs_next))))
      (vs_ret rfl (vj_op opv_eq vj_var (vj_var).top))))))

/-! ### _law_draw -/
theorem vk_law_draw : VI false d_law_draw v_law_draw := vi_of rfl fun L0 k X0 => (show VSj _ _ vb_law_draw from (vs_seq (vs_if (vj_test (vj_op opv_gt (vj_opO opv_ix vj_any (vj_c).top) (vj_c).top)) (vs_seq (vs_set (fun h => absurd h (by decide)) (vj_op opv_mod (vj_opO opv_ix vj_any (vj_c).top) (vj_var).top))
      (vs_seq (vs_put vj_c (vj_op opv_div (vj_opO opv_ix vj_any (vj_c).top) (vj_var).top))
      (vs_ret rfl vj_var))) vs_next)
      (vs_seq (vs_put vj_c (vj_op opv_mod (vj_op opv_add (vj_op opv_mul (vj_opO opv_ix vj_any (vj_c).top) (vj_c).top) (vj_c).top) (vj_c).top))
      (vs_ret rfl (vj_op opv_mod (vj_op opv_div (vj_op opv_mod (vj_op opv_mul (vj_opO opv_ix vj_any (vj_c).top) ((vj_opO opv_ix vj_any (vj_c).top)).top) (vj_c).top) (vj_c).top) (vj_var).top)))))

/-! ### _law_choose -/
theorem vk_law_choose : VI false d_law_choose v_law_choose := vi_of rfl fun L0 k X0 => (show VSj _ _ vb_law_choose from (vs_ret rfl (vj_op opv_ix vj_var ((vj_callI vk_law_draw (vj_cons (vj_cb1 oc_len (vj_var).top) vj_nil))).top)))

/-! ### _law_names -/
theorem vk_law_names : VI false d_law_names v_law_names := vi_of rfl fun L0 k X0 => (show VSj _ _ vb_law_names from (vs_seq (vs_set (fun h => absurd h (by decide)) (vj_op opv_ix ((vj_lst (vj_cons vj_c (vj_cons vj_c (vj_cons vj_c vj_nil))))).old ((vj_callI vk_law_draw (vj_cons vj_c vj_nil))).top))
      (vs_seq (vs_set (fun h => absurd h (by decide)) ((vj_lc vj_c vj_yes (vj_op opv_add vj_var (vj_var).top) (fun h => absurd h (by decide)))).old)
      (vs_seq (vs_set (fun h => absurd h (by decide)) ((vj_lc vj_c vj_yes (vj_op opv_add vj_var (vj_var).top) (fun h => absurd h (by decide)))).old)
      (vs_ret rfl (vj_tup (vj_cons vj_var (vj_cons (vj_op opv_ix ((vj_lst (vj_cons vj_var (vj_cons (vj_sl (vj_var).top vj_noPart (vj_part vj_c)) vj_nil)))).old ((vj_cb1 oc_int ((vj_op opv_eq (vj_callI vk_law_draw (vj_cons vj_c vj_nil)) (vj_c).top)).top)).top) vj_nil))))))))

/-! ### _law_concept -/
theorem vk_law_concept : VI false d_law_concept v_law_concept := vi_of rfl fun L0 k X0 => (show VSj _ _ vb_law_concept from (vs_seq (vs_set (fun h => absurd h (by decide)) (vj_op opv_ix ((vj_lst (vj_cons vj_c (vj_cons vj_c (vj_cons vj_c (vj_cons vj_c vj_nil)))))).old ((vj_callI vk_law_draw (vj_cons vj_c vj_nil))).top))
      (vs_ret rfl (vj_tup (vj_cons vj_var (vj_cons (vj_callI vk_law_choose (vj_cons (vj_op opv_ix vj_var ((vj_cb1 oc_int ((vj_op opv_ne vj_var (vj_c).top)).top)).top) vj_nil)) vj_nil))))))

/-! ### _law_axiom -/
theorem vk_law_axiom : VI false d_law_axiom v_law_axiom := vi_of rfl fun L0 k X0 => (show VSj _ _ vb_law_axiom from (vs_seq (vs_set (fun h => absurd h (by decide)) (vj_callI vk_law_choose (vj_cons vj_var vj_nil)))
      (vs_seq (vs_if (vj_orT (vj_test (vj_op opv_eq vj_var (vj_c).top)) (vj_test (vj_op opv_eq vj_var (vj_c).top))) (vs_ret rfl (vj_tup (vj_cons vj_var (vj_cons (vj_callI vk_law_concept (vj_cons vj_var vj_nil)) (vj_cons (vj_callI vk_law_concept (vj_cons vj_var vj_nil)) vj_nil))))) vs_next)
      (vs_seq (vs_if (vj_test (vj_op opv_eq vj_var (vj_c).top)) (vs_ret rfl (vj_tup (vj_cons vj_var (vj_cons (vj_tup (vj_cons (vj_op opv_ix ((vj_lst (vj_cons vj_c (vj_cons vj_c vj_nil)))).old ((vj_callI vk_law_draw (vj_cons vj_c vj_nil))).top) (vj_cons (vj_callI vk_law_choose (vj_cons (vj_op opv_ix vj_var (vj_c).top) vj_nil)) vj_nil))) vj_nil)))) vs_next)
      (vs_ret rfl (vj_tup (vj_cons vj_var (vj_cons (vj_callI vk_law_choose (vj_cons (vj_op opv_ix vj_var (vj_c).top) vj_nil)) (vj_cons (vj_callI vk_law_choose (vj_cons (vj_op opv_ix vj_var (vj_c).top) vj_nil)) vj_nil)))))))))

/-! ### _law_allowed -/
theorem vk_law_allowed : VP false d_law_allowed v_law_allowed := vp_of rfl fun L0 X0 => (show VSj _ _ vb_law_allowed from (vs_seq (vs_set (fun h => absurd h (by decide)) ((vj_lc vj_var (vj_orT (vj_test (vj_op opv_eq (vj_op opv_ix vj_var (vj_c).top) (vj_c).top)) (vj_test (vj_op opv_eq (vj_op opv_ix vj_var (vj_c).top) (vj_c).top))) (vj_op opv_ix vj_var (vj_c).top) (fun h => absurd h (by decide)))).old)
      (vs_ret rfl (vj_op opv_eq ((vj_lc vj_var (vj_andT (vj_test (vj_op opv_eq (vj_op opv_ix vj_var (vj_c).top) (vj_c).top)) (vj_test (vj_op opv_in (vj_op opv_ix (vj_op opv_ix vj_var (vj_c).top) (vj_c).top) (vj_var).top))) vj_var (fun h => absurd h (by decide)))).old (((vj_lst vj_nil)).old).top))))

/-! ### _law_ontology -/
theorem vk_law_ontology : VI true d_law_ontology v_law_ontology := vi_of rfl fun L0 k X0 => (show VSj _ _ vb_law_ontology from (vs_seq (vs_setOwn (fun h => absurd h (by decide)) (vj_lst vj_nil))
      (vs_seq (vs_forR rgv1 (vj_cons (vj_callI vk_law_draw (vj_cons (vj_op opv_add vj_var (vj_c).top) vj_nil)) vj_nil) (fun h => absurd h (by decide)) (vs_seq (vs_set (fun h => absurd h (by decide)) (vj_callI vk_law_axiom (vj_cons vj_var (vj_cons vj_var vj_nil))))
      (vs_if (vj_andT (vj_test (vj_op opv_notIn vj_var vj_any)) (vj_test (vj_call vk_law_allowed (vj_cons ((vj_opFO opvf_add vj_any (((vj_lst (vj_cons vj_var vj_nil))).old).top)).old vj_nil)))) (vs_drop (vj_app vj_var)) vs_next)))
      (vs_retOwn (fun h => absurd h (by decide))))))

/-! ### _law_successor -/
theorem vk_law_successor : VP false d_law_successor v_law_successor := vp_of rfl fun L0 X0 => (show VSj _ _ vb_law_successor from (vs_seq (vs_if (vj_andT (vj_test (vj_op opv_eq (vj_op opv_ix vj_var (vj_c).top) (vj_c).top)) (vj_notT (vj_test vj_var))) (vs_ret rfl (vj_if (vj_test (vj_op opv_eq (vj_op opv_ix vj_var (vj_c).top) (vj_var).top)) (vj_op opv_ix vj_var (vj_c).top) vj_c)) vs_next)
      (vs_seq (vs_if (vj_orT (vj_test (vj_op opv_notIn (vj_op opv_ix vj_var (vj_c).top) ((vj_tup (vj_cons vj_c (vj_cons vj_c vj_nil)))).top)) (vj_orT (vj_test (vj_op opv_eq (vj_op opv_ix vj_var (vj_c).top) (vj_c).top)) (vj_test (vj_op opv_ne (vj_op opv_ix vj_var (vj_c).top) ((vj_op opv_ix vj_var (vj_c).top)).top)))) (vs_ret rfl vj_c) vs_next)
      (vs_seq (vs_if (vj_test (vj_op opv_eq (vj_op opv_ix vj_var (vj_c).top) (vj_c).top)) (vs_ret rfl (vj_tup (vj_cons (vj_op opv_ix vj_var (vj_c).top) (vj_cons (vj_op opv_ix vj_var (vj_c).top) vj_nil)))) vs_next)
      (vs_ret rfl (vj_tup (vj_cons (vj_op opv_ix ((vj_lst (vj_cons vj_c (vj_cons vj_c vj_nil)))).old ((vj_cb1 oc_int ((vj_op opv_eq (vj_op opv_ix vj_var (vj_c).top) (vj_c).top)).top)).top) (vj_cons (vj_op opv_ix vj_var (vj_c).top) vj_nil))))))))

/-! ### _law_reachable -/
def vb_law_reachable : VSM := (vSeq (vSetO 3 (vLst (vCons (vVar 1) vNil)))
      (vSeq (vSet 4 (vC (.int 0)))
      (vSeq (vWhile (vTest (vOp vLt (vVar 4) (vU vLen (vAny 3)))) (vSeq (vFor (vVar 0) 5 (vSeq (vSet 6 (vCall v_law_successor (vCons (vVar 5) (vCons (vOp vIx (vAny 3) (vVar 4)) (vCons (vVar 2) vNil)))))
      (vIfS (vAndT (vTest (vOp vNotN (vVar 6) (vC .none))) (vTest (vOp vNotIn (vVar 6) (vAny 3)))) (vDrop (vApp 3 (vVar 6))) vNext)))
      (vSet 4 (vOp vAdd (vVar 4) (vC (.int 1))))))
      (vRet (vU vSorted (vAny 3))))))
def v_law_reachable : List D → Option (VR D) := vmk true 3 7 vb_law_reachable
theorem vk_law_reachable : VP true d_law_reachable v_law_reachable := vp_of rfl fun L0 X0 => (show VSj _ _ vb_law_reachable from (vs_seq (vs_setOwn (fun h => absurd h (by decide)) (vj_lst (vj_cons vj_var vj_nil)))
      (vs_seq (vs_set (fun h => absurd h (by decide)) vj_c)
      (vs_seq (vs_while (vj_test (vj_op opv_lt vj_var ((vj_cb1 oc_len vj_any)).top)) (vs_seq (vs_for vj_var (fun h => absurd h (by decide)) (vs_seq (vs_set (fun h => absurd h (by decide)) (vj_call vk_law_successor (vj_cons vj_var (vj_cons (vj_opO opv_ix vj_any (vj_var).top) (vj_cons vj_var vj_nil)))))
      (vs_if (vj_andT (vj_test (vj_op opv_notN vj_var (vj_c).top)) (vj_test (vj_op opv_notIn vj_var vj_any))) (vs_drop (vj_app vj_var)) vs_next)))
      (vs_set (fun h => absurd h (by decide)) (vj_op opv_add vj_var (vj_c).top))))
      (vs_retF (vj_cb1F ocf_sorted vj_any))))))

/-! ### _law_rounds -/
def vb_law_rounds : VSM := (vSeq (vSetO 2 (vLst (vCons (vTup (vCons (vVar 1) (vCons (vC (.int 0)) vNil))) vNil)))
      (vSeq (vSet 3 (vC (.int 0)))
      (vSeq (vWhile (vTest (vOp vLt (vVar 3) (vU vLen (vAny 2)))) (vSeq (vUnpA (vOp vIx (vAny 2) (vVar 3)) 2 (vtC (vtN 5) (vtC (vtN 6) vt0)))
      (vSeq (vFor (vVar 0) 4 (vSeq (vSet 7 (vCall v_law_successor (vCons (vVar 4) (vCons (vVar 5) (vCons (vC (.bool false)) vNil)))))
      (vIfS (vAndT (vTest (vOp vNotN (vVar 7) (vC .none))) (vTest (vOp vNotIn (vVar 7) (vLcG (vItems (vAny 2)) [8, 9] (vtT 2 (vtC (vtN 8) (vtC (vtN 9) vt0))) vYes (vVar 8))))) (vDrop (vApp 2 (vTup (vCons (vVar 7) (vCons (vOp vAdd (vVar 6) (vC (.int 1))) vNil))))) vNext)))
      (vSet 3 (vOp vAdd (vVar 3) (vC (.int 1)))))))
      (vRet (vU vDictP (vAny 2))))))
def v_law_rounds : List D → Option (VR D) := vmk true 2 10 vb_law_rounds
theorem vk_law_rounds : VP true d_law_rounds v_law_rounds := vp_of rfl fun L0 X0 => (show VSj _ _ vb_law_rounds from (vs_seq (vs_setOwn (fun h => absurd h (by decide)) (vj_lst (vj_cons (vj_tup (vj_cons vj_var (vj_cons vj_c vj_nil))) vj_nil)))
      (vs_seq (vs_set (fun h => absurd h (by decide)) vj_c)
      (vs_seq (vs_while (vj_test (vj_op opv_lt vj_var ((vj_cb1 oc_len vj_any)).top)) (vs_seq (vs_unpA (js := [5, 6]) (vj_opO opv_ix vj_any (vj_var).top) (vtsr_cons (vtr_name (fun h => absurd h (by decide)) (by decide)) (vtsr_cons (vtr_name (fun h => absurd h (by decide)) (by decide)) vtsr_nil)))
      (vs_seq (vs_for vj_var (fun h => absurd h (by decide)) (vs_seq (vs_set (fun h => absurd h (by decide)) (vj_call vk_law_successor (vj_cons vj_var (vj_cons vj_var (vj_cons vj_c vj_nil)))))
      (vs_if (vj_andT (vj_test (vj_op opv_notN vj_var (vj_c).top)) (vj_test (vj_op opv_notIn vj_var (((vj_lcGO (vi_valO vj_any) (vtr_tup (vtsr_cons (vtr_name (fun h => absurd h (by decide)) (by decide)) (vtsr_cons (vtr_name (fun h => absurd h (by decide)) (by decide)) vtsr_nil))) (vtw_tup (vtsw_cons (vtw_name (by decide)) (vtsw_cons (vtw_name (by decide)) vtsw_nil))) vj_yes vj_var (z0s (by rfl)))).old).top))) (vs_drop (vj_app (vj_tup (vj_cons vj_var (vj_cons (vj_op opv_add vj_var (vj_c).top) vj_nil))))) vs_next)))
      (vs_set (fun h => absurd h (by decide)) (vj_op opv_add vj_var (vj_c).top)))))
      (vs_retF (vj_cb1F ocf_dictP vj_any))))))

/-! ### _law_leads -/
def vb_law_leads : VSM := (vSeq (vIfS (vOrT (vNotT (vTest (vU (vIsi "list") (vVar 3)))) (vTest (vOp vGt (vU vLen (vVar 3)) (vC (.int 40))))) (vRet (vC (.bool false))) vNext)
      (vSeq (vSet 4 (vVar 1))
      (vSeq (vFor (vVar 3) 5 (vSeq (vIfS (vOrT (vNotT (vTest (vU (vIsi "int") (vVar 5)))) (vOrT (vTest (vU (vIsi "bool") (vVar 5))) (vNotT (vTest (vChain vLe vLt (vC (.int 0)) (vVar 5) (vU vLen (vVar 0))))))) (vRet (vC (.bool false))) vNext)
      (vSeq (vSet 4 (vCall v_law_successor (vCons (vOp vIx (vVar 0) (vVar 5)) (vCons (vVar 4) (vCons (vC (.bool false)) vNil)))))
      (vIfS (vTest (vOp vIsN (vVar 4) (vC .none))) (vRet (vC (.bool false))) vNext))))
      (vRet (vOp vEq (vVar 4) (vVar 2))))))
def v_law_leads : List D → Option (VR D) := vmk false 4 6 vb_law_leads
theorem vk_law_leads : VP false d_law_leads v_law_leads := vp_of rfl fun L0 X0 => (show VSj _ _ vb_law_leads from (vs_seq (vs_if (vj_orT (vj_notT (vj_test (vj_isi (vj_var).top))) (vj_test (vj_op opv_gt (vj_cb1 oc_len (vj_var).top) (vj_c).top))) (vs_ret rfl vj_c) vs_next)
      (vs_seq (vs_set (fun h => absurd h (by decide)) vj_var)
      (vs_seq (vs_for vj_var (fun h => absurd h (by decide)) (vs_seq (vs_if (vj_orT (vj_notT (vj_test (vj_isi (vj_var).top))) (vj_orT (vj_test (vj_isi (vj_var).top)) (vj_notT (vj_test (vj_chain opv_le opv_lt vj_c vj_var (vj_cb1 oc_len (vj_var).top)))))) (vs_ret rfl vj_c) vs_next)
      (vs_seq (vs_set (fun h => absurd h (by decide)) (vj_call vk_law_successor (vj_cons (vj_op opv_ix vj_var (vj_var).top) (vj_cons vj_var (vj_cons vj_c vj_nil)))))
      (vs_if (vj_test (vj_op opv_isN vj_var (vj_c).top)) (vs_ret rfl vj_c) vs_next))))
      (vs_ret rfl (vj_op opv_eq vj_var (vj_var).top))))))

/-! ### _law_mutated -/
def vb_law_mutated : VSM := (vSeq (vSet 3 (vCallI v_law_draw 0 (vCons (vOp vAdd (vU vLen (vVar 1)) (vC (.int 1))) vNil)))
      (vSeq (vSet 4 (vCallI v_law_choose 0 (vCons (vLst (vCons (vC .none) (vCons (vC (.bool true)) (vCons (vC (.bool false)) (vCons (vC (.str "0")) (vCons (vNeg (vC (.int 1))) (vCons (vVar 2) (vCons (vLst (vCons (vC (.int 0)) vNil)) (vCons (vOp vPow (vC (.int 10)) (vC (.int 20))) (vCons (vCallI v_law_draw 0 (vCons (vOp vAdd (vVar 2) (vC (.int 1))) vNil)) vNil)))))))))) vNil)))
      (vSeq (vSet 5 (vCallI v_law_draw 0 (vCons (vC (.int 5)) vNil)))
      (vSeq (vIfS (vTest (vOp vEq (vVar 5) (vC (.int 0)))) (vRet (vU vTupleOf (vVar 1))) vNext)
      (vSeq (vIfS (vTest (vOp vEq (vVar 5) (vC (.int 1)))) (vRet (vOp vAdd (vSl vSlice (vVar 1) vNoPart (vPart (vVar 3))) (vSl vSlice (vVar 1) (vPart (vOp vAdd (vVar 3) (vC (.int 1)))) vNoPart))) vNext)
      (vSeq (vIfS (vTest (vOp vEq (vVar 5) (vC (.int 2)))) (vRet (vOp vAddL (vOp vAddL (vSl vSlice (vVar 1) vNoPart (vPart (vVar 3))) (vLst (vCons (vCallI v_law_draw 0 (vCons (vOp vAdd (vVar 2) (vC (.int 1))) vNil)) vNil))) (vSl vSlice (vVar 1) (vPart (vVar 3)) vNoPart))) vNext)
      (vRet (vOp vAddL (vOp vAddL (vSl vSlice (vVar 1) vNoPart (vPart (vVar 3))) (vLst (vCons (vVar 4) vNil))) (vSl vSlice (vVar 1) (vPart (vOp vAdd (vVar 3) (vC (.int 1)))) vNoPart)))))))))
def v_law_mutated : D → List D → Option (VR D × D) := vmkI false 3 6 vb_law_mutated
theorem vk_law_mutated : VI false d_law_mutated v_law_mutated := vi_of rfl fun L0 k X0 => (show VSj _ _ vb_law_mutated from (vs_seq (vs_set (fun h => absurd h (by decide)) (vj_callI vk_law_draw (vj_cons (vj_op opv_add (vj_cb1 oc_len (vj_var).top) (vj_c).top) vj_nil)))
      (vs_seq (vs_set (fun h => absurd h (by decide)) (vj_callI vk_law_choose (vj_cons ((vj_lst (vj_cons vj_c (vj_cons vj_c (vj_cons vj_c (vj_cons vj_c (vj_cons (vj_neg vj_c) (vj_cons vj_var (vj_cons ((vj_lst (vj_cons vj_c vj_nil))).old (vj_cons (vj_op opv_pow vj_c (vj_c).top) (vj_cons (vj_callI vk_law_draw (vj_cons (vj_op opv_add vj_var (vj_c).top) vj_nil)) vj_nil))))))))))).old vj_nil)))
      (vs_seq (vs_set (fun h => absurd h (by decide)) (vj_callI vk_law_draw (vj_cons vj_c vj_nil)))
      (vs_seq (vs_if (vj_test (vj_op opv_eq vj_var (vj_c).top)) (vs_ret rfl (vj_cb1 oc_tuple (vj_var).top)) vs_next)
      (vs_seq (vs_if (vj_test (vj_op opv_eq vj_var (vj_c).top)) (vs_ret rfl (vj_op opv_add (vj_sl (vj_var).top vj_noPart (vj_part vj_var)) ((vj_sl (vj_var).top (vj_part (vj_op opv_add vj_var (vj_c).top)) vj_noPart)).top)) vs_next)
      (vs_seq (vs_if (vj_test (vj_op opv_eq vj_var (vj_c).top)) (vs_ret rfl ((vj_opF opvf_add ((vj_opF opvf_add (vj_sl (vj_var).top vj_noPart (vj_part vj_var)) (((vj_lst (vj_cons (vj_callI vk_law_draw (vj_cons (vj_op opv_add vj_var (vj_c).top) vj_nil)) vj_nil))).old).top)).old ((vj_sl (vj_var).top (vj_part vj_var) vj_noPart)).top)).old) vs_next)
      (vs_ret rfl ((vj_opF opvf_add ((vj_opF opvf_add (vj_sl (vj_var).top vj_noPart (vj_part vj_var)) (((vj_lst (vj_cons vj_var vj_nil))).old).top)).old ((vj_sl (vj_var).top (vj_part (vj_op opv_add vj_var (vj_c).top)) vj_noPart)).top)).old))))))))

/-! ### _law_limit_holds -/
def vb_law_limit_holds : VSM := (vSeq (vPar 0 1 (vCons (vLst (vCons (vTup (vCons (vC (.str "subclass")) (vCons (vTup (vCons (vC (.str "concept")) (vCons (vC (.str "a")) vNil))) (vCons (vTup (vCons (vC (.str "concept")) (vCons (vC (.str "a")) vNil))) vNil)))) vNil)) (vCons (vTup (vCons (vC (.str "concept")) (vCons (vC (.str "a")) vNil))) vNil)))
      (vRet (vAnd (vCall (fun ds => v_is_chain (ds ++ [(.bool false)])) (vCons (vVar 0) (vCons (vVar 1) (vCons (vVar 1) (vCons (vOp vRepL (vLst (vCons (vC (.int 0)) vNil)) (vC (.int 40))) vNil))))) (vNot (vCall (fun ds => v_is_chain (ds ++ [(.bool false)])) (vCons (vVar 0) (vCons (vVar 1) (vCons (vVar 1) (vCons (vOp vRepL (vLst (vCons (vC (.int 0)) vNil)) (vC (.int 41))) vNil)))))))))
def v_law_limit_holds : List D → Option (VR D) := vmk false 0 2 vb_law_limit_holds
theorem vk_law_limit_holds : VP false d_law_limit_holds v_law_limit_holds := vp_of rfl fun L0 X0 => (show VSj _ _ vb_law_limit_holds from (vs_seq (vs_par (fun _ => ⟨rfl, rfl⟩) (fun h => absurd h (by decide)) (vj_cons ((vj_lst (vj_cons (vj_tup (vj_cons vj_c (vj_cons (vj_tup (vj_cons vj_c (vj_cons vj_c vj_nil))) (vj_cons (vj_tup (vj_cons vj_c (vj_cons vj_c vj_nil))) vj_nil)))) vj_nil))).old (vj_cons (vj_tup (vj_cons vj_c (vj_cons vj_c vj_nil))) vj_nil)))
      (vs_ret rfl (vj_and (vj_call (vk_is_chain.dft (fun _ _ => (.cons (by first | exact .non | exact .bl _ | exact .int _ | exact .str _) .nil))) (vj_cons vj_var (vj_cons vj_var (vj_cons vj_var (vj_cons ((vj_opF opvf_rep ((vj_lst (vj_cons vj_c vj_nil))).old (vj_c).top)).old vj_nil))))) (vj_not (vj_call (vk_is_chain.dft (fun _ _ => (.cons (by first | exact .non | exact .bl _ | exact .int _ | exact .str _) .nil))) (vj_cons vj_var (vj_cons vj_var (vj_cons vj_var (vj_cons ((vj_opF opvf_rep ((vj_lst (vj_cons vj_c vj_nil))).old (vj_c).top)).old vj_nil))))))))))

/-! ### law -/
def vl_1 (ns : List Int) : VSM := (vIfS (vNotT (vTest (vCall v_law_limit_holds vNil))) (vRet (vC (.bool false))) vNext)
def vl_2 (ns : List Int) : VSM := (vSet 1 (vLst (vCons (vC (.str "subclass")) (vCons (vC (.str "subclass")) (vCons (vC (.str "subclass")) (vCons (vC (.str "subclass")) (vCons (vC (.str "subrole")) (vCons (vC (.str "subrole_inverse")) (vCons (vC (.str "disjoint")) vNil)))))))))
def vl_3_1 (ns : List Int) : VSM := (vSetO 3 (vStream ns (vVar 2)))
def vl_3_2 (ns : List Int) : VSM := (vSet 4 (vCallI v_law_names 3 vNil))
def vl_3_3 (ns : List Int) : VSM := (vSet 5 (vCallI v_law_ontology 3 (vCons (vVar 4) (vCons (vVar 1) (vCons (vC (.int 12)) vNil)))))
def vl_3_4 (ns : List Int) : VSM := (vIfS (vTest (vOp vEq (vCallI v_law_draw 3 (vCons (vC (.int 2)) vNil)) (vC (.int 0)))) (vSet 5 (vU vTupleOf (vVar 5))) vNext)
def vl_3_5 (ns : List Int) : VSM := (vSet 6 (vOp vAddL (vLc (vOp vIx (vVar 4) (vC (.int 0))) 13 vYes (vTup (vCons (vC (.str "concept")) (vCons (vVar 13) vNil)))) (vLc (vOp vIx (vVar 4) (vC (.int 1))) 13 vYes (vTup (vCons (vC (.str "out")) (vCons (vVar 13) vNil))))))
def vl_3_6 (ns : List Int) : VSM := (vSet 6 (vOp vAddL (vVar 6) (vLc (vOp vIx (vVar 4) (vC (.int 1))) 13 vYes (vTup (vCons (vC (.str "in")) (vCons (vVar 13) vNil))))))
def vl_3_7_1 (ns : List Int) : VSM := (vSet 9 (vCall v_law_rounds (vCons (vVar 5) (vCons (vVar 7) vNil))))
def vl_3_7_2_1 (ns : List Int) : VSM := (vSet 11 (vCall (fun ds => v_find_chain (ds ++ [(.bool false)])) (vCons (vVar 5) (vCons (vVar 7) (vCons (vVar 10) vNil)))))
def vl_3_7_2_2 (ns : List Int) : VSM := (vIfS (vOrT (vTest (vOp vNe (vOp vIsN (vVar 11) (vC .none)) (vOp vNotInD (vVar 10) (vVar 9)))) (vTest (vOp vNe (vCall (fun ds => v_find_chain (ds ++ [(.bool false)])) (vCons (vVar 5) (vCons (vVar 7) (vCons (vVar 10) vNil)))) (vVar 11)))) (vRet (vC (.bool false))) vNext)
def vl_3_7_2_3 (ns : List Int) : VSM := (vIfS (vTest (vOp vNotN (vVar 11) (vC .none))) (vSeq (vIfS (vOrT (vTest (vOp vNe (vU vLen (vVar 11)) (vOp vIxD (vVar 9) (vVar 10)))) (vNotT (vTest (vCall v_law_leads (vCons (vVar 5) (vCons (vVar 7) (vCons (vVar 10) (vCons (vVar 11) vNil)))))))) (vRet (vC (.bool false))) vNext)
      (vIfS (vTest (vOp vNotB (vCall (fun ds => v_is_chain (ds ++ [(.bool false)])) (vCons (vVar 5) (vCons (vVar 7) (vCons (vVar 10) (vCons (vVar 11) vNil))))) (vC (.bool true)))) (vRet (vC (.bool false))) vNext)) vNext)
def vl_3_7_2_4 (ns : List Int) : VSM := (vSet 12 (vCallI v_law_mutated 3 (vCons (vIf (vTest (vOp vIsN (vVar 11) (vC .none))) (vLst vNil) (vU vListOf (vVar 11))) (vCons (vU vLen (vVar 5)) vNil))))
def vl_3_7_2_5 (ns : List Int) : VSM := (vIfS (vTest (vOp vNe (vCall (fun ds => v_is_chain (ds ++ [(.bool false)])) (vCons (vVar 5) (vCons (vVar 7) (vCons (vVar 10) (vCons (vVar 12) vNil))))) (vCall v_law_leads (vCons (vVar 5) (vCons (vVar 7) (vCons (vVar 10) (vCons (vVar 12) vNil))))))) (vRet (vC (.bool false))) vNext)
def vl_3_7_2 (ns : List Int) : VSM := (vFor (vVar 6) 10 (vSeq (vl_3_7_2_1 ns)
      (vSeq (vl_3_7_2_2 ns)
      (vSeq (vl_3_7_2_3 ns)
      (vSeq (vl_3_7_2_4 ns)
      (vl_3_7_2_5 ns))))))
def vl_3_7 (ns : List Int) : VSM := (vFor (vVar 6) 7 (vSeq (vl_3_7_1 ns)
      (vl_3_7_2 ns)))
def vl_3_8_1 (ns : List Int) : VSM := (vUnpA (vSl vSlice (vVar 6) vNoPart (vPart (vC (.int 2)))) 2 (vtC (vtN 7) (vtC (vtN 10) vt0)))
def vl_3_8_2 (ns : List Int) : VSM := (vIfS (vTest (vOp vNe (vCall (fun ds => v_is_chain (ds ++ [(.bool false)])) (vCons (vVar 5) (vCons (vVar 7) (vCons (vVar 10) (vCons (vVar 8) vNil))))) (vCall v_law_leads (vCons (vVar 5) (vCons (vVar 7) (vCons (vVar 10) (vCons (vVar 8) vNil))))))) (vRet (vC (.bool false))) vNext)
def vl_3_8 (ns : List Int) : VSM := (vFor (vLst (vCons (vC .none) (vCons (vTup vNil) (vCons vEmp (vCons (vC (.str "")) (vCons (vC (.int 0)) (vCons (vLst (vCons (vC .none) vNil)) (vCons (vLst (vCons (vLst vNil) vNil)) (vCons (vLst (vCons (vC (.str "0")) vNil)) (vCons (vLst (vCons (vC (.bool true)) vNil)) (vCons (vOp vRepL (vLst (vCons (vC (.int 0)) vNil)) (vC (.int 41))) vNil))))))))))) 8 (vSeq (vl_3_8_1 ns)
      (vl_3_8_2 ns)))
def vl_3 (ns : List Int) : VSM := (vForR rngV1 (vCons (vOp vMax2 (vC (.int 1)) (vOp vMin2 (vC (.int 8)) (scLen ns))) vNil) 2 (vSeq (vl_3_1 ns)
      (vSeq (vl_3_2 ns)
      (vSeq (vl_3_3 ns)
      (vSeq (vl_3_4 ns)
      (vSeq (vl_3_5 ns)
      (vSeq (vl_3_6 ns)
      (vSeq (vl_3_7 ns)
      (vl_3_8 ns)))))))))
def vl_4 (ns : List Int) : VSM := (vRet (vC (.bool true)))
def vb_law (ns : List Int) : VSM := (vSeq (vl_1 ns)
      (vSeq (vl_2 ns)
      (vSeq (vl_3 ns)
      (vl_4 ns))))
theorem vk_law (ns : List Int) {v' : VEnv} (e : vb_law ns (List.replicate 14 none) = some (.rt (.bool true), v')) : ∃ st', d_law [.ils (ns.map W.int)] [] = some (.ok (.bl true), st') :=
  law_of rfl (show VSj _ _ (vb_law ns) from (vs_seq (vs_if (vj_notT (vj_test (vj_call vk_law_limit_holds vj_nil))) (vs_ret rfl vj_c) vs_next)
      (vs_seq (vs_set (fun h => absurd h (by decide)) ((vj_lst (vj_cons vj_c (vj_cons vj_c (vj_cons vj_c (vj_cons vj_c (vj_cons vj_c (vj_cons vj_c (vj_cons vj_c vj_nil))))))))).old)
      (vs_seq (vs_forR rgv1 (vj_cons (vj_cb2 opv_max vj_c ((vj_cb2 opv_min vj_c ((vj_scLen rfl)).top)).top) vj_nil) (fun h => absurd h (by decide)) (vs_seq (vs_setOwn (fun h => absurd h (by decide)) (vj_stream rfl rfl vj_var))
      (vs_seq (vs_set (fun h => absurd h (by decide)) (vj_callI vk_law_names vj_nil))
      (vs_seq (vs_set (fun h => absurd h (by decide)) ((vj_callIF vk_law_ontology (vj_cons vj_var (vj_cons vj_var (vj_cons vj_c vj_nil))))).old)
      (vs_seq (vs_if (vj_test (vj_op opv_eq (vj_callI vk_law_draw (vj_cons vj_c vj_nil)) (vj_c).top)) (vs_set (fun h => absurd h (by decide)) (vj_cb1 oc_tuple (vj_var).top)) vs_next)
      (vs_seq (vs_set (fun h => absurd h (by decide)) ((vj_opF opvf_add ((vj_lc (vj_op opv_ix vj_var (vj_c).top) vj_yes (vj_tup (vj_cons vj_c (vj_cons vj_var vj_nil))) (fun h => absurd h (by decide)))).old (((vj_lc (vj_op opv_ix vj_var (vj_c).top) vj_yes (vj_tup (vj_cons vj_c (vj_cons vj_var vj_nil))) (fun h => absurd h (by decide)))).old).top)).old)
      (vs_seq (vs_set (fun h => absurd h (by decide)) ((vj_opF opvf_add vj_var (((vj_lc (vj_op opv_ix vj_var (vj_c).top) vj_yes (vj_tup (vj_cons vj_c (vj_cons vj_var vj_nil))) (fun h => absurd h (by decide)))).old).top)).old)
      (vs_seq (vs_for vj_var (fun h => absurd h (by decide)) (vs_seq (vs_set (fun h => absurd h (by decide)) ((vj_callF vk_law_rounds (vj_cons vj_var (vj_cons vj_var vj_nil)))).old)
      (vs_for vj_var (fun h => absurd h (by decide)) (vs_seq (vs_set (fun h => absurd h (by decide)) (vj_call (vk_find_chain.dft (fun _ _ => (.cons (by first | exact .non | exact .bl _ | exact .int _ | exact .str _) .nil))) (vj_cons vj_var (vj_cons vj_var (vj_cons vj_var vj_nil)))))
      (vs_seq (vs_if (vj_orT (vj_test (vj_op opv_ne (vj_op opv_isN vj_var (vj_c).top) ((vj_op opv_notInD vj_var (vj_var).top)).top)) (vj_test (vj_op opv_ne (vj_call (vk_find_chain.dft (fun _ _ => (.cons (by first | exact .non | exact .bl _ | exact .int _ | exact .str _) .nil))) (vj_cons vj_var (vj_cons vj_var (vj_cons vj_var vj_nil)))) (vj_var).top))) (vs_ret rfl vj_c) vs_next)
      (vs_seq (vs_if (vj_test (vj_op opv_notN vj_var (vj_c).top)) (vs_seq (vs_if (vj_orT (vj_test (vj_op opv_ne (vj_cb1 oc_len (vj_var).top) ((vj_op opv_ixD vj_var (vj_var).top)).top)) (vj_notT (vj_test (vj_call vk_law_leads (vj_cons vj_var (vj_cons vj_var (vj_cons vj_var (vj_cons vj_var vj_nil)))))))) (vs_ret rfl vj_c) vs_next)
      (vs_if (vj_test (vj_op opv_notB (vj_call (vk_is_chain.dft (fun _ _ => (.cons (by first | exact .non | exact .bl _ | exact .int _ | exact .str _) .nil))) (vj_cons vj_var (vj_cons vj_var (vj_cons vj_var (vj_cons vj_var vj_nil))))) (vj_c).top)) (vs_ret rfl vj_c) vs_next)) vs_next)
      (vs_seq (vs_set (fun h => absurd h (by decide)) (vj_callI vk_law_mutated (vj_cons (vj_if (vj_test (vj_op opv_isN vj_var (vj_c).top)) ((vj_lst vj_nil)).old ((vj_cb1F ocf_list (vj_var).top)).old) (vj_cons (vj_cb1 oc_len (vj_var).top) vj_nil))))
      (vs_if (vj_test (vj_op opv_ne (vj_call (vk_is_chain.dft (fun _ _ => (.cons (by first | exact .non | exact .bl _ | exact .int _ | exact .str _) .nil))) (vj_cons vj_var (vj_cons vj_var (vj_cons vj_var (vj_cons vj_var vj_nil))))) ((vj_call vk_law_leads (vj_cons vj_var (vj_cons vj_var (vj_cons vj_var (vj_cons vj_var vj_nil)))))).top)) (vs_ret rfl vj_c) vs_next))))))))
      (vs_for ((vj_lst (vj_cons vj_c (vj_cons (vj_tup vj_nil) (vj_cons vj_emp (vj_cons vj_c (vj_cons vj_c (vj_cons ((vj_lst (vj_cons vj_c vj_nil))).old (vj_cons ((vj_lst (vj_cons ((vj_lst vj_nil)).old vj_nil))).old (vj_cons ((vj_lst (vj_cons vj_c vj_nil))).old (vj_cons ((vj_lst (vj_cons vj_c vj_nil))).old (vj_cons ((vj_opF opvf_rep ((vj_lst (vj_cons vj_c vj_nil))).old (vj_c).top)).old vj_nil)))))))))))).old (fun h => absurd h (by decide)) (vs_seq (vs_unpA (js := [7, 10]) (vj_sl (vj_var).top vj_noPart (vj_part vj_c)) (vtsr_cons (vtr_name (fun h => absurd h (by decide)) (by decide)) (vtsr_cons (vtr_name (fun h => absurd h (by decide)) (by decide)) vtsr_nil)))
      (vs_if (vj_test (vj_op opv_ne (vj_call (vk_is_chain.dft (fun _ _ => (.cons (by first | exact .non | exact .bl _ | exact .int _ | exact .str _) .nil))) (vj_cons vj_var (vj_cons vj_var (vj_cons vj_var (vj_cons vj_var vj_nil))))) ((vj_call vk_law_leads (vj_cons vj_var (vj_cons vj_var (vj_cons vj_var (vj_cons vj_var vj_nil)))))).top)) (vs_ret rfl vj_c) vs_next)))))))))))
      (vs_ret rfl vj_c))))) e

end K05

namespace K05
open PySem DI DV DV.Com
abbrev ts1 : List Str := ["subclass"]
abbrev ts2 : List Str := ["disjoint"]
abbrev ts3 : List Str := ["subrole", "subrole_inverse", "disjoint_roles", "disjoint_inverse", "functional"]
set_option maxHeartbeats 0 in
theorem st_0_1 : stGb false (cfg 0) ts1 = true := by decide +kernel
set_option maxHeartbeats 0 in
theorem st_0_2 : stGb false (cfg 0) ts2 = true := by decide +kernel
set_option maxHeartbeats 0 in
theorem st_0_3 : stGb false (cfg 0) ts3 = true := by decide +kernel
set_option maxHeartbeats 0 in
theorem st_1_1 : stGb false (cfg 1) ts1 = true := by decide +kernel
set_option maxHeartbeats 0 in
theorem st_1_2 : stGb false (cfg 1) ts2 = true := by decide +kernel
set_option maxHeartbeats 0 in
theorem st_1_3 : stGb false (cfg 1) ts3 = true := by decide +kernel
set_option maxHeartbeats 0 in
theorem st_2_1 : stGb false (cfg 2) ts1 = true := by decide +kernel
set_option maxHeartbeats 0 in
theorem st_2_2 : stGb false (cfg 2) ts2 = true := by decide +kernel
set_option maxHeartbeats 0 in
theorem st_2_3 : stGb false (cfg 2) ts3 = true := by decide +kernel
set_option maxHeartbeats 0 in
theorem st_3_1 : stGb false (cfg 3) ts1 = true := by decide +kernel
set_option maxHeartbeats 0 in
theorem st_3_2 : stGb false (cfg 3) ts2 = true := by decide +kernel
set_option maxHeartbeats 0 in
theorem st_3_3 : stGb false (cfg 3) ts3 = true := by decide +kernel
set_option maxHeartbeats 0 in
theorem st_4_1 : stGb false (cfg 4) ts1 = true := by decide +kernel
set_option maxHeartbeats 0 in
theorem st_4_2 : stGb false (cfg 4) ts2 = true := by decide +kernel
set_option maxHeartbeats 0 in
theorem st_4_3 : stGb false (cfg 4) ts3 = true := by decide +kernel
set_option maxHeartbeats 0 in
theorem st_5_1 : stGb false (cfg 5) ts1 = true := by decide +kernel
set_option maxHeartbeats 0 in
theorem st_5_2 : stGb false (cfg 5) ts2 = true := by decide +kernel
set_option maxHeartbeats 0 in
theorem st_5_3 : stGb false (cfg 5) ts3 = true := by decide +kernel
theorem st_1 : ∀ i, i < 6 → stGb false (cfg i) ts1 = true
  | 0, _ => st_0_1
  | 1, _ => st_1_1
  | 2, _ => st_2_1
  | 3, _ => st_3_1
  | 4, _ => st_4_1
  | 5, _ => st_5_1
  | n + 6, h => absurd h (by omega)
theorem st_2 : ∀ i, i < 6 → stGb false (cfg i) ts2 = true
  | 0, _ => st_0_2
  | 1, _ => st_1_2
  | 2, _ => st_2_2
  | 3, _ => st_3_2
  | 4, _ => st_4_2
  | 5, _ => st_5_2
  | n + 6, h => absurd h (by omega)
theorem st_3 : ∀ i, i < 6 → stGb false (cfg i) ts3 = true
  | 0, _ => st_0_3
  | 1, _ => st_1_3
  | 2, _ => st_2_3
  | 3, _ => st_3_3
  | 4, _ => st_4_3
  | 5, _ => st_5_3
  | n + 6, h => absurd h (by omega)
theorem tags_3 : ∀ t ∈ tags, (t ∈ ts1 ∨ t ∈ ts2) ∨ t ∈ ts3 := by decide +kernel
theorem st_all : StAll false := fun g hg a ha c hc => by
  obtain ⟨t, ht, hx⟩ := ha
  obtain ⟨i, hi, e⟩ := cfg_at hg
  have k : ∀ ts, stGb false g ts = true → t ∈ ts → stBb false g a c = true := fun ts h m => List.all_eq_true.mp (List.all_eq_true.mp (List.all_eq_true.mp h t m) a hx) c hc
  have h : stBb false g a c = true := by
    rcases tags_3 t ht with (m | m) | m
    · exact k ts1 (e ▸ st_1 i hi) m
    · exact k ts2 (e ▸ st_2 i hi) m
    · exact k ts3 (e ▸ st_3 i hi) m
  unfold stBb at h
  rw [Bool.and_eq_true, Bool.and_eq_true, Bool.or_eq_true] at h
  refine ⟨okB_ok h.1.1, okB_ok h.1.2, fun q => ?_⟩
  rcases h.2 with z | z
  · rw [z] at q; cases q
  · exact inCo_ok z
end K05

namespace K05
open PySem DI DV DV.Com
/-! ### the law's own check of a chain -/
abbrev eL (o c e m : D) (p i : Option (Bool × D)) : VEnv := [some (false, o), some (false, c), some (false, e), some (false, m), p, i]
abbrev lT : VM Bool := (vOrT (vNotT (vTest (vU (vIsi "int") (vVar 5)))) (vOrT (vTest (vU (vIsi "bool") (vVar 5))) (vNotT (vTest (vChain vLe vLt (vC (.int 0)) (vVar 5) (vU vLen (vVar 0)))))))
abbrev lB : VSM := (vSeq (vIfS lT (vRet (vC (.bool false))) vNext)
      (vSeq (vSet 4 (vCall v_law_successor (vCons (vOp vIx (vVar 0) (vVar 5)) (vCons (vVar 4) (vCons (vC (.bool false)) vNil)))))
      (vIfS (vTest (vOp vIsN (vVar 4) (vC .none))) (vRet (vC (.bool false))) vNext)))
section
variable {g : Cfg} {xs : List D} {c o e m : D}
theorem orF_at {f g : VM Bool} {v v1 : VEnv} {o : VO Bool} (h1 : f v = some (.ok false, v1)) (h2 : g v1 = o) : vOrT f g v = o := by unfold vOrT; rw [h1]; exact h2
theorem orT_at {f g : VM Bool} {v v1 : VEnv} (h1 : f v = some (.ok true, v1)) : vOrT f g v = some (.ok true, v1) := by unfold vOrT; rw [h1]; rfl
theorem lT_at (ho : SeqOf o xs) (p : Option (Bool × D)) (d : D) : lT (eL o c e m p (some (false, d))) = some (.ok (!(idx xs.length d).isSome), eL o c e m p (some (false, d))) := by
  cases d with
  | int i =>
    rw [idx_dec]
    refine orF_at rfl (orF_at rfl (notT_at (test_at (chainI (x := 0) (y := i) (z := xs.length) rfl rfl (u_at (var_at rfl) ho.len)))))
  | bool b => exact orF_at rfl (orT_at rfl)
  | _ => exact orT_at rfl
theorem l_step (hg : g ∈ cfgs) (ho : SeqOf o xs) (hax : ∀ a ∈ xs, IsAx g a) {s d : D} (hs : s ∈ cos g) :
    (∃ r, wk1 false xs s d = some r ∧ r ∈ cos g ∧ lB (eL o c e m (some (false, s)) (some (false, d))) = some (.nx, eL o c e m (some (false, r)) (some (false, d)))) ∨ (wk1 false xs s d = none ∧ ∃ v', lB (eL o c e m (some (false, s)) (some (false, d))) = some (.rt (.bool false), v')) := by
  let v : VEnv := eL o c e m (some (false, s)) (some (false, d))
  have t1 := lT_at (c := c) (e := e) (m := m) ho (some (false, s)) d
  cases q : idx xs.length d with
  | none =>
    rw [q] at t1
    exact .inr ⟨by unfold wk1; rw [q], v, seq_rt (ifT_at t1 rfl)⟩
  | some i =>
    rw [q] at t1
    obtain ⟨ed, hi⟩ := idx_int q
    obtain ⟨a, ha⟩ : ∃ a, xs[i]? = some a := ⟨xs[i], List.getElem?_eq_getElem hi⟩
    have st := st_all g hg a (hax a (List.mem_of_getElem? ha)) s hs
    have ix : vOp vIx (vVar 0) (vVar 5) v = some (.ok a, v) := op_at (var_at rfl) (var_at rfl) (by rw [ed]; exact ho.ix ha)
    have e1 : vSet 4 (vCall v_law_successor (vCons (vOp vIx (vVar 0) (vVar 5)) (vCons (vVar 4) (vCons (vC (.bool false)) vNil)))) v = some (.nx, eL o c e m (some (false, svb false a s)) (some (false, d))) :=
      set_at1 (i := 4) (call_at (ds := [a, s, .bool false]) (cons_at ix (show vCons (vVar 4) (vCons (vC (.bool false)) vNil) v = some (.ok [s, .bool false], v) from rfl)) st.l)
    let v1 : VEnv := eL o c e m (some (false, svb false a s)) (some (false, d))
    have t2 : vTest (vOp vIsN (vVar 4) (vC .none)) v1 = some (.ok (isN (svb false a s)), v1) := test_at (op_at (var_at rfl) rfl rfl)
    cases q2 : isN (svb false a s) with
    | true =>
      rw [q2] at t2
      refine .inr ⟨by unfold wk1; rw [q]; simp only; rw [ha]; simp only; rw [q2]; rfl, v1, seq_nx (if_at t1 rfl) (seq_nx e1 (ifT_at t2 rfl))⟩
    | false =>
      rw [q2] at t2
      exact .inl ⟨svb false a s, by unfold wk1; rw [q]; simp only; rw [ha]; simp only; rw [q2]; rfl, st.i q2, seq_nx (if_at t1 rfl) (seq_nx e1 (if_at t2 rfl))⟩
theorem l_loop (hg : g ∈ cfgs) (ho : SeqOf o xs) (hax : ∀ a ∈ xs, IsAx g a) : ∀ (l : List D) (s : D) (i : Option (Bool × D)), s ∈ cos g →
    (∃ r i', wk false xs s l = some r ∧ r ∈ cos g ∧ vloop 5 lB l (eL o c e m (some (false, s)) i) = some (.nx, eL o c e m (some (false, r)) i')) ∨ (wk false xs s l = none ∧ ∃ v', vloop 5 lB l (eL o c e m (some (false, s)) i) = some (.rt (.bool false), v'))
  | [], s, i, hs => .inl ⟨s, i, rfl, hs, rfl⟩
  | d :: l, s, i, hs => by
    have un : ∀ o', lB (eL o c e m (some (false, s)) (some (false, d))) = o' → vloop 5 lB (d :: l) (eL o c e m (some (false, s)) i) = (match o' with
      | some (.nx, v1) => vloop 5 lB l v1
      | some (.ct, v1) => vloop 5 lB l v1
      | some (.bk, v1) => some (.nx, v1)
      | o => o) := fun o' h => by rw [← h]; rfl
    rcases l_step (c := c) (e := e) (m := m) hg ho hax (d := d) hs with ⟨r, h1, h2, h3⟩ | ⟨h1, v', h3⟩
    · rw [un _ h3]
      have ew : wk false xs s (d :: l) = wk false xs r l := by
        show (match wk1 false xs s d with | some s => wk false xs s l | none => none) = _
        rw [h1]
      rw [ew]
      exact l_loop hg ho hax l r (some (false, d)) h2
    · rw [un _ h3]
      refine .inr ⟨?_, v', rfl⟩
      show (match wk1 false xs s d with | some s => wk false xs s l | none => none) = _
      rw [h1]
theorem leads_spec (hg : g ∈ cfgs) (ho : SeqOf o xs) (hax : ∀ a ∈ xs, IsAx g a) (hc : c ∈ cos g) (he : e ∈ cos g) (m : D) : v_law_leads [o, c, e, m] = some (.ok (.bool (chB false xs c e m))) := by
  let v : VEnv := eL o c e m none none
  have key : ∃ v', vb_law_leads v = some (.rt (.bool (chB false xs c e m)), v') := by
    have t1 := notT_at (test_at (show vU (vIsi "list") (vVar 3) v = some (.ok (.bool (isL m)), v) from u_at (var_at rfl) (isi_list m)))
    cases m with
    | list l =>
      have t2 : vTest (vOp vGt (vU vLen (vVar 3)) (vC (.int 40))) v = some (.ok (decide ((l.length : Int) > 40)), v) := test_at (op_at (u_at (var_at rfl) rfl) rfl rfl)
      have t3 : vOrT (vNotT (vTest (vU (vIsi "list") (vVar 3)))) (vTest (vOp vGt (vU vLen (vVar 3)) (vC (.int 40)))) v = some (.ok (decide ((l.length : Int) > 40)), v) := orF_at t1 t2
      by_cases hl : l.length ≤ 40
      · rw [decide_eq_false (by omega)] at t3
        have s2 : vSet 4 (vVar 1) v = some (.nx, eL o c e (.list l) (some (false, c)) none) := rfl
        rcases l_loop (c := c) (e := e) (m := .list l) hg ho hax l c none hc with ⟨r, i', h1, h2, h3⟩ | ⟨h1, v', h3⟩
        · have s3 : vFor (vVar 3) 5 lB (eL o c e (.list l) (some (false, c)) none) = some (.nx, eL o c e (.list l) (some (false, r)) i') := h3
          refine ⟨eL o c e (.list l) (some (false, r)) i', ?_⟩
          have ec : chB false xs c e (.list l) = eqT r e := by unfold chB; simp only; rw [h1, decide_eq_true hl]; rfl
          rw [ec]
          refine seq_nx (if_at t3 rfl) (seq_nx s2 (seq_nx s3 ?_))
          unfold vRet
          rw [op_at (var_at rfl) (var_at rfl) (eq_cos hg h2 he)]; rfl
        · have s3 : vFor (vVar 3) 5 lB (eL o c e (.list l) (some (false, c)) none) = some (.rt (.bool false), v') := h3
          refine ⟨v', ?_⟩
          have ec : chB false xs c e (.list l) = false := by unfold chB; simp only; rw [h1, Bool.and_false]
          rw [ec]
          exact seq_nx (if_at t3 rfl) (seq_nx s2 (seq_rt s3))
      · rw [decide_eq_true (by omega)] at t3
        refine ⟨v, ?_⟩
        have ec : chB false xs c e (.list l) = false := by unfold chB; simp only; rw [decide_eq_false hl]; rfl
        rw [ec]
        exact seq_rt (ifT_at t3 rfl)
    | _ =>
      have t3 : vOrT (vNotT (vTest (vU (vIsi "list") (vVar 3)))) (vTest (vOp vGt (vU vLen (vVar 3)) (vC (.int 40)))) v = some (.ok true, v) := orT_at t1
      exact ⟨v, seq_rt (ifT_at t3 rfl)⟩
  obtain ⟨v', all⟩ := key
  show (match vb_law_leads v with | some (.nx, _) => _ | some (.rt d, _) => _ | some (.exc c fs, _) => _ | _ => _) = _
  rw [all]; all_goals rfl
end
end K05

namespace K05
open PySem DI DV DV.Com
/-! ### the law's own search: concepts with their distance -/
abbrev Tb := List (D × Nat)
def tD (T : Tb) : List D := T.map fun p => .tuple [p.1, .int (p.2 : Nat)]
abbrev kT (T : Tb) : List D := T.map (·.1)
theorem kT_app (T U : Tb) : kT (T ++ U) = kT T ++ kT U := List.map_append
structure RI (g : Cfg) (xs : List D) (c : D) (n : Nat) (T : Tb) : Prop where
  kin : ∀ z ∈ kT T, z ∈ cos g
  nd : (kT T).Nodup
  rn : ∀ p ∈ T, Rn false xs c p.2 p.1
  c0 : (c, 0) ∈ T
  so : T.Pairwise fun p q => p.2 ≤ q.2
  le : ∀ p ∈ T, p.2 ≤ n + 1
theorem RI.sz {g : Cfg} (hg : g ∈ cfgs) {xs : List D} {c : D} {n : Nat} {T : Tb} (h : RI g xs c n T) : T.length ≤ 10 := by
  have := nd_len (kT T) (cos g) h.nd h.kin
  have := cos_len hg
  simp at *; omega
abbrev eR (o c : D) (T : Tb) (p : Nat) (a i n t k r : Option (Bool × D)) : VEnv := [some (false, o), some (false, c), some (true, .list (tD T)), some (false, .int (p : Nat)), a, i, n, t, k, r]
abbrev kL : VM D := (vLcG (vItems (vAny 2)) [8, 9] (vtT 2 (vtC (vtN 8) (vtC (vtN 9) vt0))) vYes (vVar 8))
theorem kl_loop {o c : D} {T0 : Tb} {p : Nat} {a i n t : Option (Bool × D)} : ∀ (T : Tb) (acc : List D) (k r : Option (Bool × D)), acc.length + T.length ≤ 100 → ∃ k' r', vlcG [8, 9] (vtT 2 (vtC (vtN 8) (vtC (vtN 9) vt0))) vYes (vVar 8) (tD T) acc (eR o c T0 p a i n t k r) = some (.ok (acc ++ kT T), eR o c T0 p a i n t k' r')
  | [], acc, k, r, h => by
    refine ⟨k, r, ?_⟩
    show (if szW acc.length then some (VR.ok acc, eR o c T0 p a i n t k r) else none) = _
    rw [if_pos (show szW acc.length = true from decide_eq_true (by simp at h; omega))]; simp
  | q :: T, acc, k, r, h => by
    obtain ⟨k', r', e⟩ := kl_loop (o := o) (c := c) (T0 := T0) (p := p) (a := a) (i := i) (n := n) (t := t) T (acc ++ [q.1]) (some (false, q.1)) (some (false, .int (q.2 : Nat))) (by simp at h ⊢; omega)
    refine ⟨k', r', ?_⟩
    show (if szW acc.length then vlcG [8, 9] (vtT 2 (vtC (vtN 8) (vtC (vtN 9) vt0))) vYes (vVar 8) (tD T) (acc ++ [q.1]) (eR o c T0 p a i n t (some (false, q.1)) (some (false, .int (q.2 : Nat)))) else none) = _
    rw [if_pos (show szW acc.length = true from decide_eq_true (by simp at h; omega)), e]; simp
theorem kl_at {o c : D} {T : Tb} {p : Nat} {a i n t : Option (Bool × D)} {k r : D} {fk fr : Option (Bool × D)} (hk : fk = none ∨ ∃ d, fk = some (false, d)) (hr : fr = none ∨ ∃ d, fr = some (false, d)) (h : T.length ≤ 100) : kL (eR o c T p a i n t fk fr) = some (.ok (.list (kT T)), eR o c T p a i n t fk fr) := by
  obtain ⟨k', r', e⟩ := kl_loop (o := o) (c := c) (T0 := T) (p := p) (a := a) (i := i) (n := n) (t := t) T [] fk fr (by simpa using h)
  show vLcIG [8, 9] (vtT 2 (vtC (vtN 8) (vtC (vtN 9) vt0))) vYes (vVar 8) (tD T) (eR o c T p a i n t fk fr) = _
  unfold vLcIG
  rw [if_pos (by rcases hk with rfl | ⟨_, rfl⟩ <;> rcases hr with rfl | ⟨_, rfl⟩ <;> rfl), e]
  rfl
abbrev rB : VSM := (vSeq (vSet 7 (vCall v_law_successor (vCons (vVar 4) (vCons (vVar 5) (vCons (vC (.bool false)) vNil)))))
      (vIfS (vAndT (vTest (vOp vNotN (vVar 7) (vC .none))) (vTest (vOp vNotIn (vVar 7) kL))) (vDrop (vApp 2 (vTup (vCons (vVar 7) (vCons (vOp vAdd (vVar 6) (vC (.int 1))) vNil))))) vNext))
theorem tD_app (T : Tb) (x : D) (n : Nat) : tD (T ++ [(x, n)]) = tD T ++ [.tuple [x, .int (n : Nat)]] := by unfold tD; simp
section
variable {g : Cfg} {xs : List D} {c o : D}
theorem r_step (hg : g ∈ cfgs) {T : Tb} {p n : Nat} {s a : D} (I : RI g xs c n T) (hs : (s, n) ∈ T) (hax : IsAx g a) (ha : a ∈ xs) (t : Option (Bool × D)) :
    ∃ Q t', rB (eR o c T p (some (false, a)) (some (false, s)) (some (false, .int (n : Nat))) t none none) = some (.nx, eR o c (T ++ Q) p (some (false, a)) (some (false, s)) (some (false, .int (n : Nat))) t' none none) ∧ RI g xs c n (T ++ Q) ∧ (isN (svb false a s) = false → svb false a s ∈ kT (T ++ Q)) := by
  have hS := cgood hg
  have sS := I.kin s (List.mem_map.mpr ⟨_, hs, rfl⟩)
  have st := st_all g hg a hax s sS
  have le := I.sz hg
  let nn : Option (Bool × D) := some (false, .int (n : Nat))
  have e1 : vSet 7 (vCall v_law_successor (vCons (vVar 4) (vCons (vVar 5) (vCons (vC (.bool false)) vNil)))) (eR o c T p (some (false, a)) (some (false, s)) nn t none none) = some (.nx, eR o c T p (some (false, a)) (some (false, s)) nn (some (false, svb false a s)) none none) :=
    set_at1 (i := 7) (call_at (show vCons (vVar 4) (vCons (vVar 5) (vCons (vC (.bool false)) vNil)) (eR o c T p (some (false, a)) (some (false, s)) nn t none none) = some (.ok [a, s, .bool false], eR o c T p (some (false, a)) (some (false, s)) nn t none none) from rfl) st.l)
  let v1 : VEnv := eR o c T p (some (false, a)) (some (false, s)) nn (some (false, svb false a s)) none none
  have t1 : vTest (vOp vNotN (vVar 7) (vC .none)) v1 = some (.ok (!isN (svb false a s)), v1) := test_at (op_at (var_at rfl) rfl rfl)
  cases q : isN (svb false a s) with
  | true =>
    rw [q] at t1
    refine ⟨[], some (false, svb false a s), ?_, by rw [List.append_nil]; exact I, fun z => (by cases z)⟩
    rw [List.append_nil]
    exact seq_nx e1 (if_at (andF_at t1) rfl)
  | false =>
    rw [q] at t1
    have rS := st.i q
    have kl : kL v1 = some (.ok (.list (kT T)), v1) := kl_at (k := .none) (r := .none) (.inl rfl) (.inl rfl) (by omega)
    have t2 : vTest (vOp vNotIn (vVar 7) kL) v1 = some (.ok (!((kT T).any fun z => eqT z (svb false a s))), v1) := test_at (op_at (var_at rfl) kl (hS.notIn I.kin rS))
    cases q2 : ((kT T).any fun z => eqT z (svb false a s)) with
    | true =>
      rw [q2] at t2
      refine ⟨[], some (false, svb false a s), ?_, by rw [List.append_nil]; exact I, fun _ => by rw [List.append_nil]; exact (hS.any I.kin rS).mp q2⟩
      rw [List.append_nil]
      exact seq_nx e1 (if_at (andT_at t1 t2) rfl)
    | false =>
      rw [q2] at t2
      have tp : vTup (vCons (vVar 7) (vCons (vOp vAdd (vVar 6) (vC (.int 1))) vNil)) v1 = some (.ok (.tuple [svb false a s, .int ((n + 1 : Nat) : Int)]), v1) := tup_at (cons_at (var_at rfl) (cons_at (op_at (var_at rfl) rfl (show vAdd (.int (n : Nat)) (.int 1) = some (.int ((n + 1 : Nat) : Int)) from rfl)) nil_at)) rfl
      have e3 : vDrop (vApp 2 (vTup (vCons (vVar 7) (vCons (vOp vAdd (vVar 6) (vC (.int 1))) vNil)))) v1 = some (.nx, eR o c (T ++ [(svb false a s, n + 1)]) p (some (false, a)) (some (false, s)) nn (some (false, svb false a s)) none none) := by
        have := drop_at (app_at (i := 2) (v := v1) (xs := tD T) rfl tp rfl (decide_eq_true (by unfold tD; simp; omega)))
        rw [this, ← tD_app]; rfl
      have ad : kT (T ++ [(svb false a s, n + 1)]) = addG (kT T) (svb false a s) := by unfold addG; rw [q2]; simp
      refine ⟨[(svb false a s, n + 1)], some (false, svb false a s), seq_nx e1 (ifT_at (andT_at t1 t2) e3), ⟨?_, ?_, fun z hz => ?_, List.mem_append_left _ I.c0, ?_, fun z hz => ?_⟩, fun _ => by simp⟩
      · rw [ad]; exact addG_in I.kin rS
      · rw [ad]; exact addG_nd hS I.kin I.nd rS
      · rcases List.mem_append.mp hz with z | z
        · exact I.rn _ z
        · rw [List.mem_singleton.mp z]; exact (I.rn _ hs).succ ha q
      · refine List.pairwise_append.mpr ⟨I.so, List.pairwise_singleton _ _, fun x hx y hy => ?_⟩
        rw [List.mem_singleton.mp hy]; exact I.le x hx
      · rcases List.mem_append.mp hz with z | z
        · exact I.le _ z
        · rw [List.mem_singleton.mp z]; exact Nat.le_refl _
theorem r_loop (hg : g ∈ cfgs) (hax : ∀ a ∈ xs, IsAx g a) {p n : Nat} {s : D} : ∀ (as : List D) (T : Tb) (a t : Option (Bool × D)), (∀ a ∈ as, a ∈ xs) → RI g xs c n T → (s, n) ∈ T →
    ∃ Q a' t', vloop 4 rB as (eR o c T p a (some (false, s)) (some (false, .int (n : Nat))) t none none) = some (.nx, eR o c (T ++ Q) p a' (some (false, s)) (some (false, .int (n : Nat))) t' none none) ∧ RI g xs c n (T ++ Q) ∧ ∀ a ∈ as, isN (svb false a s) = false → svb false a s ∈ kT (T ++ Q)
  | [], T, a, t, _, I, _ => ⟨[], a, t, by simp [vloop], by rw [List.append_nil]; exact I, fun _ h => (by cases h)⟩
  | d :: as, T, a, t, ha, I, hp => by
    obtain ⟨Q1, t1, e1, I1, m1⟩ := r_step hg (o := o) (p := p) I hp (hax d (ha d List.mem_cons_self)) (ha d List.mem_cons_self) t
    obtain ⟨Q2, a2, t2, e2, I2, m2⟩ := r_loop hg hax as (T ++ Q1) (some (false, d)) t1 (fun x hx => ha x (List.mem_cons_of_mem _ hx)) I1 (List.mem_append_left _ hp)
    refine ⟨Q1 ++ Q2, a2, t2, ?_, by rw [← List.append_assoc]; exact I2, fun x hx q => ?_⟩
    · show (match rB (eR o c T p (some (false, d)) (some (false, s)) (some (false, .int (n : Nat))) t none none) with
        | some (.nx, v1) => vloop 4 rB as v1
        | some (.ct, v1) => vloop 4 rB as v1
        | some (.bk, v1) => some (.nx, v1)
        | o => o) = _
      rw [e1]
      simp only
      rw [e2, List.append_assoc]
    · rw [← List.append_assoc]
      rcases List.mem_cons.mp hx with z | z
      · subst z
        have := m1 q
        rw [kT_app]; exact List.mem_append_left _ this
      · exact m2 x z q
abbrev rT : VM Bool := (vTest (vOp vLt (vVar 3) (vU vLen (vAny 2))))
abbrev rW : VSM := (vSeq (vUnpA (vOp vIx (vAny 2) (vVar 3)) 2 (vtC (vtN 5) (vtC (vtN 6) vt0)))
      (vSeq (vFor (vVar 0) 4 rB)
      (vSet 3 (vOp vAdd (vVar 3) (vC (.int 1))))))
/-- closed up to p -/
def Cl (xs : List D) (T : Tb) (p : Nat) : Prop := ∀ q ∈ T.take p, ∀ a ∈ xs, isN (svb false a q.1) = false → ∃ r ∈ T, r.1 = svb false a q.1 ∧ r.2 ≤ q.2 + 1
/-- what holds at the test -/
structure WI (g : Cfg) (xs : List D) (c : D) (T : Tb) (p : Nat) : Prop where
  i : ∃ n, RI g xs c n T ∧ ∀ q, T[p]? = some q → q.2 = n
  cl : Cl xs T p
  le : p ≤ T.length
theorem r_while (hg : g ∈ cfgs) (ho : SeqOf o xs) (hax : ∀ a ∈ xs, IsAx g a) : ∀ (m : Nat) (T : Tb) (p : Nat), WI g xs c T p → 11 ≤ m + p → ∀ (a i n t : Option (Bool × D)),
    ∃ T' p' a' i' n' t', vloopC rT rW m (eR o c T p a i n t none none) = some (.nx, eR o c T' p' a' i' n' t' none none) ∧ WI g xs c T' T'.length
  | 0, T, p, I, hm, a, i, n, t => by obtain ⟨_, h, _⟩ := I.i; have := h.sz hg; have := I.le; omega
  | m + 1, T, p, I, hm, a, i, n, t => by
    let v : VEnv := eR o c T p a i n t none none
    obtain ⟨n0, RIh, hn0⟩ := I.i
    have szT := RIh.sz hg
    have t1 : rT v = some (.ok (decide ((p : Int) < ((tD T).length : Int))), v) := test_at (op_at (var_at rfl) (u_at (any_at rfl) rfl) rfl)
    have lT : (tD T).length = T.length := by unfold tD; simp
    rw [lT] at t1
    by_cases q : p < T.length
    · rw [decide_eq_true (show (p : Int) < (T.length : Int) by omega)] at t1
      obtain ⟨sp, hsp⟩ : ∃ sp, T[p]? = some sp := ⟨T[p], List.getElem?_eq_getElem q⟩
      obtain ⟨s, n1⟩ := sp
      have hn1 : n1 = n0 := hn0 _ hsp
      subst hn1
      have hsm : (s, n1) ∈ T := List.mem_of_getElem? hsp
      have ix : vOp vIx (vAny 2) (vVar 3) v = some (.ok (.tuple [s, .int (n1 : Nat)]), v) := op_at (any_at rfl) (var_at rfl) (L2.atI_nat (by unfold tD; rw [List.getElem?_map, hsp]; rfl))
      have e1 : vUnpA (vOp vIx (vAny 2) (vVar 3)) 2 (vtC (vtN 5) (vtC (vtN 6) vt0)) v = some (.nx, eR o c T p a (some (false, s)) (some (false, .int (n1 : Nat))) t none none) := by
        unfold vUnpA
        rw [ix]; rfl
      obtain ⟨Q, a', t', e2, I2, m2⟩ := r_loop hg (o := o) (p := p) hax xs T a t (fun _ h => h) RIh hsm
      have e2 : vFor (vVar 0) 4 rB (eR o c T p a (some (false, s)) (some (false, .int (n1 : Nat))) t none none) = some (.nx, eR o c (T ++ Q) p a' (some (false, s)) (some (false, .int (n1 : Nat))) t' none none) := by
        unfold vFor
        rw [var_at (d := o) rfl]
        simp only [vbS]
        rw [ho.items]
        exact e2
      have e3 : vSet 3 (vOp vAdd (vVar 3) (vC (.int 1))) (eR o c (T ++ Q) p a' (some (false, s)) (some (false, .int (n1 : Nat))) t' none none) = some (.nx, eR o c (T ++ Q) (p + 1) a' (some (false, s)) (some (false, .int (n1 : Nat))) t' none none) := set_at1 (i := 3) (show vOp vAdd (vVar 3) (vC (.int 1)) (eR o c (T ++ Q) p a' (some (false, s)) (some (false, .int (n1 : Nat))) t' none none) = some (.ok (.int ((p + 1 : Nat) : Int)), eR o c (T ++ Q) p a' (some (false, s)) (some (false, .int (n1 : Nat))) t' none none) from rfl)
      have body : rW v = some (.nx, eR o c (T ++ Q) (p + 1) a' (some (false, s)) (some (false, .int (n1 : Nat))) t' none none) := seq_nx e1 (seq_nx e2 e3)
      have W' : WI g xs c (T ++ Q) (p + 1) := by
        refine ⟨?_, fun r hr y hy qy => ?_, by simp; omega⟩
        · cases q3 : (T ++ Q)[p + 1]? with
          | none => exact ⟨n1, I2, fun z hz => (by cases hz)⟩
          | some z =>
            refine ⟨z.2, ⟨I2.kin, I2.nd, I2.rn, I2.c0, I2.so, fun w hw => ?_⟩, fun w hw => (by cases hw; rfl)⟩
            have hp : (T ++ Q)[p]? = some (s, n1) := by rw [List.getElem?_append_left q]; exact hsp
            have l1 := List.getElem?_eq_some_iff.mp hp
            have l2 := List.getElem?_eq_some_iff.mp q3
            have := List.pairwise_iff_getElem.mp I2.so p (p + 1) l1.1 l2.1 (Nat.lt_succ_self p)
            rw [l1.2, l2.2] at this
            have := I2.le w hw
            simp at *; omega
        · have hr' : r ∈ T.take p ∨ r = (s, n1) := by
            have : (T ++ Q).take (p + 1) = T.take p ++ [(s, n1)] := by
              rw [List.take_append_of_le_length (by omega), List.take_add_one, hsp]; rfl
            rw [this] at hr
            rcases List.mem_append.mp hr with z | z
            · exact .inl z
            · exact .inr (List.mem_singleton.mp z)
          rcases hr' with z | z
          · obtain ⟨w, h1, h2, h3⟩ := I.cl r z y hy qy
            exact ⟨w, List.mem_append_left _ h1, h2, h3⟩
          · subst z
            obtain ⟨w, h1, h2⟩ := List.mem_map.mp (m2 y hy qy)
            exact ⟨w, h1, h2, I2.le w h1⟩
      obtain ⟨T', p', a2, i2, n2, t2, e, W2⟩ := r_while hg ho hax m (T ++ Q) (p + 1) W' (by omega) a' (some (false, s)) (some (false, .int (n1 : Nat))) t'
      refine ⟨T', p', a2, i2, n2, t2, ?_, W2⟩
      unfold vloopC
      rw [t1]; simp only
      rw [body]; exact e
    · rw [decide_eq_false (show ¬ (p : Int) < (T.length : Int) by omega)] at t1
      have ep : p = T.length := by have := I.le; omega
      refine ⟨T, p, a, i, n, t, ?_, ep ▸ I⟩
      unfold vloopC
      rw [t1]
/-! the dict of it -/
def tbD (T : Tb) : List (D × D) := T.map fun p => (p.1, .int (p.2 : Nat))
theorem pairs_tD : ∀ T : Tb, pairsD (tD T) = some (tbD T)
  | [] => rfl
  | p :: T => by
    show (match pairD (.tuple [p.1, .int (p.2 : Nat)]), pairsD (tD T) with | some p, some ps => some (p :: ps) | _, _ => none) = _
    rw [pairs_tD T]; rfl
theorem look_tb {S : List D} (hS : Good S) {x : D} (hx : x ∈ S) {k : NestedKey} (hk : nkD x = some k) : ∀ {T : Tb}, (∀ z ∈ kT T, z ∈ S) → ((lookD (tbD T) k).isSome = ((kT T).any fun z => eqT z x)) ∧ (x ∈ kT T → ∃ n, (x, n) ∈ T ∧ lookD (tbD T) k = some (.int (n : Nat)))
  | [], _ => ⟨rfl, fun h => (by cases h)⟩
  | p :: T, h => by
    have hp : p.1 ∈ S := h p.1 List.mem_cons_self
    obtain ⟨kp, h1, h2⟩ := hS.nk hp
    obtain ⟨i1, i2⟩ := look_tb hS hx hk (T := T) fun z hz => h z (List.mem_cons_of_mem _ hz)
    have el : lookD (tbD (p :: T)) k = if nkD p.1 = some k then some (.int (p.2 : Nat)) else lookD (tbD T) k := rfl
    have eT : eqT p.1 x = decide (kp = k) := eqT_nk h2 hk
    rw [el, h2]
    by_cases z : kp = k
    · subst z
      rw [if_pos rfl]
      have pe : p.1 = x := (hS.pair hp hx).1 (by rw [eT]; simp)
      refine ⟨?_, fun _ => ⟨p.2, ?_, rfl⟩⟩
      · show true = (eqT p.1 x || _)
        rw [eT]; simp
      · rw [← pe]; exact List.mem_cons_self
    · rw [if_neg (fun y => z (Option.some.inj y))]
      refine ⟨?_, fun hm => ?_⟩
      · show _ = (eqT p.1 x || _)
        rw [eT, decide_eq_false z, Bool.false_or]; exact i1
      · rcases List.mem_cons.mp hm with y | y
        · exfalso
          rw [y] at hk
          have := h2.symm.trans hk
          exact z (Option.some.inj this)
        · obtain ⟨n, h3, h4⟩ := i2 y
          exact ⟨n, List.mem_cons_of_mem _ h3, h4⟩
theorem storeAll_tb {S : List D} (hS : Good S) : ∀ (U T : Tb), (∀ z ∈ kT T, z ∈ S) → (∀ z ∈ kT U, z ∈ S) → (kT (T ++ U)).Nodup → storeAllD (tbD T) (tbD U) = some (tbD (T ++ U))
  | [], T, _, _, _ => by rw [List.append_nil]; rfl
  | p :: U, T, hT, hU, hn => by
    have hp : p.1 ∈ S := hU p.1 List.mem_cons_self
    obtain ⟨k, h1, h2⟩ := hS.nk hp
    have np : p.1 ∉ kT T := fun z => by
      rw [kT_app] at hn
      exact (List.nodup_append.mp hn).2.2 p.1 z p.1 List.mem_cons_self rfl
    have l1 := (look_tb hS hp h2 (T := T) hT).1
    have : ((kT T).any fun z => eqT z p.1) = false := by
      rw [← Bool.not_eq_true]; intro z; exact np ((hS.any hT hp).mp z)
    rw [this] at l1
    have sd : storeD (tbD T) p.1 k (.int (p.2 : Nat)) = tbD (T ++ [p]) := by
      unfold storeD
      rw [l1]; simp [tbD]
    show (match keyD p.1 with | some k => storeAllD (storeD (tbD T) p.1 k (.int (p.2 : Nat))) (tbD U) | none => none) = _
    rw [h1]; simp only
    rw [sd, storeAll_tb hS U (T ++ [p]) (fun z hz => by
      rw [kT_app] at hz
      rcases List.mem_append.mp hz with y | y
      · exact hT z y
      · rw [List.mem_singleton.mp y]; exact hp) (fun z hz => hU z (List.mem_cons_of_mem _ hz)) (by rw [List.append_assoc]; exact hn), List.append_assoc]
    rfl
theorem rounds_spec (hg : g ∈ cfgs) (ho : SeqOf o xs) (hax : ∀ a ∈ xs, IsAx g a) (hc : c ∈ cos g) : ∃ T : Tb, v_law_rounds [o, c] = some (.ok (.dict (tbD T))) ∧ (∀ z ∈ kT T, z ∈ cos g) ∧ Fin' false xs c (fun x n => (x, n) ∈ T) := by
  have hS := cgood hg
  have s1 : vSetO 2 (vLst (vCons (vTup (vCons (vVar 1) (vCons (vC (.int 0)) vNil))) vNil)) [some (false, o), some (false, c), none, none, none, none, none, none, none, none] = some (.nx, [some (false, o), some (false, c), some (true, .list (tD [(c, 0)])), none, none, none, none, none, none, none]) := rfl
  have s2 : vSet 3 (vC (.int 0)) [some (false, o), some (false, c), some (true, .list (tD [(c, 0)])), none, none, none, none, none, none, none] = some (.nx, eR o c [(c, 0)] 0 none none none none none none) := rfl
  have W0 : WI g xs c [(c, 0)] 0 := by
    refine ⟨⟨0, ⟨fun z hz => by rw [List.mem_singleton.mp hz]; exact hc, List.nodup_cons.mpr ⟨List.not_mem_nil, List.nodup_nil⟩, fun p hp => by rw [List.mem_singleton.mp hp]; exact .zero, List.mem_singleton.mpr rfl, List.pairwise_singleton _ _, fun p hp => by rw [List.mem_singleton.mp hp]; exact Nat.zero_le _⟩, fun q hq => by cases hq; rfl⟩, fun q hq => (by cases hq), Nat.zero_le _⟩
  obtain ⟨T, p', a', i', n', t', e, W⟩ := r_while hg (o := o) ho hax 1000 [(c, 0)] 0 W0 (by decide) none none none none
  have s3 : vWhile rT rW (eR o c [(c, 0)] 0 none none none none none none) = some (.nx, eR o c T p' a' i' n' t' none none) := e
  obtain ⟨n, RIh, _⟩ := W.i
  have sz := RIh.sz hg
  have sa := storeAll_tb hS T [] (fun z hz => (by cases hz)) RIh.kin RIh.nd
  have dp : vDictP (.list (tD T)) = some (.dict (tbD T)) := by
    unfold vDictP
    simp only
    rw [pairs_tD]; simp only
    have sa : storeAllD [] (tbD T) = some (tbD T) := sa
    rw [sa]
    cases T with
    | nil => exact absurd RIh.c0 List.not_mem_nil
    | cons q T =>
      show (if szW (tD (q :: T)).length then some (PyData.dict (tbD (q :: T))) else none) = _
      rw [if_pos (show szW (tD (q :: T)).length = true from decide_eq_true (by unfold tD; simp at sz ⊢; omega))]
  refine ⟨T, ?_, RIh.kin, ⟨RIh.c0, fun x n h => RIh.rn _ h, fun z n y h hy qy => ?_, fun x n m h1 h2 => ?_⟩⟩
  · have all : vb_law_rounds [some (false, o), some (false, c), none, none, none, none, none, none, none, none] = some (.rt (.dict (tbD T)), eR o c T p' a' i' n' t' none none) := by
      refine seq_nx s1 (seq_nx s2 (seq_nx s3 ?_))
      unfold vRet
      rw [u_at (any_at rfl) dp]; rfl
    show (match vb_law_rounds [some (false, o), some (false, c), none, none, none, none, none, none, none, none] with | some (.nx, _) => _ | some (.rt d, _) => _ | some (.exc c fs, _) => _ | _ => _) = _
    rw [all]; all_goals rfl
  · obtain ⟨r, h1, h2, h3⟩ := W.cl (z, n) (by rw [List.take_length]; exact h) y hy qy
    exact ⟨r.2, h3, by rw [← h2]; exact h1⟩
  · have key : ∀ {T : Tb}, (kT T).Nodup → (x, n) ∈ T → (x, m) ∈ T → n = m := fun {T} => by
      induction T with
      | nil => intro _ h _; cases h
      | cons p T ih =>
        intro hn h1 h2
        obtain ⟨n1, n2⟩ := List.nodup_cons.mp (show (p.1 :: kT T).Nodup from hn)
        rcases List.mem_cons.mp h1 with z | z
        · rcases List.mem_cons.mp h2 with y | y
          · have := z.trans y.symm; cases this; rfl
          · exact absurd (List.mem_map.mpr ⟨_, y, by rw [← z]⟩) n1
        · rcases List.mem_cons.mp h2 with y | y
          · exact absurd (List.mem_map.mpr ⟨_, z, by rw [← y]⟩) n1
          · exact ih n2 z y
    exact key RIh.nd h1 h2
end
end K05

namespace K05
open PySem DI DV DV.Com
/-! ### a chain with a change: it has a value -/
theorem cut_len (ds : List D) (lo hi : Option Int) : (cutD ds lo hi).length ≤ ds.length := by
  unfold cutD
  rw [List.length_take, List.length_drop]; omega
abbrev eM (d : D) (l : List D) (n : Nat) (p q r : Option (Bool × D)) : VEnv := [some (true, d), some (false, .list l), some (false, .int (n : Nat)), p, q, r]
theorem drawI {d : D} {c : Nat} {v : VEnv} {gs : VM (List D)} (sd : SD d) (h0 : 0 < c) (h1 : c < 1000) (hg : gs v = some (.ok [.int (c : Nat)], v)) (hv : v[0]? = some (some (true, d))) : ∃ (r : Nat) (d' : D), r < c ∧ SD d' ∧ vCallI v_law_draw 0 gs v = some (.ok (.int r), v.set 0 (some (true, d'))) := by
  obtain ⟨r, d', h2, h3, h4⟩ := draw_spec (c := (c : Nat)) sd (by omega) (by omega)
  exact ⟨r, d', by omega, h3, callI_at hg hv h4⟩
theorem addL_ok {a b : List D} (h : a.length + b.length ≤ 1000) : vAddL (.list a) (.list b) = some (.list (a ++ b)) := by
  unfold vAddL; simp only
  rw [if_pos (show szW (a.length + b.length) = true from decide_eq_true (by omega))]
theorem add_ok {a b : List D} (h : a.length + b.length ≤ 1000) : vAdd (.list a) (.list b) = some (.list (a ++ b)) := by
  unfold vAdd; simp only
  rw [if_pos (show szW (a.length + b.length) = true from decide_eq_true (by omega))]
theorem mutated_spec {d : D} (sd : SD d) {l : List D} (hl : l.length ≤ 100) {n : Nat} (hn : n ≤ 100) : ∃ m d', SD d' ∧ v_law_mutated d [.list l, .int (n : Nat)] = some (.ok m, d') := by
  have key : ∃ m d1 v', SD d1 ∧ vb_law_mutated (eM d l n none none none) = some (.rt m, v') ∧ v'[0]? = some (some (true, d1)) := by
    obtain ⟨p, d1, hp, sd1, e1⟩ := drawI (c := l.length + 1) (v := eM d l n none none none) (gs := vCons (vOp vAdd (vU vLen (vVar 1)) (vC (.int 1))) vNil) sd (by omega) (by omega) rfl rfl
    have s1 : vSet 3 (vCallI v_law_draw 0 (vCons (vOp vAdd (vU vLen (vVar 1)) (vC (.int 1))) vNil)) (eM d l n none none none) = some (.nx, eM d1 l n (some (false, .int (p : Nat))) none none) := set_at1 (i := 3) e1
    let pp : Option (Bool × D) := some (false, .int (p : Nat))
    obtain ⟨w, d2, hw, sd2, e2⟩ := drawI (c := n + 1) (v := eM d1 l n pp none none) (gs := vCons (vOp vAdd (vVar 2) (vC (.int 1))) vNil) sd1 (by omega) (by omega) rfl rfl
    let items : List D := [.none, .bool true, .bool false, .str "0", .int (-1), .int (n : Nat), .list [.int 0], .int (10 ^ 20), .int (w : Nat)]
    have ls : vLst (vCons (vC .none) (vCons (vC (.bool true)) (vCons (vC (.bool false)) (vCons (vC (.str "0")) (vCons (vNeg (vC (.int 1))) (vCons (vVar 2) (vCons (vLst (vCons (vC (.int 0)) vNil)) (vCons (vOp vPow (vC (.int 10)) (vC (.int 20))) (vCons (vCallI v_law_draw 0 (vCons (vOp vAdd (vVar 2) (vC (.int 1))) vNil)) vNil))))))))) (eM d1 l n pp none none) = some (.ok (.list items), eM d2 l n pp none none) := by
      refine lst_at (cons_at rfl (cons_at rfl (cons_at rfl (cons_at rfl (cons_at rfl (cons_at rfl (cons_at rfl (cons_at ?_ (cons_at e2 nil_at))))))))) rfl
      exact op_at rfl rfl (by rfl)
    obtain ⟨od, d3, ho, sd3, e3⟩ := choose_spec (xs := items) sd2 (by simp [items]) (by simp [items])
    have s2 : vSet 4 (vCallI v_law_choose 0 (vCons (vLst (vCons (vC .none) (vCons (vC (.bool true)) (vCons (vC (.bool false)) (vCons (vC (.str "0")) (vCons (vNeg (vC (.int 1))) (vCons (vVar 2) (vCons (vLst (vCons (vC (.int 0)) vNil)) (vCons (vOp vPow (vC (.int 10)) (vC (.int 20))) (vCons (vCallI v_law_draw 0 (vCons (vOp vAdd (vVar 2) (vC (.int 1))) vNil)) vNil)))))))))) vNil)) (eM d1 l n pp none none) = some (.nx, eM d3 l n pp (some (false, od)) none) :=
      set_at1 (i := 4) (callI_at (i := 0) (cons_at ls nil_at) rfl e3)
    obtain ⟨ch, d4, hch, sd4, e4⟩ := drawI (c := 5) (v := eM d3 l n pp (some (false, od)) none) (gs := vCons (vC (.int 5)) vNil) sd3 (by omega) (by omega) rfl rfl
    have s3 : vSet 5 (vCallI v_law_draw 0 (vCons (vC (.int 5)) vNil)) (eM d3 l n pp (some (false, od)) none) = some (.nx, eM d4 l n pp (some (false, od)) (some (false, .int (ch : Nat)))) := set_at1 (i := 5) e4
    let v4 : VEnv := eM d4 l n pp (some (false, od)) (some (false, .int (ch : Nat)))
    have t : ∀ k : Int, vTest (vOp vEq (vVar 5) (vC (.int k))) v4 = some (.ok (((ch : Nat) : Int) == k), v4) := fun k => test_at (op_at (var_at rfl) rfl rfl)
    have sl : ∀ (gl gh : VM (Option Int)) (lo hi : Option Int) (u : VEnv), gl u = some (.ok lo, u) → gh u = some (.ok hi, u) → u[1]? = some (some (false, .list l)) → vSl vSlice (vVar 1) gl gh u = some (.ok (.list (cutD l lo hi)), u) := fun gl gh lo hi u h1 h2 h3 => by
      unfold vSl
      rw [var_at h3]; simp only [vbnd]
      rw [h1]; simp only
      rw [h2]; rfl
    have a1 := sl vNoPart (vPart (vVar 3)) none (some (p : Nat)) v4 rfl rfl rfl
    have a2 := sl (vPart (vOp vAdd (vVar 3) (vC (.int 1)))) vNoPart (some ((p : Nat) + 1)) none v4 rfl rfl rfl
    have c1 := cut_len l none (some (p : Nat))
    have c2 := cut_len l (some ((p : Nat) + 1)) none
    by_cases h0 : ch = 0
    · subst h0
      have tt := t 0
      refine ⟨.tuple l, d4, v4, sd4, seq_nx s1 (seq_nx s2 (seq_nx s3 (seq_rt (ifT_at tt ?_)))), rfl⟩
      exact (rfl : vRet (vU vTupleOf (vVar 1)) v4 = some (.rt (.tuple l), v4))
    have f0 : vIfS (vTest (vOp vEq (vVar 5) (vC (.int 0)))) (vRet (vU vTupleOf (vVar 1))) vNext v4 = some (.nx, v4) := if_at (by rw [t 0, beq_false_of_ne (by omega)]) rfl
    by_cases h1 : ch = 1
    · subst h1
      have tt := t 1
      refine ⟨.list (cutD l none (some (p : Nat)) ++ cutD l (some ((p : Nat) + 1)) none), d4, v4, sd4, seq_nx s1 (seq_nx s2 (seq_nx s3 (seq_nx f0 (seq_rt (ifT_at tt ?_))))), rfl⟩
      · unfold vRet
        rw [op_at a1 a2 (add_ok (by omega))]; rfl
    have f1 : vIfS (vTest (vOp vEq (vVar 5) (vC (.int 1)))) (vRet (vOp vAdd (vSl vSlice (vVar 1) vNoPart (vPart (vVar 3))) (vSl vSlice (vVar 1) (vPart (vOp vAdd (vVar 3) (vC (.int 1)))) vNoPart))) vNext v4 = some (.nx, v4) := if_at (by rw [t 1, beq_false_of_ne (by omega)]) rfl
    by_cases h2 : ch = 2
    · subst h2
      have tt := t 2
      obtain ⟨w5, d5, hw5, sd5, e5⟩ := drawI (c := n + 1) (v := v4) (gs := vCons (vOp vAdd (vVar 2) (vC (.int 1))) vNil) sd4 (by omega) (by omega) rfl rfl
      let v5 : VEnv := eM d5 l n pp (some (false, od)) (some (false, .int ((2 : Nat) : Int)))
      have a3 := sl (vPart (vVar 3)) vNoPart (some (p : Nat)) none v5 rfl rfl rfl
      have c3 := cut_len l (some (p : Nat)) none
      have ld : vLst (vCons (vCallI v_law_draw 0 (vCons (vOp vAdd (vVar 2) (vC (.int 1))) vNil)) vNil) v4 = some (.ok (.list [.int (w5 : Nat)]), v5) := lst_at (cons_at e5 nil_at) rfl
      refine ⟨.list ((cutD l none (some (p : Nat)) ++ [.int (w5 : Nat)]) ++ cutD l (some (p : Nat)) none), d5, v5, sd5, seq_nx s1 (seq_nx s2 (seq_nx s3 (seq_nx f0 (seq_nx f1 (seq_rt (ifT_at tt ?_)))))), rfl⟩
      · unfold vRet
        rw [op_at (op_at a1 ld (addL_ok (by simp; omega))) a3 (addL_ok (by simp; omega))]; rfl
    have f2 : vIfS (vTest (vOp vEq (vVar 5) (vC (.int 2)))) (vRet (vOp vAddL (vOp vAddL (vSl vSlice (vVar 1) vNoPart (vPart (vVar 3))) (vLst (vCons (vCallI v_law_draw 0 (vCons (vOp vAdd (vVar 2) (vC (.int 1))) vNil)) vNil))) (vSl vSlice (vVar 1) (vPart (vVar 3)) vNoPart))) vNext v4 = some (.nx, v4) := if_at (by rw [t 2, beq_false_of_ne (by omega)]) rfl
    have ld : vLst (vCons (vVar 4) vNil) v4 = some (.ok (.list [od]), v4) := rfl
    refine ⟨.list ((cutD l none (some (p : Nat)) ++ [od]) ++ cutD l (some ((p : Nat) + 1)) none), d4, v4, sd4, seq_nx s1 (seq_nx s2 (seq_nx s3 (seq_nx f0 (seq_nx f1 (seq_nx f2 ?_))))), rfl⟩
    · unfold vRet
      rw [op_at (op_at a1 ld (addL_ok (by simp; omega))) a2 (addL_ok (by simp; omega))]; rfl
  obtain ⟨m, d1, v', sd1, all, hv⟩ := key
  refine ⟨m, d1, sd1, ?_⟩
  exact mkI_rt (m := 6) (ds := [.list l, .int (n : Nat)]) rfl all hv
end K05

namespace K05
open PySem DI DV DV.Com
def menuL : List Str := ["subclass", "subclass", "subclass", "subclass", "subrole", "subrole_inverse", "disjoint"]
theorem menu_in : ∀ t ∈ menuL, t ∈ tags := by decide
abbrev eT (o0 o2 o3 o4 o5 o6 o7 o8 o9 o10 o11 o12 : Option (Bool × D)) : VEnv := [o0, some (false, ssD menuL), o2, o3, o4, o5, o6, o7, o8, o9, o10, o11, o12, none]
theorem ne_bool (x : Bool) : vNe (.bool x) (.bool x) = some (.bool false) := by cases x <;> rfl
theorem nks_int : ∀ {l : List D}, (∀ d ∈ l, ∃ i : Nat, d = .int (i : Nat)) → ∃ ks, nkDs l = some ks
  | [], _ => ⟨[], rfl⟩
  | d :: l, h => by
    obtain ⟨i, rfl⟩ := h d List.mem_cons_self
    obtain ⟨ks, e⟩ := nks_int fun x hx => h x (List.mem_cons_of_mem _ hx)
    refine ⟨.num i :: ks, ?_⟩
    show (match nkD (.int (i : Nat)), nkDs l with | some k, some ks => some (k :: ks) | _, _ => none) = _
    rw [e]; rfl
theorem ne_ints {l : List D} (h : ∀ d ∈ l, ∃ i : Nat, d = .int (i : Nat)) : vNe (.list l) (.list l) = some (.bool false) := by
  have e : vNe (.list l) (.list l) = vDat dNe (.list l) (.list l) := rfl
  rw [e]
  unfold vDat
  have d1 : PyData.depthAll l ≤ 0 := depthAll_le fun x hx => by obtain ⟨i, rfl⟩ := h x hx; exact Nat.le_refl _
  have a : dp (.list l) = true := decide_eq_true (by show PyData.depthAll l + 1 < 24; omega)
  rw [a]
  simp only [Bool.and_self, if_true]
  unfold dNe
  have s1 : shD (.list l) = true := sh_list fun x hx => by obtain ⟨i, rfl⟩ := h x hx; exact ⟨rfl, Nat.zero_le _⟩
  obtain ⟨ks, hk⟩ := nks_int h
  have ev : PyData.eqv (.list l) (.list l) = true := by
    show PyData.eqvAll l l = true
    rw [eqv_nks l l hk hk]; simp
  rw [s1, ev]; rfl
section
variable {g : Cfg} {xs : List D} {c o e : D}
theorem chB_self (hg : g ∈ cfgs) (he : e ∈ cos g) {l : List D} (hw : wk false xs c l = some e) (hl : l.length ≤ 10) : chB false xs c e (.list l) = true := by
  unfold chB; simp only
  rw [hw, decide_eq_true (show l.length ≤ 40 by omega)]
  simp only [Bool.true_and]
  exact ((cgood hg).con he).2
abbrev pB (ns : List Int) : VSM := (vSeq (vl_3_7_2_1 ns)
      (vSeq (vl_3_7_2_2 ns)
      (vSeq (vl_3_7_2_3 ns)
      (vSeq (vl_3_7_2_4 ns)
      (vl_3_7_2_5 ns)))))
theorem pair_one (hg : g ∈ cfgs) (ns : List Int) (ho : SeqOf o xs) (hax : ∀ a ∈ xs, IsAx g a) (hz : xs.length ≤ 12) (hc : c ∈ cos g) (he : e ∈ cos g) {T : Tb} (kin : ∀ z ∈ kT T, z ∈ cos g) (F : Fin' false xs c (fun x n => (x, n) ∈ T)) {d : D} (sd : SD d) (o0 o2 o4 o6 o8 o11 o12 : Option (Bool × D)) :
    ∃ d' o11' o12', SD d' ∧ pB ns (eT o0 o2 (some (true, d)) o4 (some (false, o)) o6 (some (false, c)) o8 (some (false, .dict (tbD T))) (some (false, e)) o11 o12) = some (.nx, eT o0 o2 (some (true, d')) o4 (some (false, o)) o6 (some (false, c)) o8 (some (false, .dict (tbD T))) (some (false, e)) o11' o12') := by
  obtain ⟨P, r, er, Fd⟩ := find_spec st_all hg ho hax hc he (fun z => by cases z)
  have hS := cgood hg
  obtain ⟨k, hk, hn⟩ := hS.nk he
  obtain ⟨k1, k2⟩ := look_tb hS he hn (T := T) kin
  let cT : Option (Bool × D) := some (false, .dict (tbD T))
  let v0 : VEnv := eT o0 o2 (some (true, d)) o4 (some (false, o)) o6 (some (false, c)) o8 cT (some (false, e)) o11 o12
  let v1 : VEnv := eT o0 o2 (some (true, d)) o4 (some (false, o)) o6 (some (false, c)) o8 cT (some (false, e)) (some (false, r)) o12
  have fc : ∀ v : VEnv, v[5]? = some (some (false, o)) → v[7]? = some (some (false, c)) → v[10]? = some (some (false, e)) → vCall (fun ds => v_find_chain (ds ++ [(.bool false)])) (vCons (vVar 5) (vCons (vVar 7) (vCons (vVar 10) vNil))) v = some (.ok r, v) := fun v h1 h2 h3 => call_at (ds := [o, c, e]) (cons_at (var_at h1) (cons_at (var_at h2) (cons_at (var_at h3) nil_at))) er
  have e1 : vl_3_7_2_1 ns v0 = some (.nx, v1) := set_at1 (i := 11) (fc v0 rfl rfl rfl)
  have ch : ∀ (i : Nat) (m : D) (v : VEnv), v[5]? = some (some (false, o)) → v[7]? = some (some (false, c)) → v[10]? = some (some (false, e)) → v[i]? = some (some (false, m)) → vCall (fun ds => v_is_chain (ds ++ [(.bool false)])) (vCons (vVar 5) (vCons (vVar 7) (vCons (vVar 10) (vCons (vVar i) vNil)))) v = some (.ok (.bool (chB false xs c e m)), v) := fun i m v h1 h2 h3 h4 => call_at (ds := [o, c, e, m]) (cons_at (var_at h1) (cons_at (var_at h2) (cons_at (var_at h3) (cons_at (var_at h4) nil_at)))) (is_chain_spec st_all hg ho hax hc he m)
  have le : ∀ (i : Nat) (m : D) (v : VEnv), v[5]? = some (some (false, o)) → v[7]? = some (some (false, c)) → v[10]? = some (some (false, e)) → v[i]? = some (some (false, m)) → vCall v_law_leads (vCons (vVar 5) (vCons (vVar 7) (vCons (vVar 10) (vCons (vVar i) vNil)))) v = some (.ok (.bool (chB false xs c e m)), v) := fun i m v h1 h2 h3 h4 => call_at (ds := [o, c, e, m]) (cons_at (var_at h1) (cons_at (var_at h2) (cons_at (var_at h3) (cons_at (var_at h4) nil_at)))) (leads_spec hg ho hax hc he m)
  have nin : vOp vNotInD (vVar 10) (vVar 9) v1 = some (.ok (.bool (!(lookD (tbD T) k).isSome)), v1) := op_at (var_at rfl) (var_at (d := .dict (tbD T)) rfl) (by
    show (match keyD e with | some k => some (PyData.bool (!(lookD (tbD T) k).isSome)) | none => none) = _
    rw [hk])
  have is : vOp vIsN (vVar 11) (vC .none) v1 = some (.ok (.bool (isN r)), v1) := op_at (var_at rfl) rfl rfl
  -- behind the tests: the changed value
  have fin : ∀ (l : List D), l.length ≤ 10 → vIf (vTest (vOp vIsN (vVar 11) (vC .none))) (vLst vNil) (vU vListOf (vVar 11)) v1 = some (.ok (.list l), v1) → ∃ d' o12', SD d' ∧ vSeq (vl_3_7_2_4 ns) (vl_3_7_2_5 ns) v1 = some (.nx, eT o0 o2 (some (true, d')) o4 (some (false, o)) o6 (some (false, c)) o8 cT (some (false, e)) (some (false, r)) o12') := fun l hl hv => by
    obtain ⟨m, d', sd', em⟩ := mutated_spec sd (l := l) (by omega) (n := xs.length) (by omega)
    refine ⟨d', some (false, m), sd', ?_⟩
    have e4 : vl_3_7_2_4 ns v1 = some (.nx, eT o0 o2 (some (true, d')) o4 (some (false, o)) o6 (some (false, c)) o8 cT (some (false, e)) (some (false, r)) (some (false, m))) := by
      have a : vCons (vIf (vTest (vOp vIsN (vVar 11) (vC .none))) (vLst vNil) (vU vListOf (vVar 11))) (vCons (vU vLen (vVar 5)) vNil) v1 = some (.ok [.list l, .int xs.length], v1) := cons_at hv (cons_at (u_at (var_at rfl) ho.len) nil_at)
      exact set_at1 (i := 12) (callI_at (i := 3) a rfl em)
    refine seq_nx e4 ?_
    exact if_at (test_at (op_at (ch 12 m _ rfl rfl rfl rfl) (le 12 m _ rfl rfl rfl rfl) (ne_bool _))) rfl
  rcases Fd.r with ⟨rfl, hno⟩ | ⟨l, rfl, hl, hw, hle⟩
  · have ne : e ∉ kT T := fun z => by
      obtain ⟨p, hp, rfl⟩ := List.mem_map.mp z
      exact hno p.2 (F.same Fd.fin (show (p.1, p.2) ∈ T from hp))
    have kf : (lookD (tbD T) k).isSome = false := by
      rw [k1, ← Bool.not_eq_true]; intro z; exact ne ((hS.any kin he).mp z)
    rw [kf] at nin
    have t2 : vl_3_7_2_2 ns v1 = some (.nx, v1) := if_at (orF_at (test_at (op_at is nin (ne_bool true))) (test_at (op_at (fc v1 rfl rfl rfl) (var_at rfl) rfl))) rfl
    have t3 : vl_3_7_2_3 ns v1 = some (.nx, v1) := if_at (v1 := v1) (test_at (op_at (var_at rfl) rfl rfl)) rfl
    obtain ⟨d', o12', sd', e5⟩ := fin [] (by simp) rfl
    exact ⟨d', _, o12', sd', seq_nx e1 (seq_nx t2 (seq_nx t3 e5))⟩
  · have hT : (e, l.length) ∈ T := Fd.fin.same F hl
    obtain ⟨n, hn1, hn2⟩ := k2 (List.mem_map.mpr ⟨_, hT, rfl⟩)
    have en : n = l.length := F.fn e n l.length hn1 hT
    rw [en] at hn2
    have kf : (lookD (tbD T) k).isSome = true := by rw [hn2]; rfl
    rw [kf] at nin
    have t2 : vl_3_7_2_2 ns v1 = some (.nx, v1) := if_at (orF_at (test_at (op_at is nin (ne_bool false))) (test_at (op_at (fc v1 rfl rfl rfl) (var_at rfl) (ne_ints (wk_ints hw))))) rfl
    have cb := chB_self hg he hw hle
    have ix : vOp vIxD (vVar 9) (vVar 10) v1 = some (.ok (.int (l.length : Nat)), v1) := op_at (var_at (d := .dict (tbD T)) rfl) (var_at rfl) (by
      show (match keyD e with | some k => lookD (tbD T) k | none => none) = _
      rw [hk]; exact hn2)
    have a1 : vTest (vOp vNe (vU vLen (vVar 11)) (vOp vIxD (vVar 9) (vVar 10))) v1 = some (.ok false, v1) := test_at (op_at (u_at (var_at rfl) rfl) ix (by show some (PyData.bool (!((l.length : Int) == (l.length : Int)))) = _; rw [beq_self_eq_true]; rfl))
    have a2 := notT_at (test_at (le 11 (.list l) v1 rfl rfl rfl rfl))
    rw [cb] at a2
    have a3 := ch 11 (.list l) v1 rfl rfl rfl rfl
    rw [cb] at a3
    have t3 : vl_3_7_2_3 ns v1 = some (.nx, v1) := ifT_at (v1 := v1) (test_at (op_at (var_at rfl) rfl rfl)) (seq_nx (if_at (orF_at a1 a2) rfl) (if_at (test_at (op_at a3 rfl rfl)) rfl))
    obtain ⟨d', o12', sd', e5⟩ := fin l hle rfl
    exact ⟨d', _, o12', sd', seq_nx e1 (seq_nx t2 (seq_nx t3 e5))⟩
theorem pair_loop (hg : g ∈ cfgs) (ns : List Int) (ho : SeqOf o xs) (hax : ∀ a ∈ xs, IsAx g a) (hz : xs.length ≤ 12) (hc : c ∈ cos g) {T : Tb} (kin : ∀ z ∈ kT T, z ∈ cos g) (F : Fin' false xs c (fun x n => (x, n) ∈ T)) (o0 o2 o4 o6 o8 : Option (Bool × D)) : ∀ (es : List D), (∀ e ∈ es, e ∈ cos g) → ∀ {d : D}, SD d → ∀ (o10 o11 o12 : Option (Bool × D)),
    ∃ d' o10' o11' o12', SD d' ∧ vloop 10 (pB ns) es (eT o0 o2 (some (true, d)) o4 (some (false, o)) o6 (some (false, c)) o8 (some (false, .dict (tbD T))) o10 o11 o12) = some (.nx, eT o0 o2 (some (true, d')) o4 (some (false, o)) o6 (some (false, c)) o8 (some (false, .dict (tbD T))) o10' o11' o12')
  | [], _, d, sd, o10, o11, o12 => ⟨d, o10, o11, o12, sd, rfl⟩
  | e :: es, h, d, sd, o10, o11, o12 => by
    obtain ⟨d1, p11, p12, sd1, e1⟩ := pair_one hg ns ho hax hz hc (h e List.mem_cons_self) kin F sd o0 o2 o4 o6 o8 o11 o12
    obtain ⟨d2, q10, q11, q12, sd2, e2⟩ := pair_loop hg ns ho hax hz hc kin F o0 o2 o4 o6 o8 es (fun x hx => h x (List.mem_cons_of_mem _ hx)) sd1 (some (false, e)) p11 p12
    refine ⟨d2, q10, q11, q12, sd2, ?_⟩
    show (match pB ns (eT o0 o2 (some (true, d)) o4 (some (false, o)) o6 (some (false, c)) o8 (some (false, .dict (tbD T))) (some (false, e)) o11 o12) with
      | some (.nx, v1) => vloop 10 (pB ns) es v1
      | some (.ct, v1) => vloop 10 (pB ns) es v1
      | some (.bk, v1) => some (.nx, v1)
      | o => o) = _
    rw [e1]; exact e2
abbrev qB (ns : List Int) : VSM := (vSeq (vl_3_7_1 ns) (vl_3_7_2 ns))
theorem one_loop (hg : g ∈ cfgs) (ns : List Int) (ho : SeqOf o xs) (hax : ∀ a ∈ xs, IsAx g a) (hz : xs.length ≤ 12) (o0 o2 o4 o8 : Option (Bool × D)) : ∀ (cs : List D), (∀ c ∈ cs, c ∈ cos g) → ∀ {d : D}, SD d → ∀ (o7 o9 o10 o11 o12 : Option (Bool × D)),
    ∃ d' o7' o9' o10' o11' o12', SD d' ∧ vloop 7 (qB ns) cs (eT o0 o2 (some (true, d)) o4 (some (false, o)) (some (false, .list (cos g))) o7 o8 o9 o10 o11 o12) = some (.nx, eT o0 o2 (some (true, d')) o4 (some (false, o)) (some (false, .list (cos g))) o7' o8 o9' o10' o11' o12')
  | [], _, d, sd, o7, o9, o10, o11, o12 => ⟨d, o7, o9, o10, o11, o12, sd, rfl⟩
  | c :: cs, h, d, sd, o7, o9, o10, o11, o12 => by
    have hc := h c List.mem_cons_self
    obtain ⟨T, eT', kin, F⟩ := rounds_spec hg ho hax hc
    let cc : Option (Bool × D) := some (false, .list (cos g))
    have e0 : vl_3_7_1 ns (eT o0 o2 (some (true, d)) o4 (some (false, o)) cc (some (false, c)) o8 o9 o10 o11 o12) = some (.nx, eT o0 o2 (some (true, d)) o4 (some (false, o)) cc (some (false, c)) o8 (some (false, .dict (tbD T))) o10 o11 o12) := set_at1 (i := 9) (call_at (ds := [o, c]) (cons_at (var_at rfl) (cons_at (var_at rfl) nil_at)) eT')
    obtain ⟨d1, p10, p11, p12, sd1, e1⟩ := pair_loop hg ns ho hax hz hc kin F o0 o2 o4 cc o8 (cos g) (fun _ h => h) sd o10 o11 o12
    have e1 : vl_3_7_2 ns (eT o0 o2 (some (true, d)) o4 (some (false, o)) cc (some (false, c)) o8 (some (false, .dict (tbD T))) o10 o11 o12) = some (.nx, eT o0 o2 (some (true, d1)) o4 (some (false, o)) cc (some (false, c)) o8 (some (false, .dict (tbD T))) p10 p11 p12) := e1
    obtain ⟨d2, q7, q9, q10, q11, q12, sd2, e2⟩ := one_loop hg ns ho hax hz o0 o2 o4 o8 cs (fun x hx => h x (List.mem_cons_of_mem _ hx)) sd1 (some (false, c)) (some (false, .dict (tbD T))) p10 p11 p12
    refine ⟨d2, q7, q9, q10, q11, q12, sd2, ?_⟩
    show (match qB ns (eT o0 o2 (some (true, d)) o4 (some (false, o)) cc (some (false, c)) o8 o9 o10 o11 o12) with
      | some (.nx, v1) => vloop 7 (qB ns) cs v1
      | some (.ct, v1) => vloop 7 (qB ns) cs v1
      | some (.bk, v1) => some (.nx, v1)
      | o => o) = _
    rw [show qB ns (eT o0 o2 (some (true, d)) o4 (some (false, o)) cc (some (false, c)) o8 o9 o10 o11 o12) = _ from seq_nx e0 e1]; exact e2
end
/-! ### values that are no chains -/
def valsL : List D := [.none, .tuple [], .dict [], .str "", .int 0, .list [.none], .list [.list []], .list [.str "0"], .list [.bool true], .list (List.replicate 41 (.int 0))]
theorem cfg_shape : ∀ g ∈ cfgs, g.1.length = 4 ∧ g.2.length = 3 := by decide +kernel
abbrev wB (ns : List Int) : VSM := (vSeq (vl_3_8_1 ns) (vl_3_8_2 ns))
section
variable {g : Cfg} {xs : List D} {o : D}
theorem val_one (hg : g ∈ cfgs) (ns : List Int) (ho : SeqOf o xs) (hax : ∀ a ∈ xs, IsAx g a) {c e : D} {cr : List D} (hcs : cos g = c :: e :: cr) (m : D) (o0 o2 o3 o4 o7 o9 o10 o11 o12 : Option (Bool × D)) :
    wB ns (eT o0 o2 o3 o4 (some (false, o)) (some (false, .list (cos g))) o7 (some (false, m)) o9 o10 o11 o12) = some (.nx, eT o0 o2 o3 o4 (some (false, o)) (some (false, .list (cos g))) (some (false, c)) (some (false, m)) o9 (some (false, e)) o11 o12) := by
  have hc : c ∈ cos g := by rw [hcs]; exact List.mem_cons_self
  have he : e ∈ cos g := by rw [hcs]; exact List.mem_cons_of_mem _ List.mem_cons_self
  let cc : Option (Bool × D) := some (false, .list (cos g))
  have e1 : vl_3_8_1 ns (eT o0 o2 o3 o4 (some (false, o)) cc o7 (some (false, m)) o9 o10 o11 o12) = some (.nx, eT o0 o2 o3 o4 (some (false, o)) cc (some (false, c)) (some (false, m)) o9 (some (false, e)) o11 o12) := by
    have sl : vSl vSlice (vVar 6) vNoPart (vPart (vC (.int 2))) (eT o0 o2 o3 o4 (some (false, o)) cc o7 (some (false, m)) o9 o10 o11 o12) = some (.ok (.list [c, e]), eT o0 o2 o3 o4 (some (false, o)) cc o7 (some (false, m)) o9 o10 o11 o12) := by
      unfold vSl
      rw [var_at (d := .list (cos g)) rfl]
      simp only [vbnd]
      show (vSlice (.list (cos g)) none (some 2)).map _ = _
      rw [hcs]; rfl
    show vUnpA _ _ _ _ = _
    unfold vUnpA
    rw [sl]; rfl
  refine seq_nx e1 ?_
  let v1 : VEnv := eT o0 o2 o3 o4 (some (false, o)) cc (some (false, c)) (some (false, m)) o9 (some (false, e)) o11 o12
  have a1 : vCall (fun ds => v_is_chain (ds ++ [(.bool false)])) (vCons (vVar 5) (vCons (vVar 7) (vCons (vVar 10) (vCons (vVar 8) vNil)))) v1 = some (.ok (.bool (chB false xs c e m)), v1) := call_at (ds := [o, c, e, m]) rfl (is_chain_spec st_all hg ho hax hc he m)
  have a2 : vCall v_law_leads (vCons (vVar 5) (vCons (vVar 7) (vCons (vVar 10) (vCons (vVar 8) vNil)))) v1 = some (.ok (.bool (chB false xs c e m)), v1) := call_at (ds := [o, c, e, m]) rfl (leads_spec hg ho hax hc he m)
  exact if_at (test_at (op_at a1 a2 (ne_bool _))) rfl
theorem val_loop (hg : g ∈ cfgs) (ns : List Int) (ho : SeqOf o xs) (hax : ∀ a ∈ xs, IsAx g a) {c e : D} {cr : List D} (hcs : cos g = c :: e :: cr) (o0 o2 o3 o4 o9 o11 o12 : Option (Bool × D)) : ∀ (l : List D) (o7 o8 o10 : Option (Bool × D)), ∃ o7' o8' o10', vloop 8 (wB ns) l (eT o0 o2 o3 o4 (some (false, o)) (some (false, .list (cos g))) o7 o8 o9 o10 o11 o12) = some (.nx, eT o0 o2 o3 o4 (some (false, o)) (some (false, .list (cos g))) o7' o8' o9 o10' o11 o12)
  | [], o7, o8, o10 => ⟨o7, o8, o10, rfl⟩
  | m :: l, o7, o8, o10 => by
    obtain ⟨p7, p8, p10, e2⟩ := val_loop hg ns ho hax hcs o0 o2 o3 o4 o9 o11 o12 l (some (false, c)) (some (false, m)) (some (false, e))
    refine ⟨p7, p8, p10, ?_⟩
    show (match wB ns (eT o0 o2 o3 o4 (some (false, o)) (some (false, .list (cos g))) o7 (some (false, m)) o9 o10 o11 o12) with
      | some (.nx, v1) => vloop 8 (wB ns) l v1
      | some (.ct, v1) => vloop 8 (wB ns) l v1
      | some (.bk, v1) => some (.nx, v1)
      | o => o) = _
    rw [val_one hg ns ho hax hcs]; exact e2
end
/-! ### the numbers of the script -/
theorem sd_start (ns : List Int) (k : Nat) : SD (strD ns k) := ⟨_, _, rfl, Int.emod_nonneg _ (by decide), Int.emod_lt_of_pos _ (by decide)⟩
abbrev kBody (ns : List Int) : VSM := (vSeq (vl_3_1 ns)
      (vSeq (vl_3_2 ns)
      (vSeq (vl_3_3 ns)
      (vSeq (vl_3_4 ns)
      (vSeq (vl_3_5 ns)
      (vSeq (vl_3_6 ns)
      (vSeq (vl_3_7 ns)
      (vl_3_8 ns))))))))
theorem concs {g : Cfg} (hg : g ∈ cfgs) (ns : List Int) (o0 o2 o3 o5 o6 o7 o8 o9 o10 o11 o12 : Option (Bool × D)) : ∃ o6', vl_3_5 ns (eT o0 o2 o3 (some (false, cfgD g)) o5 o6 o7 o8 o9 o10 o11 o12) = some (.nx, eT o0 o2 o3 (some (false, cfgD g)) o5 o6' o7 o8 o9 o10 o11 o12) ∧ vl_3_6 ns (eT o0 o2 o3 (some (false, cfgD g)) o5 o6' o7 o8 o9 o10 o11 o12) = some (.nx, eT o0 o2 o3 (some (false, cfgD g)) o5 (some (false, .list (cos g))) o7 o8 o9 o10 o11 o12) := by
  obtain ⟨h1, h2⟩ := cfg_shape g hg
  obtain ⟨g1, g2⟩ := g
  match g1, g2, h1, h2 with
  | [a, b, c, d], [r, s, t], _, _ => exact ⟨some (false, .list ([two "concept" a, two "concept" b, two "concept" c, two "concept" d] ++ [two "out" r, two "out" s, two "out" t])), rfl, rfl⟩
theorem cos_two {g : Cfg} (hg : g ∈ cfgs) : ∃ c e cr, cos g = c :: e :: cr := by
  obtain ⟨h1, h2⟩ := cfg_shape g hg
  obtain ⟨g1, g2⟩ := g
  match g1, g2, h1, h2 with
  | [a, b, c, d], [r, s, t], _, _ => exact ⟨_, _, _, rfl⟩
theorem one_k (ns : List Int) (k : Nat) (hk : k < 100) (o0 o3 o4 o5 o6 o7 o8 o9 o10 o11 o12 : Option (Bool × D)) : ∃ o3' o4' o5' o6' o7' o8' o9' o10' o11' o12', kBody ns (eT o0 (some (false, .int (k : Nat))) o3 o4 o5 o6 o7 o8 o9 o10 o11 o12) = some (.nx, eT o0 (some (false, .int (k : Nat))) o3' o4' o5' o6' o7' o8' o9' o10' o11' o12') := by
  let kk : Option (Bool × D) := some (false, .int (k : Nat))
  have st : vStream ns (vVar 2) (eT o0 kk o3 o4 o5 o6 o7 o8 o9 o10 o11 o12) = some (.ok (strD ns k), eT o0 kk o3 o4 o5 o6 o7 o8 o9 o10 o11 o12) := by
    unfold vStream
    rw [var_at (d := .int (k : Nat)) rfl]
    simp only [vbnd]
    have a : decide ((0 : Int) ≤ (k : Int)) = true := decide_eq_true (by omega)
    have b : decide ((k : Int) < 1000) = true := decide_eq_true (by omega)
    rw [a, b, Int.toNat_natCast]; rfl
  have e1 : vl_3_1 ns (eT o0 kk o3 o4 o5 o6 o7 o8 o9 o10 o11 o12) = some (.nx, eT o0 kk (some (true, strD ns k)) o4 o5 o6 o7 o8 o9 o10 o11 o12) := by
    show vSetO 3 _ _ = _
    unfold vSetO
    rw [st]; rfl
  obtain ⟨g, d, hg, sd, en⟩ := names_spec (sd_start ns k)
  have e2 : vl_3_2 ns (eT o0 kk (some (true, strD ns k)) o4 o5 o6 o7 o8 o9 o10 o11 o12) = some (.nx, eT o0 kk (some (true, d)) (some (false, cfgD g)) o5 o6 o7 o8 o9 o10 o11 o12) := set_at1 (i := 4) (callI_at nil_at rfl en)
  obtain ⟨xs, d2, hx, hl, sd2, eo⟩ := ontology_spec hg (menu := menuL) (by decide) (by decide) menu_in sd 12 (by decide)
  have e3 : vl_3_3 ns (eT o0 kk (some (true, d)) (some (false, cfgD g)) o5 o6 o7 o8 o9 o10 o11 o12) = some (.nx, eT o0 kk (some (true, d2)) (some (false, cfgD g)) (some (false, .list xs)) o6 o7 o8 o9 o10 o11 o12) := by
    have a : vCons (vVar 4) (vCons (vVar 1) (vCons (vC (.int 12)) vNil)) (eT o0 kk (some (true, d)) (some (false, cfgD g)) o5 o6 o7 o8 o9 o10 o11 o12) = some (.ok [cfgD g, ssD menuL, .int 12], eT o0 kk (some (true, d)) (some (false, cfgD g)) o5 o6 o7 o8 o9 o10 o11 o12) := rfl
    exact set_at1 (i := 5) (callI_at (i := 3) a rfl eo)
  have e4 : ∃ d3 o, SD d3 ∧ SeqOf o xs ∧ vl_3_4 ns (eT o0 kk (some (true, d2)) (some (false, cfgD g)) (some (false, .list xs)) o6 o7 o8 o9 o10 o11 o12) = some (.nx, eT o0 kk (some (true, d3)) (some (false, cfgD g)) (some (false, o)) o6 o7 o8 o9 o10 o11 o12) := by
    obtain ⟨r, d3, hr, sd3, ed⟩ := draw_spec (c := 2) sd2 (by decide) (by decide)
    have cl : vCallI v_law_draw 3 (vCons (vC (.int 2)) vNil) (eT o0 kk (some (true, d2)) (some (false, cfgD g)) (some (false, .list xs)) o6 o7 o8 o9 o10 o11 o12) = some (.ok (.int r), eT o0 kk (some (true, d3)) (some (false, cfgD g)) (some (false, .list xs)) o6 o7 o8 o9 o10 o11 o12) := by
      have a : vCons (vC (.int 2)) vNil (eT o0 kk (some (true, d2)) (some (false, cfgD g)) (some (false, .list xs)) o6 o7 o8 o9 o10 o11 o12) = some (.ok [.int 2], eT o0 kk (some (true, d2)) (some (false, cfgD g)) (some (false, .list xs)) o6 o7 o8 o9 o10 o11 o12) := rfl
      exact callI_at (i := 3) a rfl ed
    have t : vTest (vOp vEq (vCallI v_law_draw 3 (vCons (vC (.int 2)) vNil)) (vC (.int 0))) (eT o0 kk (some (true, d2)) (some (false, cfgD g)) (some (false, .list xs)) o6 o7 o8 o9 o10 o11 o12) = some (.ok ((r : Int) == 0), eT o0 kk (some (true, d3)) (some (false, cfgD g)) (some (false, .list xs)) o6 o7 o8 o9 o10 o11 o12) := test_at (op_at cl rfl rfl)
    cases q : ((r : Int) == 0) with
    | true => rw [q] at t; exact ⟨d3, .tuple xs, sd3, .inr rfl, ifT_at t rfl⟩
    | false => rw [q] at t; exact ⟨d3, .list xs, sd3, .inl rfl, if_at t rfl⟩
  obtain ⟨d3, o, sd3, ho, e4⟩ := e4
  obtain ⟨p6, e5, e6⟩ := concs hg ns o0 kk (some (true, d3)) (some (false, o)) o6 o7 o8 o9 o10 o11 o12
  obtain ⟨d4, p7, p9, p10, p11, p12, sd4, e7⟩ := one_loop hg ns ho hx.ax hl o0 kk (some (false, cfgD g)) o8 (cos g) (fun _ h => h) sd3 o7 o9 o10 o11 o12
  have e7 : vl_3_7 ns (eT o0 kk (some (true, d3)) (some (false, cfgD g)) (some (false, o)) (some (false, .list (cos g))) o7 o8 o9 o10 o11 o12) = some (.nx, eT o0 kk (some (true, d4)) (some (false, cfgD g)) (some (false, o)) (some (false, .list (cos g))) p7 o8 p9 p10 p11 p12) := e7
  obtain ⟨c, e, cr, hcs⟩ := cos_two hg
  obtain ⟨q7, q8, q10, e8⟩ := val_loop hg ns ho hx.ax hcs o0 kk (some (true, d4)) (some (false, cfgD g)) p9 p11 p12 valsL p7 o8 p10
  have e8 : vl_3_8 ns (eT o0 kk (some (true, d4)) (some (false, cfgD g)) (some (false, o)) (some (false, .list (cos g))) p7 o8 p9 p10 p11 p12) = some (.nx, eT o0 kk (some (true, d4)) (some (false, cfgD g)) (some (false, o)) (some (false, .list (cos g))) q7 q8 p9 q10 p11 p12) := e8
  exact ⟨_, _, _, _, _, _, _, _, _, _, seq_nx e1 (seq_nx e2 (seq_nx e3 (seq_nx e4 (seq_nx e5 (seq_nx e6 (seq_nx e7 e8))))))⟩
theorem ks (ns : List Int) (o0 : Option (Bool × D)) : ∀ (l : List Nat), (∀ k ∈ l, k < 100) → ∀ o2 o3 o4 o5 o6 o7 o8 o9 o10 o11 o12, ∃ v', vloop 2 (kBody ns) (l.map fun k => .int (k : Nat)) (eT o0 o2 o3 o4 o5 o6 o7 o8 o9 o10 o11 o12) = some (.nx, v')
  | [], _, o2, o3, o4, o5, o6, o7, o8, o9, o10, o11, o12 => ⟨_, rfl⟩
  | k :: l, h, o2, o3, o4, o5, o6, o7, o8, o9, o10, o11, o12 => by
    obtain ⟨p3, p4, p5, p6, p7, p8, p9, p10, p11, p12, e1⟩ := one_k ns k (h k List.mem_cons_self) o0 o3 o4 o5 o6 o7 o8 o9 o10 o11 o12
    obtain ⟨v', e2⟩ := ks ns o0 l (fun j hj => h j (List.mem_cons_of_mem _ hj)) (some (false, .int (k : Nat))) p3 p4 p5 p6 p7 p8 p9 p10 p11 p12
    refine ⟨v', ?_⟩
    show (match kBody ns (eT o0 (some (false, .int (k : Nat))) o3 o4 o5 o6 o7 o8 o9 o10 o11 o12) with
      | some (.nx, v1) => vloop 2 (kBody ns) (l.map fun k => .int (k : Nat)) v1
      | some (.ct, v1) => vloop 2 (kBody ns) (l.map fun k => .int (k : Nat)) v1
      | some (.bk, v1) => some (.nx, v1)
      | o => o) = _
    rw [e1]; exact e2
theorem limit : v_law_limit_holds [] = some (.ok (.bool true)) := okB_ok (by decide +kernel)
theorem whole (ns : List Int) (h : ns.length ≤ 63) : ∃ v', vb_law ns (List.replicate 14 none) = some (.rt (.bool true), v') := by
  let p0 : VEnv := List.replicate 14 none
  let p1 : VEnv := eT none none none none none none none none none none none none
  have e0 : vl_1 ns p0 = some (.nx, p0) := if_at (notT_at (test_at (call_at (ds := []) nil_at limit))) rfl
  have e1 : vl_2 ns p0 = some (.nx, p1) := rfl
  have args : vCons (vOp vMax2 (vC (.int 1)) (vOp vMin2 (vC (.int 8)) (scLen ns))) vNil p1 = some (.ok [.int ((max 1 (min 8 ns.length) : Nat) : Int)], p1) := by
    refine cons_at (op_at rfl (op_at rfl rfl rfl) ?_) nil_at
    show some (PyData.int (if (if (ns.length : Int) < 8 then (ns.length : Int) else 8) > 1 then (if (ns.length : Int) < 8 then (ns.length : Int) else 8) else 1)) = _
    congr 2
    split <;> split <;> omega
  have rd : rngD 0 (max 1 (min 8 ns.length)) = (List.range (max 1 (min 8 ns.length))).map fun k => PyData.int (k : Nat) := by
    unfold rngD
    apply List.map_congr_left
    intro k _
    show PyData.int (0 + (k : Int)) = _
    rw [Int.zero_add]
  obtain ⟨v', e⟩ := ks ns none (List.range (max 1 (min 8 ns.length))) (fun k hk => by rw [List.mem_range] at hk; omega) none none none none none none none none none none none
  rw [← rd] at e
  have e2 : vl_3 ns p1 = some (.nx, v') := forR_at args (rng_ok _ (by omega)) e
  exact ⟨v', seq_nx e0 (seq_nx e1 (seq_nx e2 rfl))⟩
theorem main (ns : List Int) (h : ns.length ≤ 63) : ∃ st', d_law [.ils (ns.map W.int)] [] = some (.ok (.bl true), st') := let ⟨_, e⟩ := whole ns h; vk_law ns e
end K05

namespace K05
open PySem L2 PySem.Spec PyProof.Rows DI
def dd_consists_of : He.DefD := ⟨("consists_of", none), "consists_of", "consists_of", defArgs s_consists_of, defBody s_consists_of, defScope s_consists_of, [], []⟩
def dd_is_word : He.DefD := ⟨("is_word", none), "is_word", "is_word", defArgs s_is_word, defBody s_is_word, defScope s_is_word, [], []⟩
def dd_is_integer : He.DefD := ⟨("is_integer", none), "is_integer", "is_integer", defArgs s_is_integer, defBody s_is_integer, defScope s_is_integer, [], []⟩
def dd_is_index : He.DefD := ⟨("is_index", none), "is_index", "is_index", defArgs s_is_index, defBody s_is_index, defScope s_is_index, [], []⟩
def dd_tag_of : He.DefD := ⟨("tag_of", none), "tag_of", "tag_of", defArgs s_tag_of, defBody s_tag_of, defScope s_tag_of, [], []⟩
def dd_is_concept : He.DefD := ⟨("is_concept", none), "is_concept", "is_concept", defArgs s_is_concept, defBody s_is_concept, defScope s_is_concept, [], []⟩
def dd_is_direction : He.DefD := ⟨("is_direction", none), "is_direction", "is_direction", defArgs s_is_direction, defBody s_is_direction, defScope s_is_direction, [], []⟩
def dd_check_concept : He.DefD := ⟨("check_concept", none), "check_concept", "check_concept", defArgs s_check_concept, defBody s_check_concept, defScope s_check_concept, [], []⟩
def dd_check_direction : He.DefD := ⟨("check_direction", none), "check_direction", "check_direction", defArgs s_check_direction, defBody s_check_direction, defScope s_check_direction, [], []⟩
def dd_inverse : He.DefD := ⟨("inverse", none), "inverse", "inverse", defArgs s_inverse, defBody s_inverse, defScope s_inverse, [], []⟩
def dd_second_direction : He.DefD := ⟨("second_direction", none), "second_direction", "second_direction", defArgs s_second_direction, defBody s_second_direction, defScope s_second_direction, [], []⟩
def dd_led_to : He.DefD := ⟨("led_to", none), "led_to", "led_to", defArgs s_led_to, defBody s_led_to, defScope s_led_to, [(.bl false)], []⟩
def dd_chains_from : He.DefD := ⟨("chains_from", none), "chains_from", "chains_from", defArgs s_chains_from, defBody s_chains_from, defScope s_chains_from, [(.bl false)], []⟩
def dd_find_chain : He.DefD := ⟨("find_chain", none), "find_chain", "find_chain", defArgs s_find_chain, defBody s_find_chain, defScope s_find_chain, [], [("roles_only", (.bl false))]⟩
def dd_is_chain : He.DefD := ⟨("is_chain", none), "is_chain", "is_chain", defArgs s_is_chain, defBody s_is_chain, defScope s_is_chain, [], [("roles_only", (.bl false))]⟩
def dd_law_stream : He.DefD := ⟨("_law_stream", none), "_law_stream", "_law_stream", defArgs s_law_stream, defBody s_law_stream, defScope s_law_stream, [], []⟩
def dd_law_draw : He.DefD := ⟨("_law_draw", none), "_law_draw", "_law_draw", defArgs s_law_draw, defBody s_law_draw, defScope s_law_draw, [], []⟩
def dd_law_choose : He.DefD := ⟨("_law_choose", none), "_law_choose", "_law_choose", defArgs s_law_choose, defBody s_law_choose, defScope s_law_choose, [], []⟩
def dd_law_names : He.DefD := ⟨("_law_names", none), "_law_names", "_law_names", defArgs s_law_names, defBody s_law_names, defScope s_law_names, [], []⟩
def dd_law_concept : He.DefD := ⟨("_law_concept", none), "_law_concept", "_law_concept", defArgs s_law_concept, defBody s_law_concept, defScope s_law_concept, [], []⟩
def dd_law_axiom : He.DefD := ⟨("_law_axiom", none), "_law_axiom", "_law_axiom", defArgs s_law_axiom, defBody s_law_axiom, defScope s_law_axiom, [], []⟩
def dd_law_allowed : He.DefD := ⟨("_law_allowed", none), "_law_allowed", "_law_allowed", defArgs s_law_allowed, defBody s_law_allowed, defScope s_law_allowed, [], []⟩
def dd_law_ontology : He.DefD := ⟨("_law_ontology", none), "_law_ontology", "_law_ontology", defArgs s_law_ontology, defBody s_law_ontology, defScope s_law_ontology, [], []⟩
def dd_law_successor : He.DefD := ⟨("_law_successor", none), "_law_successor", "_law_successor", defArgs s_law_successor, defBody s_law_successor, defScope s_law_successor, [], []⟩
def dd_law_reachable : He.DefD := ⟨("_law_reachable", none), "_law_reachable", "_law_reachable", defArgs s_law_reachable, defBody s_law_reachable, defScope s_law_reachable, [], []⟩
def dd_law_rounds : He.DefD := ⟨("_law_rounds", none), "_law_rounds", "_law_rounds", defArgs s_law_rounds, defBody s_law_rounds, defScope s_law_rounds, [], []⟩
def dd_law_leads : He.DefD := ⟨("_law_leads", none), "_law_leads", "_law_leads", defArgs s_law_leads, defBody s_law_leads, defScope s_law_leads, [], []⟩
def dd_law_mutated : He.DefD := ⟨("_law_mutated", none), "_law_mutated", "_law_mutated", defArgs s_law_mutated, defBody s_law_mutated, defScope s_law_mutated, [], []⟩
def dd_law_limit_holds : He.DefD := ⟨("_law_limit_holds", none), "_law_limit_holds", "_law_limit_holds", defArgs s_law_limit_holds, defBody s_law_limit_holds, defScope s_law_limit_holds, [], []⟩
def dd_law : He.DefD := ⟨("law", none), "law", "law", defArgs s_law, defBody s_law, defScope s_law, [], []⟩
def hfn : List He.DefD := [dd_consists_of, dd_is_word, dd_is_integer, dd_is_index, dd_tag_of, dd_is_concept, dd_is_direction, dd_check_concept, dd_check_direction, dd_inverse, dd_second_direction, dd_led_to, dd_chains_from, dd_find_chain, dd_is_chain, dd_law_stream, dd_law_draw, dd_law_choose, dd_law_names, dd_law_concept, dd_law_axiom, dd_law_allowed, dd_law_ontology, dd_law_successor, dd_law_reachable, dd_law_rounds, dd_law_leads, dd_law_mutated, dd_law_limit_holds, dd_law]
def hfa : List He.Fa := [.free "all", .free "bool", .free "dict", .free "enumerate", .free "int", .free "isinstance", .free "len", .free "list", .free "max", .free "min", .free "range", .free "sorted", .free "str", .free "tuple", .glo "consists_of", .glo "is_word", .glo "is_integer", .glo "is_index", .glo "tag_of", .glo "is_concept", .glo "is_direction", .glo "check_concept", .glo "check_direction", .glo "inverse", .glo "second_direction", .glo "led_to", .glo "chains_from", .glo "find_chain", .glo "is_chain", .glo "_law_stream", .glo "_law_draw", .glo "_law_choose", .glo "_law_names", .glo "_law_concept", .glo "_law_axiom", .glo "_law_allowed", .glo "_law_ontology", .glo "_law_successor", .glo "_law_reachable", .glo "_law_rounds", .glo "_law_leads", .glo "_law_mutated", .glo "_law_limit_holds", .glo "law"]
def hcs : List (Str × W) := [("LETTERS", c_LETTERS), ("MOST_CHARACTERS", c_MOST_CHARACTERS), ("CONCEPT_FORMS", c_CONCEPT_FORMS), ("DIRECTION_FORMS", c_DIRECTION_FORMS), ("ROLE_INCLUSIONS", c_ROLE_INCLUSIONS), ("REVERSING", c_REVERSING), ("MOST_CHAIN_STEPS", c_MOST_CHAIN_STEPS)]
def hex (K : PySem.W.Frag) : Bool := (consB hcs K && (K.lookup sysModules).isNone) && ([nsB K "OntologyError", nsB K "InvalidConcept", clsB K, xm0B K "InvalidConcept" bmV "ValueError.__new__"].all id)
abbrev HR0 : PySem.W.OpenRow := PySem.W.OpenLaw.row PySem.Challenge.rw_factsandfar_k05_chains
abbrev hk : PySem.W.Hook := hookS 6 hfa hfn hex
def hob (s : PySem.W.SharedT) : He.AlX × Bool := obsS 6 hfa hfn hex (HandSHeadRun.getT s)
theorem hob_eq (s : PySem.W.SharedT) : hob s = hk.obs s.abs := obsS_eq (HandSHeadRun.getT_eq s)
def hloose : List Str := [("LETTERS" : PySem.Str), ("MOST_CHARACTERS" : PySem.Str), ("CONCEPT_FORMS" : PySem.Str), ("DIRECTION_FORMS" : PySem.Str), ("ROLE_INCLUSIONS" : PySem.Str), ("REVERSING" : PySem.Str), ("MOST_CHAIN_STEPS" : PySem.Str), ("OntologyError" : PySem.Str), ("InvalidConcept" : PySem.Str), ("consists_of" : PySem.Str), ("is_word" : PySem.Str), ("is_integer" : PySem.Str), ("is_index" : PySem.Str), ("tag_of" : PySem.Str), ("is_concept" : PySem.Str), ("is_direction" : PySem.Str), ("check_concept" : PySem.Str), ("check_direction" : PySem.Str), ("inverse" : PySem.Str), ("second_direction" : PySem.Str), ("led_to" : PySem.Str), ("chains_from" : PySem.Str), ("find_chain" : PySem.Str), ("is_chain" : PySem.Str), ("_law_stream" : PySem.Str), ("_law_draw" : PySem.Str), ("_law_choose" : PySem.Str), ("_law_names" : PySem.Str), ("_law_concept" : PySem.Str), ("_law_axiom" : PySem.Str), ("_law_allowed" : PySem.Str), ("_law_ontology" : PySem.Str), ("_law_successor" : PySem.Str), ("_law_reachable" : PySem.Str), ("_law_rounds" : PySem.Str), ("_law_leads" : PySem.Str), ("_law_mutated" : PySem.Str), ("_law_limit_holds" : PySem.Str), ("__name__" : PySem.Str)]
set_option maxHeartbeats 0 in
theorem hrun (w : World) : HandSHeadRun.RunEq HR0 (PySem.W.view HR0.prog [43]) hk hob 20000 [("LETTERS" : PySem.Str), ("MOST_CHARACTERS" : PySem.Str), ("CONCEPT_FORMS" : PySem.Str), ("DIRECTION_FORMS" : PySem.Str), ("ROLE_INCLUSIONS" : PySem.Str), ("REVERSING" : PySem.Str), ("MOST_CHAIN_STEPS" : PySem.Str), ("OntologyError" : PySem.Str), ("InvalidConcept" : PySem.Str), ("consists_of" : PySem.Str), ("is_word" : PySem.Str), ("is_integer" : PySem.Str), ("is_index" : PySem.Str), ("tag_of" : PySem.Str), ("is_concept" : PySem.Str), ("is_direction" : PySem.Str), ("check_concept" : PySem.Str), ("check_direction" : PySem.Str), ("inverse" : PySem.Str), ("second_direction" : PySem.Str), ("led_to" : PySem.Str), ("chains_from" : PySem.Str), ("find_chain" : PySem.Str), ("is_chain" : PySem.Str), ("_law_stream" : PySem.Str), ("_law_draw" : PySem.Str), ("_law_choose" : PySem.Str), ("_law_names" : PySem.Str), ("_law_concept" : PySem.Str), ("_law_axiom" : PySem.Str), ("_law_allowed" : PySem.Str), ("_law_ontology" : PySem.Str), ("_law_successor" : PySem.Str), ("_law_reachable" : PySem.Str), ("_law_rounds" : PySem.Str), ("_law_leads" : PySem.Str), ("_law_mutated" : PySem.Str), ("_law_limit_holds" : PySem.Str), ("__name__" : PySem.Str)] w := by
  intro os
  kernel_rfl
theorem hfacts {P : Program} {w : World} {K : PySem.W.Frag} {h h0 : Heap} {mg : Str → Option Value} {f : Addr} (X : K.In h) (G : h.Ns mainGlobals mg) (hfa0 : mg "law" = some (.ref f)) (c : He.SaysX hfa hfn [] [] hex w h0 K) :
    ∃ fd : FuncData, (∀ (s : Shared) (v : Value), BindsTo s fd ⟨[v], []⟩ [("_law_script", v)]) ∧ ∀ base : Heap, K.In base → base.Ns mainGlobals mg → FnG P w K mg base 10 f fd ["_law_script"] (spI w K (EXc K) d_law) := by
  have cd := c.t.d
  have hmore := c.more
  unfold hex at hmore
  rw [Bool.and_eq_true, Bool.and_eq_true] at hmore
  obtain ⟨⟨hcon, _⟩, hcl⟩ := hmore
  have mC_OntologyError := nsB_ok X G (all_at hcl 0)
  have mC_InvalidConcept := nsB_ok X G (all_at hcl 1)
  have cf : clsB K = true := all_at hcl 2
  have f_all : mg "all" = none := He.free_ok X G (cd.fact 0 (f := .free "all") rfl)
  have f_bool : mg "bool" = none := He.free_ok X G (cd.fact 1 (f := .free "bool") rfl)
  have f_dict : mg "dict" = none := He.free_ok X G (cd.fact 2 (f := .free "dict") rfl)
  have f_enumerate : mg "enumerate" = none := He.free_ok X G (cd.fact 3 (f := .free "enumerate") rfl)
  have f_int : mg "int" = none := He.free_ok X G (cd.fact 4 (f := .free "int") rfl)
  have f_isinstance : mg "isinstance" = none := He.free_ok X G (cd.fact 5 (f := .free "isinstance") rfl)
  have f_len : mg "len" = none := He.free_ok X G (cd.fact 6 (f := .free "len") rfl)
  have f_list : mg "list" = none := He.free_ok X G (cd.fact 7 (f := .free "list") rfl)
  have f_max : mg "max" = none := He.free_ok X G (cd.fact 8 (f := .free "max") rfl)
  have f_min : mg "min" = none := He.free_ok X G (cd.fact 9 (f := .free "min") rfl)
  have f_range : mg "range" = none := He.free_ok X G (cd.fact 10 (f := .free "range") rfl)
  have f_sorted : mg "sorted" = none := He.free_ok X G (cd.fact 11 (f := .free "sorted") rfl)
  have f_str : mg "str" = none := He.free_ok X G (cd.fact 12 (f := .free "str") rfl)
  have f_tuple : mg "tuple" = none := He.free_ok X G (cd.fact 13 (f := .free "tuple") rfl)
  have g_LETTERS : CN K mg "LETTERS" c_LETTERS := consB_ok X G hcon 0
  have g_MOST_CHARACTERS : CN K mg "MOST_CHARACTERS" c_MOST_CHARACTERS := consB_ok X G hcon 1
  have g_CONCEPT_FORMS : CN K mg "CONCEPT_FORMS" c_CONCEPT_FORMS := consB_ok X G hcon 2
  have g_DIRECTION_FORMS : CN K mg "DIRECTION_FORMS" c_DIRECTION_FORMS := consB_ok X G hcon 3
  have g_ROLE_INCLUSIONS : CN K mg "ROLE_INCLUSIONS" c_ROLE_INCLUSIONS := consB_ok X G hcon 4
  have g_REVERSING : CN K mg "REVERSING" c_REVERSING := consB_ok X G hcon 5
  have g_MOST_CHAIN_STEPS : CN K mg "MOST_CHAIN_STEPS" c_MOST_CHAIN_STEPS := consB_ok X G hcon 6
  obtain ⟨fd_consists_of, F_consists_of⟩ := cd.def_ 0 (d := dd_consists_of) rfl
  have m_consists_of : mg "consists_of" = some (.ref (He.fAd K ("consists_of", none))) := He.glo_ok X G (cd.fact 14 (f := .glo "consists_of") rfl)
  obtain ⟨fd_is_word, F_is_word⟩ := cd.def_ 1 (d := dd_is_word) rfl
  have m_is_word : mg "is_word" = some (.ref (He.fAd K ("is_word", none))) := He.glo_ok X G (cd.fact 15 (f := .glo "is_word") rfl)
  obtain ⟨fd_is_integer, F_is_integer⟩ := cd.def_ 2 (d := dd_is_integer) rfl
  have m_is_integer : mg "is_integer" = some (.ref (He.fAd K ("is_integer", none))) := He.glo_ok X G (cd.fact 16 (f := .glo "is_integer") rfl)
  obtain ⟨fd_is_index, F_is_index⟩ := cd.def_ 3 (d := dd_is_index) rfl
  have m_is_index : mg "is_index" = some (.ref (He.fAd K ("is_index", none))) := He.glo_ok X G (cd.fact 17 (f := .glo "is_index") rfl)
  obtain ⟨fd_tag_of, F_tag_of⟩ := cd.def_ 4 (d := dd_tag_of) rfl
  have m_tag_of : mg "tag_of" = some (.ref (He.fAd K ("tag_of", none))) := He.glo_ok X G (cd.fact 18 (f := .glo "tag_of") rfl)
  obtain ⟨fd_is_concept, F_is_concept⟩ := cd.def_ 5 (d := dd_is_concept) rfl
  have m_is_concept : mg "is_concept" = some (.ref (He.fAd K ("is_concept", none))) := He.glo_ok X G (cd.fact 19 (f := .glo "is_concept") rfl)
  obtain ⟨fd_is_direction, F_is_direction⟩ := cd.def_ 6 (d := dd_is_direction) rfl
  have m_is_direction : mg "is_direction" = some (.ref (He.fAd K ("is_direction", none))) := He.glo_ok X G (cd.fact 20 (f := .glo "is_direction") rfl)
  obtain ⟨fd_check_concept, F_check_concept⟩ := cd.def_ 7 (d := dd_check_concept) rfl
  have m_check_concept : mg "check_concept" = some (.ref (He.fAd K ("check_concept", none))) := He.glo_ok X G (cd.fact 21 (f := .glo "check_concept") rfl)
  obtain ⟨fd_check_direction, F_check_direction⟩ := cd.def_ 8 (d := dd_check_direction) rfl
  have m_check_direction : mg "check_direction" = some (.ref (He.fAd K ("check_direction", none))) := He.glo_ok X G (cd.fact 22 (f := .glo "check_direction") rfl)
  obtain ⟨fd_inverse, F_inverse⟩ := cd.def_ 9 (d := dd_inverse) rfl
  have m_inverse : mg "inverse" = some (.ref (He.fAd K ("inverse", none))) := He.glo_ok X G (cd.fact 23 (f := .glo "inverse") rfl)
  obtain ⟨fd_second_direction, F_second_direction⟩ := cd.def_ 10 (d := dd_second_direction) rfl
  have m_second_direction : mg "second_direction" = some (.ref (He.fAd K ("second_direction", none))) := He.glo_ok X G (cd.fact 24 (f := .glo "second_direction") rfl)
  obtain ⟨fd_led_to, F_led_to⟩ := cd.def_ 11 (d := dd_led_to) rfl
  have m_led_to : mg "led_to" = some (.ref (He.fAd K ("led_to", none))) := He.glo_ok X G (cd.fact 25 (f := .glo "led_to") rfl)
  obtain ⟨fd_chains_from, F_chains_from⟩ := cd.def_ 12 (d := dd_chains_from) rfl
  have m_chains_from : mg "chains_from" = some (.ref (He.fAd K ("chains_from", none))) := He.glo_ok X G (cd.fact 26 (f := .glo "chains_from") rfl)
  obtain ⟨fd_find_chain, F_find_chain⟩ := cd.def_ 13 (d := dd_find_chain) rfl
  have m_find_chain : mg "find_chain" = some (.ref (He.fAd K ("find_chain", none))) := He.glo_ok X G (cd.fact 27 (f := .glo "find_chain") rfl)
  obtain ⟨fd_is_chain, F_is_chain⟩ := cd.def_ 14 (d := dd_is_chain) rfl
  have m_is_chain : mg "is_chain" = some (.ref (He.fAd K ("is_chain", none))) := He.glo_ok X G (cd.fact 28 (f := .glo "is_chain") rfl)
  obtain ⟨fd_law_stream, F_law_stream⟩ := cd.def_ 15 (d := dd_law_stream) rfl
  have m_law_stream : mg "_law_stream" = some (.ref (He.fAd K ("_law_stream", none))) := He.glo_ok X G (cd.fact 29 (f := .glo "_law_stream") rfl)
  obtain ⟨fd_law_draw, F_law_draw⟩ := cd.def_ 16 (d := dd_law_draw) rfl
  have m_law_draw : mg "_law_draw" = some (.ref (He.fAd K ("_law_draw", none))) := He.glo_ok X G (cd.fact 30 (f := .glo "_law_draw") rfl)
  obtain ⟨fd_law_choose, F_law_choose⟩ := cd.def_ 17 (d := dd_law_choose) rfl
  have m_law_choose : mg "_law_choose" = some (.ref (He.fAd K ("_law_choose", none))) := He.glo_ok X G (cd.fact 31 (f := .glo "_law_choose") rfl)
  obtain ⟨fd_law_names, F_law_names⟩ := cd.def_ 18 (d := dd_law_names) rfl
  have m_law_names : mg "_law_names" = some (.ref (He.fAd K ("_law_names", none))) := He.glo_ok X G (cd.fact 32 (f := .glo "_law_names") rfl)
  obtain ⟨fd_law_concept, F_law_concept⟩ := cd.def_ 19 (d := dd_law_concept) rfl
  have m_law_concept : mg "_law_concept" = some (.ref (He.fAd K ("_law_concept", none))) := He.glo_ok X G (cd.fact 33 (f := .glo "_law_concept") rfl)
  obtain ⟨fd_law_axiom, F_law_axiom⟩ := cd.def_ 20 (d := dd_law_axiom) rfl
  have m_law_axiom : mg "_law_axiom" = some (.ref (He.fAd K ("_law_axiom", none))) := He.glo_ok X G (cd.fact 34 (f := .glo "_law_axiom") rfl)
  obtain ⟨fd_law_allowed, F_law_allowed⟩ := cd.def_ 21 (d := dd_law_allowed) rfl
  have m_law_allowed : mg "_law_allowed" = some (.ref (He.fAd K ("_law_allowed", none))) := He.glo_ok X G (cd.fact 35 (f := .glo "_law_allowed") rfl)
  obtain ⟨fd_law_ontology, F_law_ontology⟩ := cd.def_ 22 (d := dd_law_ontology) rfl
  have m_law_ontology : mg "_law_ontology" = some (.ref (He.fAd K ("_law_ontology", none))) := He.glo_ok X G (cd.fact 36 (f := .glo "_law_ontology") rfl)
  obtain ⟨fd_law_successor, F_law_successor⟩ := cd.def_ 23 (d := dd_law_successor) rfl
  have m_law_successor : mg "_law_successor" = some (.ref (He.fAd K ("_law_successor", none))) := He.glo_ok X G (cd.fact 37 (f := .glo "_law_successor") rfl)
  obtain ⟨fd_law_reachable, F_law_reachable⟩ := cd.def_ 24 (d := dd_law_reachable) rfl
  have m_law_reachable : mg "_law_reachable" = some (.ref (He.fAd K ("_law_reachable", none))) := He.glo_ok X G (cd.fact 38 (f := .glo "_law_reachable") rfl)
  obtain ⟨fd_law_rounds, F_law_rounds⟩ := cd.def_ 25 (d := dd_law_rounds) rfl
  have m_law_rounds : mg "_law_rounds" = some (.ref (He.fAd K ("_law_rounds", none))) := He.glo_ok X G (cd.fact 39 (f := .glo "_law_rounds") rfl)
  obtain ⟨fd_law_leads, F_law_leads⟩ := cd.def_ 26 (d := dd_law_leads) rfl
  have m_law_leads : mg "_law_leads" = some (.ref (He.fAd K ("_law_leads", none))) := He.glo_ok X G (cd.fact 40 (f := .glo "_law_leads") rfl)
  obtain ⟨fd_law_mutated, F_law_mutated⟩ := cd.def_ 27 (d := dd_law_mutated) rfl
  have m_law_mutated : mg "_law_mutated" = some (.ref (He.fAd K ("_law_mutated", none))) := He.glo_ok X G (cd.fact 41 (f := .glo "_law_mutated") rfl)
  obtain ⟨fd_law_limit_holds, F_law_limit_holds⟩ := cd.def_ 28 (d := dd_law_limit_holds) rfl
  have m_law_limit_holds : mg "_law_limit_holds" = some (.ref (He.fAd K ("_law_limit_holds", none))) := He.glo_ok X G (cd.fact 42 (f := .glo "_law_limit_holds") rfl)
  obtain ⟨fd_law, F_law⟩ := cd.def_ 29 (d := dd_law) rfl
  have m_law : mg "law" = some (.ref (He.fAd K ("law", none))) := He.glo_ok X G (cd.fact 43 (f := .glo "law") rfl)
  have b := FunD.bindsA (ps := ["_law_script"]) F_law fun _ _ _ _ _ _ us hl => match us, hl with | [_], _ => rfl
  refine ⟨fd_law, fun s v => b s [v] rfl, fun base _ _ => ?_⟩
  have T0_InvalidConcept : XM0 K mg "InvalidConcept" := xm0_of PySem.F.excBase_ValueError mC_InvalidConcept (all_at hcl 3)
  have k_consists_of : Kn P w K mg base (EXc K) "consists_of" 1 ["candidate", "characters"] d_consists_of := kn_consists_of F_consists_of m_consists_of g_MOST_CHARACTERS f_isinstance f_str f_len f_all
  have k_is_word : Kn P w K mg base (EXc K) "is_word" 2 ["candidate"] d_is_word := kn_is_word F_is_word m_is_word g_LETTERS k_consists_of
  have k_is_integer : Kn P w K mg base (EXc K) "is_integer" 1 ["candidate"] d_is_integer := kn_is_integer F_is_integer m_is_integer f_isinstance f_int f_bool
  have k_is_index : Kn P w K mg base (EXc K) "is_index" 2 ["candidate", "count"] d_is_index := kn_is_index F_is_index m_is_index k_is_integer
  have k_tag_of : Kn P w K mg base (EXc K) "tag_of" 1 ["candidate", "forms"] d_tag_of := kn_tag_of F_tag_of m_tag_of f_isinstance f_tuple f_len f_str
  have k_is_concept : Kn P w K mg base (EXc K) "is_concept" 3 ["candidate"] d_is_concept := kn_is_concept F_is_concept m_is_concept g_CONCEPT_FORMS k_tag_of k_is_word
  have k_is_direction : Kn P w K mg base (EXc K) "is_direction" 3 ["candidate"] d_is_direction := kn_is_direction F_is_direction m_is_direction g_DIRECTION_FORMS k_tag_of k_is_word
  have k_check_concept : Kn P w K mg base (EXc K) "check_concept" 4 ["candidate"] d_check_concept := kn_check_concept F_check_concept m_check_concept T0_InvalidConcept k_is_concept
  have k_check_direction : Kn P w K mg base (EXc K) "check_direction" 4 ["candidate"] d_check_direction := kn_check_direction F_check_direction m_check_direction T0_InvalidConcept k_is_direction
  have k_inverse : Kn P w K mg base (EXc K) "inverse" 5 ["direction"] d_inverse := kn_inverse F_inverse m_inverse k_check_direction
  have k_second_direction : Kn P w K mg base (EXc K) "second_direction" 6 ["axiom", "direction"] d_second_direction := kn_second_direction F_second_direction m_second_direction g_REVERSING k_inverse
  have k_led_to : Kn P w K mg base (EXc K) "led_to" 7 ["axiom", "concept", "roles_only"] d_led_to := kn_led_to F_led_to m_led_to g_ROLE_INCLUSIONS k_is_direction k_second_direction
  have kd1_led_to : KnD P w K mg base (EXc K) "led_to" 7 ["axiom", "concept", "roles_only"] d_led_to [(.bl false)] := K05.kd1_led_to F_led_to m_led_to g_ROLE_INCLUSIONS k_is_direction k_second_direction
  have k_chains_from : Kn P w K mg base (EXc K) "chains_from" 8 ["ontology", "concept", "roles_only"] d_chains_from := kn_chains_from F_chains_from m_chains_from g_MOST_CHAIN_STEPS f_len f_enumerate k_led_to
  have kd1_chains_from : KnD P w K mg base (EXc K) "chains_from" 8 ["ontology", "concept", "roles_only"] d_chains_from [(.bl false)] := K05.kd1_chains_from F_chains_from m_chains_from g_MOST_CHAIN_STEPS f_len f_enumerate k_led_to
  have kd1_find_chain : KnD P w K mg base (EXc K) "find_chain" 9 ["ontology", "one", "other", "roles_only"] d_find_chain [(.bl false)] := K05.kd1_find_chain F_find_chain m_find_chain k_check_concept k_check_direction k_chains_from
  have kd1_is_chain : KnD P w K mg base (EXc K) "is_chain" 8 ["ontology", "one", "other", "candidate", "roles_only"] d_is_chain [(.bl false)] := K05.kd1_is_chain F_is_chain m_is_chain g_MOST_CHAIN_STEPS f_isinstance f_list f_len k_is_index k_led_to
  have k_law_stream : Kn P w K mg base (EXc K) "_law_stream" 1 ["_law_script", "_law_k"] d_law_stream := kn_law_stream F_law_stream m_law_stream f_len f_max f_int
  have k_law_draw : Kn P w K mg base (EXc K) "_law_draw" 1 ["_law_stream_here", "_law_count"] d_law_draw := kn_law_draw F_law_draw m_law_draw
  have k_law_choose : Kn P w K mg base (EXc K) "_law_choose" 2 ["_law_stream_here", "_law_items"] d_law_choose := kn_law_choose F_law_choose m_law_choose f_len k_law_draw
  have k_law_names : Kn P w K mg base (EXc K) "_law_names" 2 ["_law_stream_here"] d_law_names := kn_law_names F_law_names m_law_names f_int k_law_draw
  have k_law_concept : Kn P w K mg base (EXc K) "_law_concept" 3 ["_law_stream_here", "_law_names_here"] d_law_concept := kn_law_concept F_law_concept m_law_concept f_int k_law_draw k_law_choose
  have k_law_axiom : Kn P w K mg base (EXc K) "_law_axiom" 4 ["_law_stream_here", "_law_names_here", "_law_menu"] d_law_axiom := kn_law_axiom F_law_axiom m_law_axiom k_law_choose k_law_concept k_law_draw
  have k_law_allowed : Kn P w K mg base (EXc K) "_law_allowed" 1 ["_law_items"] d_law_allowed := kn_law_allowed F_law_allowed m_law_allowed
  have k_law_ontology : Kn P w K mg base (EXc K) "_law_ontology" 5 ["_law_stream_here", "_law_names_here", "_law_menu", "_law_most"] d_law_ontology := kn_law_ontology F_law_ontology m_law_ontology f_range k_law_draw k_law_axiom k_law_allowed
  have k_law_successor : Kn P w K mg base (EXc K) "_law_successor" 1 ["_law_axiom_here", "_law_concept_here", "_law_tied"] d_law_successor := kn_law_successor F_law_successor m_law_successor f_int
  have k_law_reachable : Kn P w K mg base (EXc K) "_law_reachable" 2 ["_law_ontology_here", "_law_concept_here", "_law_tied"] d_law_reachable := kn_law_reachable F_law_reachable m_law_reachable f_len f_sorted k_law_successor
  have k_law_rounds : Kn P w K mg base (EXc K) "_law_rounds" 2 ["_law_ontology_here", "_law_concept_here"] d_law_rounds := kn_law_rounds F_law_rounds m_law_rounds f_len f_dict k_law_successor
  have k_law_leads : Kn P w K mg base (EXc K) "_law_leads" 2 ["_law_ontology_here", "_law_one", "_law_other", "_law_value"] d_law_leads := kn_law_leads F_law_leads m_law_leads f_isinstance f_list f_len f_int f_bool k_law_successor
  have k_law_mutated : Kn P w K mg base (EXc K) "_law_mutated" 3 ["_law_stream_here", "_law_value", "_law_count"] d_law_mutated := kn_law_mutated F_law_mutated m_law_mutated f_len f_tuple k_law_draw k_law_choose
  have k_law_limit_holds : Kn P w K mg base (EXc K) "_law_limit_holds" 9 [] d_law_limit_holds := kn_law_limit_holds F_law_limit_holds m_law_limit_holds kd1_is_chain
  have k_law := fl_law (P := P) (w := w) (base := base) F_law m_law f_len f_min f_max f_tuple f_list f_range k_law_limit_holds k_law_stream k_law_names k_law_ontology k_law_draw k_law_rounds k_law_leads k_law_mutated kd1_find_chain kd1_is_chain
  have e := hfa0.symm.trans m_law
  cases e
  exact k_law
end K05
open PySem PySem.W PySem.Calls PyProof.Rows
set_option maxHeartbeats 0 in
theorem PySem.Challenge.cw_factsandfar_k05_chains_holds : PySem.Challenge.rw_factsandfar_k05_chains.Holds := by
  w_on; o_law
  refine HandSHeadRun.head_any (r := OpenLaw.row PySem.Challenge.rw_factsandfar_k05_chains) (q := view (OpenLaw.row PySem.Challenge.rw_factsandfar_k05_chains).prog [43]) (H := K05.hk) (ob := K05.hob) (M := 20000) (loose := [("LETTERS" : PySem.Str), ("MOST_CHARACTERS" : PySem.Str), ("CONCEPT_FORMS" : PySem.Str), ("DIRECTION_FORMS" : PySem.Str), ("ROLE_INCLUSIONS" : PySem.Str), ("REVERSING" : PySem.Str), ("MOST_CHAIN_STEPS" : PySem.Str), ("OntologyError" : PySem.Str), ("InvalidConcept" : PySem.Str), ("consists_of" : PySem.Str), ("is_word" : PySem.Str), ("is_integer" : PySem.Str), ("is_index" : PySem.Str), ("tag_of" : PySem.Str), ("is_concept" : PySem.Str), ("is_direction" : PySem.Str), ("check_concept" : PySem.Str), ("check_direction" : PySem.Str), ("inverse" : PySem.Str), ("second_direction" : PySem.Str), ("led_to" : PySem.Str), ("chains_from" : PySem.Str), ("find_chain" : PySem.Str), ("is_chain" : PySem.Str), ("_law_stream" : PySem.Str), ("_law_draw" : PySem.Str), ("_law_choose" : PySem.Str), ("_law_names" : PySem.Str), ("_law_concept" : PySem.Str), ("_law_axiom" : PySem.Str), ("_law_allowed" : PySem.Str), ("_law_ontology" : PySem.Str), ("_law_successor" : PySem.Str), ("_law_reachable" : PySem.Str), ("_law_rounds" : PySem.Str), ("_law_leads" : PySem.Str), ("_law_mutated" : PySem.Str), ("_law_limit_holds" : PySem.Str), ("__name__" : PySem.Str)]) (d := HandSHeadRun.topDef (OpenLaw.row PySem.Challenge.rw_factsandfar_k05_chains).prog 43) (kwd := []) K05.hob_eq
    (by kernel_rfl) (fun s => by kernel_rfl) K05.hrun (by kernel_rfl) (by kernel_rfl) (by kernel_rfl) (by rfl) (by first | assumption | decide +kernel) (by decide +kernel) ⟨rfl, rfl, rfl, rfl, rfl, by decide +kernel⟩ ?hw ?hc
  case hw => w_witness2
  case hc =>
    refine DI.walkG (l := PySem.Challenge.rw_factsandfar_k05_chains) (n := 63) (k := 10) (x := "_law_script") (EX := DI.EXc) (g := K05.d_law) rfl (by decide) (by kernel_rfl) ⟨rfl, by decide, by decide⟩ ?F K05.main
    intro w mg fa h Y G hmg0
    obtain ⟨⟨K, KX, c⟩, sm⟩ := Y
    have hmg : mg ("law" : PySem.Str) = some (.ref fa) := by
      have e : (HandSHeadRun.topDef (OpenLaw.row PySem.Challenge.rw_factsandfar_k05_chains).prog 43).name = ("law" : PySem.Str) := by kernel_rfl
      rw [← e]
      exact hmg0
    obtain ⟨fd, hb, hF⟩ := K05.hfacts (P := (PySem.Challenge.rw_factsandfar_k05_chains).prog) (w := w) KX G hmg c
    have hmore := c.more
    unfold K05.hex at hmore
    rw [Bool.and_eq_true, Bool.and_eq_true] at hmore
    exact ⟨K, fd, KX, sm, by simpa using hmore.1.2, hb, hF⟩

