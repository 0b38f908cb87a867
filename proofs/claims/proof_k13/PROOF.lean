import PyProof.Rows.All
import Wide.All
import OpenK.AllK
import Wide.FinOn
import HandS.ForMost
import HandS.ForExc
import HandS.ExcInit
import HandS.TryMany
import HandS.IsInst
import HandS.Strs
import HandS.Evl
import HandS.Wide
import HandS.Conv
import HandS.SetFor
import HandS.SetKeys
import HandS.ExcField
import HandS.Walk
import KE.GoesMore
import HandS.TupMul
import HandS.SortKw
import KE.GoesEnum
import HandS.NoneIn
import PyProof.ListStr
import HandS.Sort
import HandS.Flow
import HandS.WordsDict
import HandS.DictComp
import HandS.Defaults
import KE.SortData
import KE.DataMinMax
import HandS.Style
import HandS.Replace
import PySem.Challenge.RW_holedwindows_k13_greater_rings
set_option Elab.async false
set_option linter.all false
set_option maxRecDepth 100000
set_option maxHeartbeats 4000000
/-! Rules of our own: the base class's __init__ by an own class's name. -/
namespace Qt
open PySem PySem.Spec PyProof.Rows L2

section
variable {X : Cx} {e : Expr} {es : List Expr} {ta : TA} {x : Str} {p p1 p2 pos : Pos} {W : Addr}
/-- what the top says of an own class W over ValueError: W.__init__ is ValueError's -/
structure OwnBase (K : PySem.W.Frag) (W : Addr) : Prop where
  rd : PySem.W.readsIn K W (.type "type") = true
  ga : PySem.W.specialIn K (.ref W) "__getattribute__" = some (some (.builtin "type.__getattribute__"))
  it : PySem.W.findCls K (.ref W) (.type "type") "__init__" = some (.val (.builtin "ValueError.__init__"))
theorem pe_ownInit {pl : Sem Bool} (hg : Gl X x) (hm : X.mg x = some (.ref W)) (o : OwnBase X.K W) (ha : PA X (e :: es) ta)
    (hdb : (x == ("__debug__" : Str)) = false := by decide)
    (hc : eval (.Call (.Attribute (.Name x p1) "__init__" p2) (e :: es) [] pos) X.env = (do
      let ov ← eval (.Name x p1) X.env
      standAt p2.atName
      let (f, first) ← holding [ov] (getMethod ov "__init__" pl)
      callWith pos f first (backTo pos (starEach (e :: es) X.env)) (backToKw pos (keywordEach [] X.env))) := by rfl)
    (he : starEach (e :: es) X.env = (false, eval e X.env) :: starEach es X.env := by rfl) (hpl : (backTo pos (starEach es X.env)).any (·.1) = false := by rfl) :
    PE X (.Call (.Attribute (.Name x p1) "__init__" p2) (e :: es) [] pos) (tVeI X.K ta) := by
  refine ⟨fun pins s σ H Q I h => ?_⟩
  refine PySem.W.methodCall_KW (ld_glob I hg hm ?_ hdb) hc
  refine PySem.W.method_cls I.kIn o.ga (PySem.W.cls_value I.kIn o.rd o.it (by decide +kernel) ?_)
  show wpAny _ _ (callWith pos (Value.builtin "ValueError.__init__") [] (backTo pos (starEach (e :: es) X.env)) []) _ _ _
  refine callWith_method1 (thn (ha.run pos pins _ σ H _ (I.tok _) h) fun us s1 hh => ?_) he hpl
  obtain ⟨vs, H1, I1, r1, a, C, ws, ev, hl, T, ea, q⟩ := hh
  subst ev
  cases r1 with
  | @cons _ u0 _ ur ra rw' =>
    obtain rfl : u0 = Value.ref a := ra
    have hlen : ur.length ≤ sizeLine := by
      rw [← Paired.length rw', sizeLine_eq]
      omega
    exact oinit_ok T I1 ea hlen fun s' J => ⟨.non, H1, J, rfl, q⟩
end
end Qt
/-! del xs[a:] of a list. -/
namespace Qt
open PySem PySem.Spec PyProof.Rows L2

theorem keepFront {α : Type} (a : Nat) : ∀ (f : α × Nat → Option α) (l : List α) (i n : Nat), i + l.length = n → (∀ x k, k < n → f (x, k) = if a ≤ k then none else some x) →
    ((l.zipIdx i).filterMap f) = l.take (a - i)
  | f, [], i, n, _, _ => by simp
  | f, x :: l, i, n, e, hs => by
    have ih := keepFront a f l (i + 1) n (by rw [List.length_cons] at e; omega) hs
    rw [List.length_cons] at e
    rw [List.zipIdx_cons, List.filterMap_cons, hs x i (by omega)]
    by_cases h : a ≤ i
    · have e0 : a - i = 0 := by omega
      have e1 : a - (i + 1) = 0 := by omega
      rw [if_pos h, e0, List.take_zero]
      rw [e1, List.take_zero] at ih
      exact ih
    · have e1 : a - i = (a - (i + 1)) + 1 := by omega
      rw [if_neg h, e1, List.take_succ_cons, ← ih]
section
variable {prog : Program} {w : World} {A : Around} {E : Value → Shared → Prop} {s : Shared}
theorem tail_bounds {a n : Nat} (h : a ≤ n) : sliceBounds (some (a : Int)) none none n = ((a : Int), (n : Int), 1) := by
  have h1 : ¬ ((a : Int) < 0) := by omega
  simp only [sliceBounds, Option.getD_none, h1, if_false, show (1 : Int) > 0 by decide, if_true]
  congr 1
  omega
theorem take_le' {α : Type} (a : Nat) (l : List α) : (l.take a).length ≤ l.length := by rw [List.length_take]; omega
theorem delItem_tail {l sl : Addr} {items : List Value} {n : Nat} {vl : Value} {a : Nat} {Q : Unit → Shared → Prop}
    (e : s.heap.get? l = some { cls := .type "list", data := .seq items.toArray n }) (hs : s.heap.IsSliceOf sl vl .none .none) (pl : IsPart vl (some (a : Int))) (ha : a ≤ items.length) (hz : items.length ≤ sizeLine)
    (h : ∀ f : Array Value → Array Value, f items.toArray = (items.take a).toArray → Q () { s with heap := s.heap.update l (Obj.mapSeq f) }) :
    wpAny (model prog w) A (delItem (.ref l) (.ref sl)) Q E s := by
  have hl : s.heap.IsList l items.toArray := PySem.IsL.isList e
  obtain ⟨os, hos, hcs, hds⟩ := id hs
  have hTs : s.TypeIs (.ref sl) "slice" := ⟨os, hos, hcs⟩
  have hsize : items.toArray.size = items.length := List.size_toArray ..
  have hstep : ¬ ((rawPart none == rawInt 0) = true) := Bool.false_ne_true
  refine wpAny_delItem_slot hl.typeIs (by decide) F.slot_list_delitem (wpAny_call_entry F.slot_list_delitem hl.typeIs F.entry_list_delitem ?_ (F.args_list_delitem_2 _ _))
  unfold Builtin.«list.__delitem__»
  refine wpAny_bind (wpAny_pure ?_)
  dsimp only
  refine wpAny_bind ?_
  unfold Builtin.List.listSubscript?
  refine wpAny_bind (wpAny_specialOf hTs slice_no_index ?_)
  simp only [Option.isNone_none, if_true]
  refine wpAny_pure ?_
  dsimp only
  refine wpAny_bind (wpAny_typeOf hTs ?_)
  rw [if_neg (by decide), listSliceParts_eq]
  refine wpAny_bind (wpAny_bind (wpAny_field hos hds (x := .none) rfl (wpAny_bind (wpAny_listPart .none ?_))))
  rw [if_neg hstep]
  refine wpAny_bind (wpAny_field hos hds (x := vl) rfl (wpAny_bind (wpAny_listPart pl ?_)))
  refine wpAny_bind (wpAny_field hos hds (x := .none) rfl (wpAny_bind (wpAny_listPart .none (wpAny_pure ?_))))
  unfold Builtin.List.listItems
  refine wpAny_bind (wpAny_bind (wpAny_seqItems e rfl (wpAny_pure ?_)))
  rw [hsize]
  refine wpAny_bind (wpAny_of_eq ((sliceIndices_raw (some (a : Int)) none none items.length (by simp)).trans (congrArg (pure : Int × Int × Int → Sem (Int × Int × Int)) (tail_bounds ha))) ?_)
  refine wpAny_bind (wpAny_rule ?_)
  have key : ∀ f : Value × Nat → Option Value, (∀ x k, k < items.length → f (x, k) = if a ≤ k then none else some x) → (items.zipIdx.filterMap f).toArray = (items.take a).toArray := fun f hf => by
    rw [keepFront a f items 0 items.length (by omega) hf, Nat.sub_zero]
  have hk : ∀ (x : Value) (k : Nat), k < items.length → (if (if (1 : Int) > 0 then (decide ((a : Int) ≤ (k : Int)) && decide ((k : Int) < (items.length : Int)) && (((k : Int) - (a : Int)) % 1 == 0)) else false) = true then none else some x) = if a ≤ k then none else some x := fun x k hk => by
    rw [if_pos (show (1 : Int) > 0 by decide)]
    have e1 : (((k : Int) - (a : Int)) % 1 == 0) = true := by rw [Int.emod_one]; rfl
    rw [e1, Bool.and_true, decide_eq_true (by omega : (k : Int) < (items.length : Int)), Bool.and_true]
    by_cases h1 : a ≤ k
    · rw [if_pos (decide_eq_true (by omega)), if_pos h1]
    · rw [if_neg (by simp; omega), if_neg h1]
  refine wpAny_bind ?_
  show wpAny _ _ (updateSeq l _) _ _ s
  refine wpAny_updateSeq e rfl ?_ (by rw [hsize]; exact hz) ?_
  · refine wpAny_bind (wpAny_letGo (wpAny_pure ⟨.none, rfl, h _ ?_⟩))
    exact key _ hk
  · refine Nat.le_trans (m := items.length) ?_ (Nat.le_succ_of_le hz)
    refine Nat.le_trans (Nat.le_of_eq (congrArg Array.size (key _ hk))) ?_
    rw [List.size_toArray]
    exact take_le' a items
end
section
variable {X : Cx} {o i : Expr} {to ti : TE} {p2 tpos pos : Pos}
def tDelTail (to : TE) (ti : TE) : TS := fun D σ H => to σ H fun x H1 => ti σ H1 fun y H2 => ∃ (l : Addr) (xs : List V) (a : Nat), x = .ref l ∧ y = .int (a : Int) ∧ H2 l = some (.lst xs) ∧ a ≤ xs.length ∧ D.nx σ (upd H2 l (.lst (xs.take a)))
theorem ps_delTail (ho : PE X o to) (hi : PE X i ti) : PS X (.Delete [.Subscript o (.Slice (some i) none none p2) tpos] pos) (tDelTail to ti) := by
  refine ⟨fun pins s σ H D I h => ?_⟩
  refine wpAny_Delete (wpAny_deleteEach_cons (wpAny_delete_Subscript (thn (ho.run pins s σ H _ I h) fun u s1 hh => ?_)))
  obtain ⟨x, H1, I1, rx, q1⟩ := hh
  refine wpAny_Slice ?_
  rw [evalPart_some]
  refine thn (hi.run pins s1 σ H1 _ I1 q1) fun iv s2 hh => ?_
  obtain ⟨y, H2, I2, ry, q2⟩ := hh
  rw [evalPart_none]
  refine wpAny_pure (wpAny_pure ?_)
  obtain ⟨l, xs, a, ex, ey, hH, ha, q2⟩ := q2
  subst ex
  subst ey
  cases (show u = Value.ref l from rx)
  obtain ⟨t, rfl⟩ := (show ∃ t, iv = Value.int (a : Int) t from ry)
  have I4 : Inv X pins σ H2 { s2 with heap := s2.heap.push { cls := .type "slice", data := .fields #[.int (a : Int) t, .none, .none] } } := I2.kept (t' := s2.toks) fun b ob q => Heap.get?_push_of_some _ q
  obtain ⟨z, its, n, r, hl, e⟩ := I4.lstM hH
  refine delItem_tail (a := a) e (Heap.IsSliceOf.new ..) (.int _ _) (by rw [← hl]; exact ha) (by rw [← hl]; exact z) fun f hf => ?_
  refine wpAny_deleteEach_nil ⟨σ, _, ?_, q2⟩
  exact I4.lset (its' := its.take a) (t' := s2.toks) hH e hf (r.take a) (Nat.le_trans (take_le' a xs) z)
end
end Qt
/-! set(xs) of a list: whatever the turns of its loop leave. -/
namespace Qt
open PySem PySem.Spec PyProof.Rows L2

/-- a set that was just made -/
abbrev sob (w : World) : Obj := { cls := .type "set", dict := none, data := .set #[] 0 (.fresh 0 0 (!w.params.followText "set-order")) }
section
variable {P : Program} {w : World} {A : Around} {E : Value → Shared → Prop} {s : Shared}
/-- the loop of set(xs) over these items leaves the set as Post says -/
def Fills (P : Program) (w : World) (items : Array Value) (Post : Addr → Heap → Prop) : Prop :=
  ∀ (A' : Around) (I : Addr) (fp wr : List Addr) (G : Array GenState → Array GenState → Prop) (St : Nat → Shared → Prop) (R : Result → Shared → Prop),
    WalksS P w A'.in1 I fp wr G items.size (fun i v => items[i]? = some v) St → ∀ (S : Addr), S ∉ fp → ∀ s0 : Shared, St 0 s0 → s0.heap.get? S = some (sob w) →
    (∀ s', Moved (S :: wr) G s0 s' → Post S s'.heap → R (.ok (.ret .none)) s') → codeAny (model P w) A' (.builtin "set.update.loop" ⟨[.ref S, .ref I], []⟩) R s0
set_option maxHeartbeats 16000000 in
theorem set_of_list {l : Addr} {items : Array Value} {Post : Addr → Heap → Prop} {Q : Value → Shared → Prop} (hh : A.handled = none) (hl : s.heap.IsList l items) (loop : Fills P w items Post)
    (h : ∀ (h' : Heap) (tk : Nat), Post s.heap.objs.size h' → (∀ b o, s.heap.get? b = some o → h'.get? b = some o) → Q (.ref s.heap.objs.size) { s with heap := h', toks := tk }) :
    wpAny (model P w) A (call (.type "set") [.ref l]) Q E s := by
  obtain ⟨c, tl, hmro⟩ := F.called_set.mro
  have hmade := F.called_set.made
  have hsub := F.called_set.sub
  have h1 := F.called_set.notType
  have h2 := F.called_set.canCreate
  have hct := F.typeCall_set_1 (.ref l)
  refine wpAny_call (codeAny_of_tree ?_)
  show wpAny _ _ (callAny (.type "set") _) _ _ _
  refine wpAny_pure ⟨Code.quiet_builtin _ (by decide +kernel), codeAny_builtin F.entry_type_call ?_⟩
  rw [Around.under_plain (weight_type_call_type "set" [.ref l] []) rfl]
  repeat (any_goals (first | assumption | wp_step))
  refine codeAny_mono (code_set_led1 (.ref l) (E := E) (Q₁ := fun obj s₁ => obj = .ref s.heap.objs.size ∧ s₁ = { s with heap := s.heap.push (sob w) }) ⟨rfl, rfl⟩) fun r s₁ hr => ?_
  rcases r with er | fl
  · exact hr
  cases fl
  case ret obj =>
    obtain ⟨rfl, rfl⟩ := hr
    have hS : (s.heap.push (sob w)).get? s.heap.objs.size = some (sob w) := Heap.get?_push_size _ rfl
    have hT : Shared.TypeIs { s with heap := s.heap.push (sob w) } (.ref s.heap.objs.size) "set" := ⟨_, hS, rfl⟩
    have hli := F.called_set.init.lookup
    have hbi := F.called_set.init.bind (.ref s.heap.objs.size)
    repeat (any_goals (first | assumption | wp_step))
    refine codeAny_mono (codeAny_call_builtin (R := wants (fun r s₂ => r = .none ∧ ∃ h' tk, s₂ = { s with heap := h', toks := tk } ∧ Post s.heap.objs.size h' ∧ ∀ b o, s.heap.get? b = some o → h'.get? b = some o) E)
      F.called_set.init.plain F.entry_set_init (check_set_init_1 hT ?_)) fun r₂ s₂ hr₂ => ?_
    · obtain ⟨ol, hol, hcl, nl, hdl⟩ := hl
      obtain ⟨ocls, odict, odata, oslots⟩ := ol
      simp only at hcl hdl
      subst hcl
      subst hdl
      have hol' : (s.heap.push (sob w)).get? l = some { cls := .type "list", dict := odict, data := .seq items nl, slots := oslots } := Heap.get?_push_of_some _ hol
      have hsls := F.sub_list_set
      have hslf := F.sub_list_frozenset
      have hne : (Value.type "list" == Value.type "dict") = false := by decide
      have hl1 : (s.heap.push (sob w)).IsList l items := ⟨_, hol', rfl, nl, rfl⟩
      unfold Builtin.«set.__init__» noKeywords Builtin.Frozenset.updateFrom
      generalize hPI : pyIter = PI
      wp_walk
      subst hPI
      refine wpAny_pyIter_list hl1 ?_
      refine wpAny_bind (wpAny_runValue ?_)
      have hlS : l < s.heap.objs.size := Heap.lt_size hol
      have hz : (s.heap.push (sob w)).objs.size = s.heap.objs.size + 1 := Heap.size_push ..
      have hneI : l ≠ (s.heap.push (sob w)).objs.size := by
        rw [hz]
        exact Nat.ne_of_lt (Nat.lt_succ_of_lt hlS)
      have hSf : s.heap.objs.size ∉ [(s.heap.push (sob w)).objs.size, l] := fun z => by
        rcases List.mem_cons.mp z with z | z
        · rw [hz] at z
          exact absurd z (Nat.ne_of_lt (Nat.lt_succ_self _))
        · exact absurd (List.mem_singleton.mp z) (Nat.ne_of_gt hlS)
      refine loop _ _ _ _ _ _ _ ((Walks.list (by simp [hh]) _ l hneI items).toS) s.heap.objs.size hSf _ ⟨⟨_, Heap.get?_push_size _ rfl, rfl, rfl⟩, (hl1.push _)⟩ (Heap.get?_push_of_some _ hS) fun s' hm hp => ?_
      obtain ⟨h', g2, d', tk', os'⟩ := s'
      obtain rfl : g2 = s.gens := hm.gens
      obtain rfl : d' = s.drawn := hm.drawn
      obtain rfl : os' = s.os := hm.os
      show wpAny _ _ _ _ _ _
      refine wpAny_pure ?_
      show wpAny _ _ (ret Value.none) _ _ _
      refine wpAny_pure ⟨rfl, h', tk', rfl, hp, fun b o e => ?_⟩
      have hb0 : b < s.heap.objs.size := Heap.lt_size e
      refine hm.heap b o (fun z => ?_) (Heap.get?_push_of_some _ (Heap.get?_push_of_some _ e))
      rcases List.mem_cons.mp z with z | z
      · exact absurd z (Nat.ne_of_lt hb0)
      · have z' := List.mem_singleton.mp z
        rw [hz] at z'
        exact absurd z' (Nat.ne_of_lt (Nat.lt_succ_of_lt hb0))
    · rcases r₂ with er | fl₂
      · exact hr₂
      cases fl₂
      case ret r =>
        obtain ⟨rfl, h', tk, rfl, hp, hk'⟩ := hr₂
        repeat (any_goals (first | assumption | wp_step))
        exact h _ _ hp hk'
      all_goals exact hr₂.elim
  all_goals exact hr.elim
/-- ints -/
theorem fills_ints {items : Array Value} {ns : List Int} (hit : IntsAre items.toList ns) (hb : ns.length + 1 < scanBound) :
    Fills P w items fun S h => ∃ c, c ≤ ns.length ∧ SetR w h S (fun j => decide (j ∈ ns)) c := by
  have hn : items.size = ns.length := by
    have q := IntsAre.length hit
    rwa [Array.length_toList] at q
  intro A' I fp wr G St R W S hS s0 hst h0 hR
  refine set_update_ints W S hS ns hn hb (fun i v hv => ?_) (items.size - 0) 0 s0 rfl (Nat.zero_le _) hst ⟨0, Nat.le_refl 0, setR_new_at h0⟩ fun s' c hm hc hS' => hR s' hm ⟨c, by omega, hS'⟩
  have hi : i < ns.length := by
    rw [← hn]
    exact (Array.getElem?_eq_some_iff.mp hv).1
  obtain ⟨t, e⟩ := IntsAre.int_at hit i v (by rw [Array.getElem?_toList]; exact hv)
  refine ⟨ns[i], t, List.getElem?_eq_getElem hi, ?_⟩
  rw [e, List.getD_eq_getElem?_getD, List.getElem?_eq_getElem hi] <;> rfl
end
section
variable {X : Cx}
/-- set(xs), xs a list of ints -/
def rSetI (K : PySem.W.Frag) (w : World) : List V → Hp → VK → Prop := fun xs H Q => ∃ (l : Addr) (ns : List Int), xs = [.ref l] ∧ SqL K H l (ns.map V.int) ∧ ns.length ≤ 1000 ∧
  ∀ p c, c ≤ ns.length → H p = none → Q (.ref p) (upd H p (SetO w p (fun j => decide (j ∈ ns)) c))
theorem cr_setI (hc : X.calm = true) : CallR X (.type "set") (rSetI X.K X.w) := by
  intro pins s σ H xs us Q I r h
  obtain ⟨l, ns, rfl, hs, hz, q⟩ := h
  rw [Vals.ref1 r]
  obtain ⟨its, rv, hl, _⟩ := I.list hs
  have fl : Fills X.prog X.w its.toArray fun S h => ∃ c, c ≤ ns.length ∧ SetR X.w h S (fun j => decide (j ∈ ns)) c := fills_ints (ns := ns) (by simpa using rv.ints) (by unfold scanBound; omega)
  refine set_of_list (I.ok.hd hc) hl.isList fl fun h' tk hp hk => ?_
  obtain ⟨c, hc', hS⟩ := hp
  exact ⟨.ref _, _, I.laid (t' := tk) hk (Nat.le_refl _) (setO_new hS), rfl, q _ c hc' (I.hok.fresh (Nat.le_refl _))⟩
end
end Qt
/-! try with several clauses, with a name and without one. -/
namespace Qt
open PySem PySem.Spec PyProof.Rows L2

/-- the ends of a suite whose error has the name in slot i -/
def unnamed (i : Nat) (D : Ends) : Ends := { nx := fun σ' H' => D.nx (σ'.set i none) H', rt := D.rt, bk := fun σ' H' => D.bk (σ'.set i none) H', ct := fun σ' H' => D.ct (σ'.set i none) H' }
abbrev Suite := Addr → Value → Option Addr → TS
/-- what the clauses wish of an error, one behind the other -/
def wMix (K : PySem.W.Frag) (Wout : WX) (D : Ends) : List (Value × Option Nat × Suite) → WX
  | [] => Wout
  | (c, o, ts) :: r => fun cls d σ H => ∃ b, PySem.W.exmOne K cls c = some b ∧
      (b = true → ∀ a, H a = none → match o with
        | none => ts a cls d D σ H
        | some i => ts a cls d (unnamed i D) (σ.set i (some (.ref a))) H) ∧ (b = false → wMix K Wout D r cls d σ H)
inductive Hds (X : Cx) : List ExceptHandler → List (Value × Option Nat × Suite) → Prop
  | nil : Hds X [] []
  | plain {x : Str} {c : Value} {ts : Suite} {b₀ : Stmt} {suite : List Stmt} {np pos' : Pos} {hds : List ExceptHandler} {l : List (Value × Option Nat × Suite)} (hc : Names X x c)
      (hsu : ∀ (a : Addr) (oe : Obj) (cls : Value) (d : Option Addr) (pn : List (Addr × Obj)), Zc cls d oe → (∃ vs, oe.data = .fields vs) → PSs (X.suite a ((a, oe) :: pn)) (b₀ :: suite) (ts a cls d)) (r : Hds X hds l) :
      Hds X (.ExceptHandler (some (.Name x np)) none (b₀ :: suite) pos' :: hds) ((c, none, ts) :: l)
  | named {x n : Str} {i : Nat} {c : Value} {ts : Suite} {b₀ : Stmt} {suite : List Stmt} {np pos' : Pos} {hds : List ExceptHandler} {l : List (Value × Option Nat × Suite)} (hc : Names X x c) (hi : X.N[i]? = some n) (hln : X.env.kindOf n = some .local)
      (hsu : ∀ (a : Addr) (oe : Obj) (cls : Value) (d : Option Addr) (pn : List (Addr × Obj)), Zc cls d oe → (∃ vs, oe.data = .fields vs) → PSs (X.suite a ((a, oe) :: pn)) (b₀ :: suite) (ts a cls d)) (r : Hds X hds l) :
      Hds X (.ExceptHandler (some (.Name x np)) (some n) (b₀ :: suite) pos' :: hds) ((c, some i, ts) :: l)
section
variable {X : Cx} {body : List Stmt} {h₀ : ExceptHandler} {hds : List ExceptHandler} {l : List (Value × Option Nat × Suite)} {pos : Pos} {tb : WX → TS} {Wout : WX}
theorem ps_try_mix (hs : X.stack = X.env :: X.outer) (hf : X.env.frame = some X.env.locals) (hN : X.N.Nodup) (tk : Takes X Wout)
    (hb : ∀ (W : WX) (pn : List (Addr × Obj)) (xe : Value → Shared → Prop), Takes (X.tr pn xe) W → PassesOwn (model X.prog X.w) X.A X.env xe → PSs (X.tr pn xe) body (tb W))
    (hh : Hds X (h₀ :: hds) l) : PS X (.Try body (h₀ :: hds) [] [] pos) (fun D σ H => tb (wMix X.K Wout D l) D σ H) := by
  refine ⟨fun pins s σ H D I h => ?_⟩
  have ok := I.ok
  have hfr : X.A.frames = some (X.env :: X.outer) := by rw [ok.frames, hs]
  refine wpAny_Try_except ?_
  have catch_ : ∀ (u : Value) (s' : Shared), XE (X.tr (X.pn ++ pins) (fun e s₁ => wpAny (model X.prog X.w) X.A (noteFrame e X.env) (fun _ s₂ => wpAny (model X.prog X.w) X.A (setFlight e none) (fun _ s₃ =>
      wpAny (model X.prog X.w) X.A (handleBy e X.env (h₀ :: hds)) (SP X pins D) X.xe s₃) X.xe s₂) X.xe s₁)) (wMix X.K Wout D l) u s' →
      wpAny (model X.prog X.w) X.A (noteFrame u X.env) (fun _ s₂ => wpAny (model X.prog X.w) X.A (setFlight u none) (fun _ s₃ => wpAny (model X.prog X.w) X.A (handleBy u X.env (h₀ :: hds)) (SP X pins D) X.xe s₃) X.xe s₂) X.xe s' := by
    intro u s' xx
    obtain ⟨a, B, sI, pins', σ', H', cls, d, rfl, J', nb, up, sky, na, os, ag, w⟩ := xx
    have J : Inv X pins σ' H' sI := J'.ofTry ok
    have sky' : Sky B (X.env :: X.outer) a (Zc cls d) X.env.locals s'.heap := by
      rw [← hs]
      exact sky
    refine Sky.land Zc.steady hfr hf sky' fun h3 fl3 up3 => ?_
    have J3 : Inv X pins σ' H' { s' with heap := h3 } := J.landed nb fl3.1 (up.trans up3) os ag
    obtain ⟨oe3, vs3, he3, hz3, hd3⟩ := fl3.there
    have nfr : a ∉ frs (X.env :: X.outer) := fun hm => by
      obtain ⟨_, o', e', hnf⟩ := fl3.2.2.1.mem hm
      rw [he3] at e'
      cases e'
      exact hnf _ hd3
    have nL : a ≠ X.env.locals := fun z => nfr (List.mem_filterMap.mpr ⟨X.env, List.mem_cons_self, by rw [hf, z]⟩)
    have nF : a ∉ X.fs := fun hm => by
      obtain ⟨e, he, q⟩ := List.mem_filterMap.mp hm
      exact nfr (List.mem_filterMap.mpr ⟨e, List.mem_cons_of_mem _ he, q⟩)
    have S3 := J3.suite he3 hd3 na nL nF
    have LT : PySem.W.Looks (model X.prog X.w) h3 (typeOf (.ref a)) cls := fun A Q E s k q => wpAny_typeOf_ref (k _ _ he3) (by rw [hz3.1]; exact q)
    have test : ∀ {x : Str} {c : Value} {np : Pos} {Q : Value → Shared → Prop} {E : Value → Shared → Prop}, Names X x c → Q c { s' with heap := h3 } →
        wpAny (model X.prog X.w) (X.A.mark (some (.ref a))) (eval (.Name x np) X.env) Q E { s' with heap := h3 } := fun {x c np Q E} hc q => by
      obtain ⟨hg, hdbg, hm | ⟨hm, hv, hnn⟩⟩ := hc
      · exact ld_glob (X := X.suite a ((a, oe3) :: (X.pn ++ pins))) S3 hg hm q hdbg
      · exact ld_blt (X := X.suite a ((a, oe3) :: (X.pn ++ pins))) S3 hg hm hv q hnn hdbg
    have go : ∀ {hds' : List ExceptHandler} {l' : List (Value × Option Nat × Suite)}, Hds X hds' l' → wMix X.K Wout D l' cls d σ' H' →
        wpAny (model X.prog X.w) X.A (handleBy (.ref a) X.env hds') (SP X pins D) X.xe { s' with heap := h3 } := by
      intro hds' l' hk
      induction hk with
      | nil =>
        intro w
        refine wpAny_handleBy_nil ?_
        obtain ⟨k1, k2, k3, oe, vs, T, oT, ts', he, hz, hd, h1, hr⟩ := id fl3
        unfold PySem.passOn
        refine wpAny_bind (wpAny_field he hd h1 ?_)
        rw [if_neg (show ¬ ((Value.ref T == Value.none) = true) from by simp)]
        have fin : wpAny (model X.prog X.w) X.A (setFlight (.ref a) X.env.frame) (fun _ s4 => wpAny (model X.prog X.w) X.A (throw (.ref a) : Sem Flow) (SP X pins D) X.xe s4) X.xe { s' with heap := h3 } := by
          rw [hf]
          refine HandSPX.setFlight_upZ fl3 fun h4 hh4 up4 => wpAny_throw (tk _ _ ?_)
          exact ⟨a, B, sI, pins, σ', H', cls, d, rfl, J, nb, (up.trans up3).trans up4, .inr (.inr (by rw [hs]; exact hh4)), na, os, ag, w⟩
        first
          | exact wpAny_bind (wpAny_pure (wpAny_bind fin))
          | exact wpAny_bind fin
      | @plain x c ts b₀ suite np pos' hds2 l2 hc hsu r ih =>
        intro w
        obtain ⟨b, hb1, hyes, hno⟩ := w
        have LM := PySem.W.exm_one (M := model X.prog X.w) (J3.kIn) LT hb1
        refine wpAny_handleBy_cons (codeAny_handlers_test ?_) (by intro q; cases q)
        refine test hc (LM.here ?_)
        cases b with
        | true =>
          refine codeAny_handlers_suite ?_
          refine HandSPX.lands_againZ fl3 fun h4 fl4 up4 => ?_
          have J4 : Inv X pins σ' H' { s' with heap := h4 } := J.landed nb fl4.1 ((up.trans up3).trans up4) os ag
          obtain ⟨oe4, vs4, he4, hz4, hd4⟩ := fl4.there
          have S4 := J4.suite he4 hd4 na nL nF
          refine wpAny_mono ((hsu a oe4 cls d (X.pn ++ pins) hz4 ⟨_, hd4⟩).run [] _ _ H' _ S4 (hyes rfl a na)) (fun f s6 hsp => ?_) (fun _ _ z => False.elim z)
          cases f
          case ret u =>
            obtain ⟨v6, σ6, H6, S6, r6, q6⟩ := hsp
            exact ⟨_, _, _, S6.unsuite ok, r6, q6⟩
          all_goals
            obtain ⟨σ6, H6, S6, q6⟩ := hsp
            exact ⟨_, _, S6.unsuite ok, q6⟩
        | false =>
          show wpAny _ X.A (handleBy (.ref a) X.env hds2) _ _ _
          exact ih (hno rfl)
      | @named x n i c ts b₀ suite np pos' hds2 l2 hc hi hln hsu r ih =>
        intro w
        obtain ⟨b, hb1, hyes, hno⟩ := w
        have LM := PySem.W.exm_one (M := model X.prog X.w) (J3.kIn) LT hb1
        refine wpAny_handleBy_cons (codeAny_handlers_test ?_) (by intro q; cases q)
        refine test hc (LM.here ?_)
        cases b with
        | true =>
          refine codeAny_handlers_suite_as ?_
          refine HandSPX.lands_againZ fl3 fun h4 fl4 up4 => ?_
          have J4 : Inv X pins σ' H' { s' with heap := h4 } := J.landed nb fl4.1 ((up.trans up3).trans up4) os ag
          obtain ⟨oe4, vs4, he4, hz4, hd4⟩ := fl4.there
          have S4 := J4.suite he4 hd4 na nL nF
          refine store_ok (X := X.suite a ((a, oe4) :: (X.pn ++ pins))) (v := .ref a) S4 hN hi (.inl hln) rfl (fun s5 S5 => ?_) (.inr hln)
          refine wpAny_mono ((hsu a oe4 cls d (X.pn ++ pins) hz4 ⟨_, hd4⟩).run [] s5 _ H' _ S5 (hyes rfl a na)) (fun f s6 hsp => ?_) (fun _ _ z => False.elim z)
          have end_ : ∀ {σ6 : L2.St} {H6 : Hp} {Q : Shared → Prop}, Inv (X.suite a ((a, oe4) :: (X.pn ++ pins))) [] σ6 H6 s6 → (∀ s7, Inv X pins (σ6.set i none) H6 s7 → Q s7) →
              wpAny (model X.prog X.w) X.A (do bindName X.env n .none; unbindBehindTheSuite X.env n pos') (fun _ s7 => Q s7) X.xe s6 := fun {σ6 H6 Q} S6 hq => gone_ok (S6.unsuite ok) hN hi hln hq
          cases f
          case ret u =>
            obtain ⟨v6, σ6, H6, S6, r6, q6⟩ := hsp
            exact end_ S6 fun s7 J7 => ⟨_, _, _, J7, r6, q6⟩
          all_goals
            obtain ⟨σ6, H6, S6, q6⟩ := hsp
            exact end_ S6 fun s7 J7 => ⟨_, _, J7, q6⟩
        | false =>
          show wpAny _ X.A (handleBy (.ref a) X.env hds2) _ _ _
          exact ih (hno rfl)
    exact go hh w
  refine wpAny_mono ((hb (wMix X.K Wout D l) (X.pn ++ pins) _ (fun u s' xx => catch_ u s' xx) PassesOwn.looking).run [] s σ H D (I.toTry _) h) (fun f s1 hsp => ?_) (fun e s1 he => he)
  cases f with
  | next =>
    obtain ⟨σ', H', J', q⟩ := hsp
    exact wpAny_execs_nil ⟨σ', H', J'.ofTry ok, q⟩
  | brk =>
    obtain ⟨σ', H', J', q⟩ := hsp
    exact ⟨σ', H', J'.ofTry ok, q⟩
  | cont =>
    obtain ⟨σ', H', J', q⟩ := hsp
    exact ⟨σ', H', J'.ofTry ok, q⟩
  | ret u =>
    obtain ⟨v, σ', H', J', r, q⟩ := hsp
    exact ⟨v, σ', H', J'.ofTry ok, r, q⟩
end
end Qt
/-! text * number. -/
namespace Qt
open PySem PySem.Spec PyProof.Rows L2

def repS (z : Str) (k : Nat) : Str := ⟨((List.replicate k z.cps.toList).flatten).toArray⟩
theorem foldl_app (l : List (Array Nat)) : ∀ a : Array Nat, (l.foldl (· ++ ·) a).toList = a.toList ++ (l.map Array.toList).flatten := by
  induction l with
  | nil => intro a; simp
  | cons x l ih => intro a; rw [List.foldl_cons, ih]; simp
theorem repS_fold (z : Str) (k : Nat) : (⟨(List.replicate k z.cps).foldl (· ++ ·) #[]⟩ : Str) = repS z k := by
  unfold repS
  congr 1
  apply Array.toList_inj.mp
  rw [foldl_app]
  simp
theorem repS_one (z : Str) : repS z 1 = z := by
  unfold repS
  simp
theorem repS_zero (z : Str) : repS z 0 = Str.empty := rfl
theorem repS_nil (z : Str) (k : Nat) (h : z.cps.toList = []) : repS z k = z := by
  unfold repS
  rw [h]
  obtain ⟨c⟩ := z
  have e : c = #[] := by simpa using h
  subst e
  simp
section
variable {X : Cx}
theorem op_mulS : OpR X (binaryOp .Mult) (fun x y H Q => ∃ (z : Str) (k : Nat), x = .str z ∧ y = .int (k : Int) ∧ k ≤ 1000 ∧ z.length ≤ 1000 ∧ Q (.str (repS z k)) H) := by
  intro pins s σ H x y v u Q I rx ry h
  obtain ⟨z, k, rfl, rfl, hk, hz, q⟩ := h
  obtain ⟨t, rfl⟩ := rx
  obtain ⟨t', rfl⟩ := ry
  have hcap : z.length * k ≤ 1000000 := Nat.le_trans (Nat.mul_le_mul hz hk) (by decide)
  refine PySem.P.mul_str (x := z) (n := (k : Int)) (by
      have h1 : ¬ (k : Int) < -(2 ^ 63 : Int) := by omega
      have h2 : ¬ (k : Int) ≥ 2 ^ 63 := by omega
      rw [decide_eq_false h1, decide_eq_false h2]; rfl) (fun h1 _ hh => ?_) (fun h1 _ => ?_) ?_
  · have h3 : (2 ^ 63 - 1 : Int) / (k : Int) ≥ 1000 := by
      refine (Int.le_ediv_iff_mul_le (by omega)).mpr ?_
      omega
    omega
  · rw [Int.toNat_natCast]
    exact notLongL (by rw [sizeLine_eq]; omega)
  · by_cases h1 : (k : Int) < 1
    · rw [if_pos h1]
      have e : k = 0 := by omega
      subst e
      exact ⟨by decide, .str Str.empty, H, I.tok _, ⟨_, rfl⟩, q⟩
    · rw [if_neg h1]
      by_cases h2 : ((k : Int) == 1 || z.length == 0) = true
      · rw [if_pos h2]
        have e : repS z k = z := by
          rcases Bool.or_eq_true_iff.mp h2 with h3 | h3
          · have : k = 1 := by have := of_decide_eq_true h3; omega
            rw [this, repS_one]
          · refine repS_nil z k ?_
            have h4 : z.cps.size = 0 := beq_iff_eq.mp h3
            exact List.eq_nil_of_length_eq_zero (by rw [Array.length_toList]; exact h4)
        rw [e] at q
        exact ⟨.str z, H, I, ⟨_, rfl⟩, q⟩
      · rw [if_neg h2, Int.toNat_natCast, repS_fold]
        refine ⟨?_, .str (repS z k), H, I.tok _, ⟨_, rfl⟩, q⟩
        have : (repS z k).length = k * z.length := by
          show ((List.replicate k z.cps.toList).flatten).toArray.size = k * z.length
          rw [List.size_toArray, List.length_flatten]
          simp
          rfl
        rw [this, sizeLine_eq, Nat.mul_comm]
        omega
end
end Qt
/-! enumerate of a text; a promise without errors out of one with errors. -/
namespace Qt
open PySem PySem.Spec PyProof.Rows L2

/-- the signs of a text with their numbers, in new pairs -/
def Itse (x : Str) : It := ⟨fun i _ => i < x.cps.size, fun i H v H' => ∃ (T : Addr) (c : Nat), v = .ref T ∧ H T = none ∧ H' = upd H T (.tup [.int (i : Nat), .str ⟨#[c]⟩]) ∧ x.cps[i]? = some c, fun i _ => i = x.cps.size⟩
/-- where enumerate over a text stands -/
def AtEnumS (x : Str) (t : Tok) (ty : String) (e it : Addr) (i : Nat) (h : Heap) : Prop := (∃ old, IsEnum h e it ((i : Nat) : Int) old) ∧ h.IsStrIter it ty x t i
theorem draws_str {P : Program} {w : World} {A : Around} {ty : String} (hh : A.handled = none) (hty : ty = "str_ascii_iterator" ∨ ty = "str_iterator") (it : Addr) (x : Str) (t : Tok) :
    Draws P w A it [it] x.cps.size (fun i v => ∃ c u, x.cps[i]? = some c ∧ v = .str ⟨#[c]⟩ u) (fun i h => h.IsStrIter it ty x t i) := by
  rcases hty with e | e
  · rw [e]; exact Draws.strAscii hh it x t
  · rw [e]; exact Draws.strWide hh it x t
theorem turn_enumS {P : Program} {w : World} {K : PySem.W.Frag} {elts : List Expr} {kk : Nat} {tpos : Pos} {x : Str} {t : Tok} {ty : String} (hty : ty = "str_ascii_iterator" ∨ ty = "str_iterator") {e it : Addr} (hne : e ≠ it) :
    Turn P w K (.Tuple elts kk tpos) (Itse x) [e, it] e (fun i h => AtEnumS x t ty e it i h) where
  mem := by simp
  obj := fun i h st b hb => by
    obtain ⟨⟨old, he⟩, o, ho, hc, hd⟩ := st
    have e' : b = e ∨ b = it := by simpa using hb
    rcases e' with z | z
    · rw [z]; exact ⟨_, he, fun v q => nomatch q⟩
    · rw [z]; exact ⟨o, ho, fun v q => by rw [hd] at q; cases q⟩
  keep := fun i h h' st k => by
    obtain ⟨⟨old, he⟩, o, ho, r⟩ := st
    exact ⟨⟨old, k e (by simp) _ he⟩, o, k it (by simp) o ho, r⟩
  item := by
    intro X hP hw hK hc i pins s σ H E I hf st hg
    subst hP hw hK
    obtain ⟨⟨old, he⟩, hit⟩ := st
    have hel : e < s.heap.objs.size := Heap.lt_size he
    have hil : it < s.heap.objs.size := by obtain ⟨_, q, _⟩ := hit; exact Heap.lt_size q
    have W := WalksT.enumerateD (draws_str (P := X.prog) (w := X.w) (A := X.A.in1) (I.ok.hd hc) hty it x t) e hne (by simpa using hne) (by simp)
    refine W.item i s _ _ hg ⟨⟨old, he⟩, hit⟩ fun T vals h' tk hp hT ht hm hk => ?_
    obtain ⟨tt, v, ⟨c, u, hcx, rfl⟩, rfl⟩ := hp
    refine ⟨.ref T, rfl, W.go elts kk tpos i T { s with heap := h', toks := tk } _ _ hm fun h'' hst hk2 => ?_⟩
    obtain ⟨oT, hT1, hT2, nT, hT3⟩ := ht
    have nT' : T ∉ [e, it] := W.apart i T _ hm
    have hT4 : h''.get? T = some oT := hk2 T oT nT' hT1
    have new : ObjOk X.prog X.w (upd H T (.tup [.int (i : Nat), .str ⟨#[c]⟩])) h'' T (.tup [.int (i : Nat), .str ⟨#[c]⟩]) :=
      ⟨by show 2 ≤ sizeLine; decide, [.int i tt, .str ⟨#[c]⟩ u], .cons ⟨_, rfl⟩ (.cons ⟨_, rfl⟩ .nil), ⟨_, hT4, hT2, _, hT3⟩⟩
    have I1 : Inv X pins σ (upd H T (.tup [.int (i : Nat), .str ⟨#[c]⟩])) { s with heap := h'', toks := tk } :=
      I.turnedNew (ch := [e, it]) (fun b ob hb q => hk2 b ob hb (hk b ob hb q)) hf hT new
    refine ⟨.ref T, _, I1, rfl, ⟨T, c, rfl, I.hok.fresh hT, rfl, hcx⟩, hst, fun b hb => ?_⟩
    have hb' : b < s.heap.objs.size := by
      have e' : b = e ∨ b = it := by simpa using hb
      rcases e' with z | z
      · rw [z]; exact hel
      · rw [z]; exact hil
    rw [upd_ne (Nat.ne_of_lt (Nat.lt_of_lt_of_le hb' hT))]
    exact (hf b hb).1
  done := by
    intro X hP hw hK hc i pins s σ H E I hf st hg
    subst hP hw hK
    obtain ⟨⟨old, he⟩, hit⟩ := st
    obtain ⟨f0, f1, f2, f3, f4, f5⟩ := hf it (by simp)
    have D := draws_str (P := X.prog) (w := X.w) (A := X.A.in1) (I.ok.hd hc) hty it x t
    have hi : i = x.cps.size := hg
    rw [hi] at he hit
    exact wpAny_pyNext_enum_endD D he hit fun h' eb => ⟨rfl, I.turned (t' := s.toks) (fun b o hb q => eb b o hb q) f0 f1 f3 f4 f5⟩
  self := fun A i s Q E st h => let ⟨⟨_, he⟩, _⟩ := st; wpAny_pyIter_enum he h
def iEnumS (ta : TA) : TI := fun σ H R => ta σ H fun vs H1 => ∃ x, vs = [.str x] ∧ R (Itse x) H1
theorem pi_enumS {X : Cx} {e : Expr} {ta : TA} {p pos tpos : Pos} {elts : List Expr} {kk : Nat} (hg : Gl X "enumerate") (hm : X.mg "enumerate" = none) (ha : PA X [e] ta) (hs : starEach [e] X.env = [(false, eval e X.env)] := by rfl) :
    PI X (.Tuple elts kk tpos) (.Call (.Name "enumerate" p) [e] [] pos) (iEnumS ta) := by
  refine ⟨fun pins s σ H R I h => ?_⟩
  refine Call_ (ld_blt I hg hm boot_enumerate (PyProof.Rows.callWith_type1 (thn (ha.run pos pins s σ H _ I h) fun us s1 hh => ?_) hs rfl))
  obtain ⟨vs, H1, I1, r1, x, ex, q⟩ := hh
  subst ex
  cases r1 with
  | cons r rr =>
    cases rr
    obtain ⟨t, rfl⟩ := r
    refine call_enumerate_str fun h' he hit hsz hk => wpAny_pyIter_enum he ?_
    have I2 : Inv X pins σ H1 { s1 with heap := h' } := I1.kept (t' := s1.toks) hk
    have hty : strIterType x = "str_ascii_iterator" ∨ strIterType x = "str_iterator" := by
      unfold strIterType
      split
      · exact .inl rfl
      · exact .inr rfl
    refine ⟨s1.heap.objs.size + 1, [s1.heap.objs.size + 1, s1.heap.objs.size], _, _, H1, rfl, I2, turn_enumS (x := x) (t := t) hty (e := s1.heap.objs.size + 1) (it := s1.heap.objs.size) (Nat.succ_ne_self _), ⟨⟨.none, he⟩, hit⟩, fun b hb => ?_, q⟩
    have e' : b = s1.heap.objs.size + 1 ∨ b = s1.heap.objs.size := by simpa using hb
    have hle : s1.heap.objs.size ≤ b := by
      rcases e' with z | z
      · rw [z]; exact Nat.le_add_right _ _
      · rw [z]; exact Nat.le_refl _
    exact I1.fpOk hle (I1.hok.fresh hle)
/-- a promise that lets no error out -/
theorem calm {P : Program} {w : World} {K : PySem.W.Frag} {mg : Str → Option Value} {base : Heap} {k : Nat} {f : Addr} {fd : FuncData} {ps : List Str} {sp sp0 : Sp} (F : FnOk P w K mg base (L2.CX P w) k f fd ps sp)
    (h : ∀ vs H Q E, sp0 vs H Q E → sp vs H Q (fun _ _ _ => False)) : FnOk P w K mg base CX0 k f fd ps sp0 := by
  refine ⟨fun vs H Q E q => F.len vs H Q _ (h vs H Q E q), fun A outer s H args us vs Q E hr he hb hv hs => ?_⟩
  refine codeAny_mono (F.run A outer s H args us vs Q (fun _ _ _ => False) hr he hb hv (h _ _ _ _ hs)) fun r s' q => ?_
  cases r with
  | error er =>
    obtain ⟨a, B, H', cls, d, _, _, _, _, _, _, _, z⟩ := q
    exact z.elim
  | ok fl => cases fl <;> exact q
end Qt
/-! Defs and classes as they stand behind the top; the law's row of draws; data. -/
namespace Qt
open PySem PySem.Spec PyProof.Rows L2 Evl

section
variable (P : Program) (w : World) (K : PySem.W.Frag) (mg : Str → Option Value) (base : Heap)
/-- the def x stands there -/
def Ent (x : Str) (st : Stmt) (ps : List Str) : Prop := ∃ (f : Addr) (fd : FuncData), Fun K x x st f fd ∧ mg x = some (.ref f) ∧ Binds K fd ps []
/-- the def x is there and keeps sp -/
def Cal (CX : CXT) (k : Nat) (x : Str) (ps : List Str) (sp : Sp) : Prop := ∃ (f : Addr) (fd : FuncData), FnOk P w K mg base CX k f fd ps sp ∧ mg x = some (.ref f) ∧ PySem.W.keepIn K (.ref f) = true ∧ Binds K fd ps []
/-- an own error class without an __init__ of its own -/
structure ExcC (x : Str) (C : Addr) : Prop where
  g : mg x = some (.ref C)
  x : PySem.W.excIn K C [.type "ValueError", .type "Exception", .type "BaseException", .type "object"] "ValueError.__new__" = true
  k : PySem.W.keepIn K (.ref C) = true
  b : PySem.W.subIn K (.ref C) (.type "BaseException") = some true
  t : PySem.W.typeIn K (.ref C) = some (.type "type")
/-- an own error class with an __init__ (at fI) that stores the field n -/
structure ExcI (x : Str) (n : Str) (C fI : Addr) : Prop where
  g : mg x = some (.ref C)
  o : OexC K C
  i : PySem.W.findIn K (.ref C) "__init__" = some (some (.ref fI))
  t : PySem.W.typeIn K (.ref fI) = some (.type "function")
  xf : XfC K C
  no : PySem.W.findIn K (.ref C) n = some none
end
/-- the same promise for the calls that let no error out -/
theorem Cal.calm {P : Program} {w : World} {K : PySem.W.Frag} {mg : Str → Option Value} {base : Heap} {k : Nat} {x : Str} {ps : List Str} {sp sp0 : Sp} (c : Cal P w K mg base (L2.CX P w) k x ps sp)
    (h : ∀ vs H Q E, sp0 vs H Q E → sp vs H Q (fun _ _ _ => False)) : Cal P w K mg base CX0 k x ps sp0 := by
  obtain ⟨f, fd, F, m, kp, b⟩ := c
  exact ⟨f, fd, Qt.calm F h, m, kp, b⟩
theorem Cal.imp {P : Program} {w : World} {K : PySem.W.Frag} {mg : Str → Option Value} {base : Heap} {CX : CXT} {k : Nat} {x : Str} {ps : List Str} {sp sp0 : Sp} (c : Cal P w K mg base CX k x ps sp)
    (h : ∀ vs H Q E, sp0 vs H Q E → sp vs H Q E) : Cal P w K mg base CX k x ps sp0 := by
  obtain ⟨f, fd, F, m, kp, b⟩ := c
  exact ⟨f, fd, F.imp h, m, kp, b⟩

/-! ### the law's row of draws -/
def Row (K : PySem.W.Frag) (r sc : Addr) (ns : List Int) (H : Hp) : Prop := ∃ (i s x : Int),
  H r = some (.lst [.ref sc, .int i, .int s, .int x]) ∧ SqL K H sc (ns.map V.int) ∧ ns.length ≤ 1000 ∧ 0 ≤ i ∧ 0 ≤ s ∧ s < 2147483647
/-- what happens where only the row is changed and new objects come -/
def Xr (K : PySem.W.Frag) (r : Addr) (H H' : Hp) : Prop := ∀ a o, a ≠ r → H a = some o → H' a = some o
section
variable {K : PySem.W.Frag} {r : Addr} {H H1 H2 : Hp}
theorem Xr.refl : Xr K r H H := fun _ _ _ h => h
theorem Xr.trans (a : Xr K r H H1) (b : Xr K r H1 H2) : Xr K r H H2 := fun c o n h => b c o n (a c o n h)
theorem Xr.of (e : Ex H H1) : Xr K r H H1 := fun a o _ h => e a o h
theorem Xr.l {a : Addr} {xs : List V} (e : Xr K r H H1) (n : a ≠ r) (h : SqL K H a xs) : SqL K H1 a xs := by
  rcases h with (h | ⟨o, h⟩) | h
  · exact .inl (.inl (e _ _ n h))
  · exact .inl (.inr ⟨o, e _ _ n h⟩)
  · exact .inr h
theorem Row.ex {sc : Addr} {ns : List Int} (h : Row K r sc ns H) (e : Ex H H1) : Row K r sc ns H1 := by
  obtain ⟨i, s, x, h1, h3, h4⟩ := h
  exact ⟨i, s, x, e _ _ h1, ex_l e h3, h4⟩
/-- the script stays where it is -/
theorem Row.sq {sc : Addr} {ns : List Int} (h : Row K r sc ns H) (X : Xr K r H H1) : SqL K H1 sc (ns.map V.int) := by
  obtain ⟨i, s, x, h1, h3, h4⟩ := h
  rcases h3 with (h3 | ⟨o, h3⟩) | h3
  · have ne : sc ≠ r := fun z => by
      rw [z, h1] at h3
      cases ns with
      | nil => cases h3
      | cons n l => injection h3 with h3; injection h3 with h3; cases h3
    exact .inl (.inl (X _ _ ne h3))
  · have ne : sc ≠ r := fun z => by rw [z, h1] at h3; cases h3
    exact .inl (.inr ⟨o, X _ _ ne h3⟩)
  · exact .inr h3
theorem Row.ne {sc : Addr} {ns : List Int} (h : Row K r sc ns H) {p : Addr} (n : H p = none) : p ≠ r := fun z => by
  obtain ⟨i, s, x, h1, _⟩ := h
  rw [z, h1] at n
  cases n
/-- what is new may change -/
theorem Row.mut {sc : Addr} {ns : List Int} (h : Row K r sc ns H) {p : Addr} (n : H p = none) (h' : Row K r sc ns H1) {o : HO} : Row K r sc ns (upd H1 p o) := by
  have npr := h.ne n
  obtain ⟨_, _, _, _, g3, _⟩ := h
  obtain ⟨i, s, x, h1, h3, h4⟩ := h'
  refine ⟨i, s, x, by rw [upd_ne npr.symm]; exact h1, ?_, h4⟩
  rcases g3 with g3 | g3
  · have ne : sc ≠ p := fun z => by
      rcases g3 with g3 | ⟨o, g3⟩
      · rw [z, n] at g3; cases g3
      · rw [z, n] at g3; cases g3
    rcases h3 with (h3 | ⟨o, h3⟩) | h3
    · exact .inl (.inl (by rw [upd_ne ne]; exact h3))
    · exact .inl (.inr ⟨o, by rw [upd_ne ne]; exact h3⟩)
    · exact .inr h3
  · exact .inr g3
end
/-- _law_taken(row, many) -/
def spTaken (K : PySem.W.Frag) : Sp := fun vs H Q _ => ∃ (r sc : Addr) (ns : List Int) (m : Int), vs = [.ref r, .int m] ∧ 1 ≤ m ∧ m ≤ 1000000 ∧ Row K r sc ns H ∧
  ∀ (n : Int) (H' : Hp), 0 ≤ n → n < m → Xr K r H H' → Row K r sc ns H' → Q (.int n) H'

/-! ### values -/
/-- a value whose class is a built-in one -/
def Kind (K : PySem.W.Frag) (H : Hp) (v : V) (t : String) : Prop := TyX K H v (.type t)
theorem Kind.ex {K : PySem.W.Frag} {H H1 : Hp} {v : V} {t : String} (h : Kind K H v t) (e : Ex H H1) : Kind K H1 v t := by
  unfold Kind at *
  generalize ht : Value.type t = tv at h
  cases h with
  | base b =>
    cases b with
    | non => exact .base .non
    | bl x => exact .base (.bl x)
    | int i => exact .base (.int i)
    | str x => exact .base (.str x)
    | flt x => exact .base (.flt x)
    | lst q => exact .base (.lst (e _ _ q))
    | frz q => exact .base (.frz (e _ _ q))
    | tup q => exact .base (.tup (e _ _ q))
    | dK q => exact .base (.dK (e _ _ q))
    | dT q => exact .base (.dT (e _ _ q))
    | ins => cases ht
  | byt b => exact .byt b
  | set q => exact .set (e _ _ q)
  | kList q c => exact .kList q c
  | kTuple q c => exact .kTuple q c
  | kDict q c => exact .kDict q c
  | fTuple q => exact .fTuple (e _ _ q)
  | fDict q => exact .fDict (e _ _ q)
theorem Kind.xr {K : PySem.W.Frag} {r : Addr} {H H1 : Hp} {v : V} {t : String} (h : Kind K H v t) (n : v ≠ .ref r) (e : Xr K r H H1) : Kind K H1 v t := by
  unfold Kind at *
  generalize ht : Value.type t = tv at h
  have ne : ∀ {a : Addr}, v = .ref a → a ≠ r := fun z q => n (by rw [z, q])
  cases h with
  | base b =>
    cases b with
    | non => exact .base .non
    | bl x => exact .base (.bl x)
    | int i => exact .base (.int i)
    | str x => exact .base (.str x)
    | flt x => exact .base (.flt x)
    | lst q => exact .base (.lst (e _ _ (ne rfl) q))
    | frz q => exact .base (.frz (e _ _ (ne rfl) q))
    | tup q => exact .base (.tup (e _ _ (ne rfl) q))
    | dK q => exact .base (.dK (e _ _ (ne rfl) q))
    | dT q => exact .base (.dT (e _ _ (ne rfl) q))
    | ins => cases ht
  | byt b => exact .byt b
  | set q => exact .set (e _ _ (ne rfl) q)
  | kList q c => exact .kList q c
  | kTuple q c => exact .kTuple q c
  | kDict q c => exact .kDict q c
  | fTuple q => exact .fTuple (e _ _ (ne rfl) q)
  | fDict q => exact .fDict (e _ _ (ne rfl) q)
/-- the data of a value, at most one tuple of flat things deep, as an error's field keeps it -/
def Flat : PyData → Prop
  | .none => True
  | .bool _ => True
  | .int _ => True
  | .str _ => True
  | _ => False
def Keeps (d : PyData) : Prop := Flat d ∨ ∃ e, Flat e ∧ d = .tuple [e]
end Qt
/-! Comprehensions over texts; lists of signs. -/
namespace Qt
open PySem PySem.Spec PyProof.Rows L2 Evl
/-- an expression that is never asked -/
theorem pe_never {X : Cx} {e : Expr} : PE X e (fun _ _ _ => False) := ⟨fun _ _ _ _ _ _ h => h.elim⟩

theorem walk_enumS {x : Str} : Walk (Itse x) x.cps.size (fun _ => True) (fun i H v H' => ∃ (T : Addr) (c : Nat), v = .ref T ∧ H T = none ∧ H' = upd H T (.tup [.int (i : Nat), .str ⟨#[c]⟩]) ∧ x.cps[i]? = some c) :=
  ⟨fun _ _ h _ => h, fun _ _ => rfl, fun _ _ _ _ _ _ h => h⟩
section
variable {K : PySem.W.Frag} {σ : L2.St} {H : Hp} {te tl : TE} {t : TT} {ta : TA}
/-- the i-th sign of a text, as a text -/
def sg (z : Str) (i : Nat) : V := .str ⟨#[z.cps.toList.getD i 0]⟩
theorem sg_of {z : Str} {i c : Nat} (h : z.cps[i]? = some c) : V.str ⟨#[c]⟩ = sg z i := by
  unfold sg
  have h2 : z.cps.toList[i]? = some c := by rw [Array.getElem?_toList]; exact h
  rw [List.getD_eq_getElem?_getD, h2]
  rfl
/-- over the signs of a text -/
theorem el_lcS {z : Str} {j : Nat} {vs : List Nat} (f : Nat → Bool) (v : Nat → V) (h : Ev tl σ H (.str z)) (hz : z.length ≤ 40000) (hw : ∀ x, wipe ((wipe σ vs).set j (some x)) vs = wipe σ vs)
    (ht : ∀ (i : Nat) H1, Ex H H1 → i < z.length → EvT t ((wipe σ vs).set j (some (sg z i))) H1 (f i)) (he : ∀ (i : Nat) H1, Ex H H1 → i < z.length → f i = true → Ev te ((wipe σ vs).set j (some (sg z i))) H1 (v i)) :
    EvL (tLc (iStr tl) (gName j) t te vs) σ H (given z.length f v) := fun H0 e Q q => h H0 e _ fun H1 e1 => ⟨z, rfl, fun Dl hD =>
  lc_it walk_str (Cw H1 f v Dl) ⟨hD, Ex.new hD, upd_same⟩ (fun _ _ _ _ => trivial) (fun i x H2 H' hi p y => by
    obtain ⟨rfl, c, hc, rfl⟩ := y
    have hi' : i < z.length := hi
    rw [sg_of hc]
    exact ⟨hw _, cw_turn p (by omega) (ht i H1 (e.trans e1) hi') (fun hf => he i H1 (e.trans e1) hi' hf)⟩) (fun H' p => q Dl H' (fresh_back e1 p.1) (e1.trans p.2.1) p.2.2)⟩
/-- over the numbered signs of a text -/
theorem el_lcSE {z : Str} {j k : Nat} {vs : List Nat} (f : Nat → Bool) (v : Nat → V) (h : EvA ta σ H [.str z]) (hz : z.length ≤ 40000)
    (hw : ∀ x y, wipe (((wipe σ vs).set j (some x)).set k (some y)) vs = wipe σ vs)
    (ht : ∀ (i : Nat) H1, Ex H H1 → i < z.length → EvT t (((wipe σ vs).set j (some (.int (i : Int)))).set k (some (sg z i))) H1 (f i))
    (he : ∀ (i : Nat) H1, Ex H H1 → i < z.length → f i = true → Ev te (((wipe σ vs).set j (some (.int (i : Int)))).set k (some (sg z i))) H1 (v i)) :
    EvL (tLc (iEnumS ta) (gTup K 2 (gCons (gName j) (gCons (gName k) gNil))) t te vs) σ H (given z.length f v) := fun H0 e Q q => h H0 e _ fun H1 e1 => ⟨z, rfl, fun Dl hD =>
  lc_it walk_enumS (Cw H1 f v Dl) ⟨hD, Ex.new hD, upd_same⟩ (fun _ _ _ _ => trivial) (fun i x H2 H' hi p y => by
    obtain ⟨T, c, rfl, nT, rfl, hc⟩ := y
    have hi' : i < z.length := hi
    obtain ⟨p1, p2, p3⟩ := p
    have nTD : Dl ≠ T := ne_of_none p3 nT
    have p' : Cw H1 f v Dl i (upd H2 T (.tup [.int (i : Nat), .str ⟨#[c]⟩])) := ⟨p1, p2.trans (Ex.new nT), by rw [upd_ne nTD]; exact p3⟩
    refine ⟨T, _, rfl, st_of upd_same, rfl, _, _, rfl, _, _, rfl, rfl, ?_⟩
    rw [sg_of hc] at p' ⊢
    exact ⟨hw _ _, cw_turn p' (by omega) (ht i H1 (e.trans e1) hi') (fun hf => he i H1 (e.trans e1) hi' hf)⟩) (fun H' p => q Dl H' (fresh_back e1 p.1) (e1.trans p.2.1) p.2.2)⟩
/-- ... without a test -/
theorem et_yes : EvT tYes σ H true := fun H1 _ _ q => q H1 (Ex.refl H1)
theorem given_all (n : Nat) (v : Nat → V) : given n (fun _ => true) v = (List.range n).map v := by
  unfold given
  rw [List.filter_eq_self.mpr (fun _ _ => rfl)]
/-- a call of a new list -/
theorem ev_cbL {r : List V → Hp → VK → Prop} {xs : List V} {z : V} (h : EvL te σ H xs) (hr : ∀ p H1, H1 p = some (.lst xs) → Ex H H1 → RC r [.ref p] H1 z) : Ev (tCB r (tCons te tNil)) σ H z := fun H1 e Q q =>
  h H1 e _ fun p H2 _ e2 h2 => hr p H2 h2 (e.trans e2) H2 (Ex.refl H2) Q fun H3 e3 => q H3 (e2.trans e3)
theorem rc_all {p : Addr} {bs : List Bool} (h : H p = some (.lst (bs.map V.bl))) : RC (rAll K) [.ref p] H (.bl (bs.all id)) := fun H1 e Q q => ⟨p, bs, rfl, sq_of (e _ _ h), q H1 (Ex.refl H1)⟩
/-- a text sign by sign -/
theorem ev_inSign {c : Nat} {z : Str} {ta tb : TE} (ha : Ev ta σ H (.str ⟨#[c]⟩)) (hb : Ev tb σ H (.str z)) :
    Ev (tOp (fun x y H Q => ∃ (c : Nat) (z : Str), x = .str ⟨#[c]⟩ ∧ y = .str z ∧ Q (.bl (decide (c ∈ z.cps.toList))) H) ta tb) σ H (.bl (decide (c ∈ z.cps.toList))) :=
  ev_op ha hb fun H1 _ _ q => ⟨c, z, rfl, rfl, q H1 (Ex.refl H1)⟩
end
theorem all_range (l : List Nat) (p : Nat → Bool) : ((List.range l.length).map fun i => p (l.getD i 0)).all id = l.all p := by
  rw [List.all_map, Bool.eq_iff_iff, List.all_eq_true, List.all_eq_true]
  constructor
  · intro h c hc
    obtain ⟨i, hi, e⟩ := List.getElem_of_mem hc
    have := h i (List.mem_range.mpr hi)
    simp only [Function.comp, id, List.getD_eq_getElem?_getD, List.getElem?_eq_getElem hi, Option.getD_some] at this
    rw [← e]
    exact this
  · intro h i hi
    have hi' := List.mem_range.mp hi
    simp only [Function.comp, id, List.getD_eq_getElem?_getD, List.getElem?_eq_getElem hi', Option.getD_some]
    exact h _ (List.getElem_mem hi')
end Qt
/-! Lists put together, texts joined, membership. -/
namespace Qt
open PySem PySem.Spec PyProof.Rows L2 Evl
/-! within a comprehension's block the written part is named, since its own is told by what is not known outside -/
theorem op_in_seqK {X : Cx} (K : PySem.W.Frag) (h : X.K = K) : OpR X (compareOp .In) (rIn K false) := h ▸ op_in_seq
theorem op_notIn_seqK {X : Cx} (K : PySem.W.Frag) (h : X.K = K) : OpR X (compareOp .NotIn) (rIn K true) := h ▸ op_notIn_seq
theorem ix_listK {X : Cx} (K : PySem.W.Frag) (h : X.K = K) : IxR X (rIxL K) := h ▸ ix_list
theorem ix_tupK {X : Cx} (K : PySem.W.Frag) (h : X.K = K) : IxR X (rIxT K) := h ▸ ix_tup
theorem sl_listK {X : Cx} (K : PySem.W.Frag) (h : X.K = K) : SlR X (rSlL K) := h ▸ sl_list
theorem op_eqDK {X : Cx} (K : PySem.W.Frag) (h : X.K = K) (hu : X.A.units + 64 < cLine) : OpR X (compareOp .Eq) (rEqD K) := h ▸ op_eqD hu
theorem op_neDK {X : Cx} (K : PySem.W.Frag) (h : X.K = K) (hu : X.A.units + 64 < cLine) : OpR X (compareOp .NotEq) (rNeD K) := h ▸ op_neD hu
section
variable {K : PySem.W.Frag} {σ : L2.St} {H : Hp} {ta tb te tl : TE} {t : TT}
theorem el_cat {xs ys : List V} (ha : EvL ta σ H xs) (hb : ∀ H1, Ex H H1 → EvL tb σ H1 ys) (hz : xs.length + ys.length ≤ 100000) : EvL (tOp rCat ta tb) σ H (xs ++ ys) := fun H1 e Q q =>
  ha H1 e _ fun p H2 np e2 h2 => hb H2 (e.trans e2) H2 (Ex.refl H2) _ fun b H3 nb e3 h3 => ⟨p, b, xs, ys, rfl, rfl, e3 _ _ h2, h3, sz_of hz, fun l hl => q l _ (fresh_back (e2.trans e3) hl) ((e2.trans e3).trans (Ex.new hl)) upd_same⟩
theorem str_app (a b : Str) : (a ++ b).cps.toList = a.cps.toList ++ b.cps.toList := by
  show (a.cps ++ b.cps).toList = _
  simp
theorem sjoin_flat {sep : Str} (hs : sep.cps.toList = []) : ∀ ys : List Str, (Str.join sep ys).cps.toList = (ys.map (·.cps.toList)).flatten
  | [] => rfl
  | [x] => by
    show x.cps.toList = _
    simp
  | x :: y :: r => by
    show (x ++ sep ++ Str.join sep (y :: r)).cps.toList = _
    rw [str_app, str_app, hs, sjoin_flat hs (y :: r)]
    simp
theorem join_flat {sep : Str} (hs : sep.cps.toList = []) (ys : List Str) : (Txt.join sep ys).cps.toList = (ys.map (·.cps.toList)).flatten := by
  show (Builtin.Str.glued sep ys).cps.toList = _
  rw [StrLaws.glued_eq_join, sjoin_flat hs]
theorem str_ext {a b : Str} (h : a.cps.toList = b.cps.toList) : a = b := by
  obtain ⟨x⟩ := a
  obtain ⟨y⟩ := b
  congr 1
  exact Array.toList_inj.mp h
/-- a text of these signs -/
def txt (l : List Nat) : Str := ⟨l.toArray⟩
theorem txt_l (l : List Nat) : (txt l).cps.toList = l := by simp [txt]
theorem txt_len (l : List Nat) : (txt l).length = l.length := by simp [txt, Str.length]
theorem len_l (z : Str) : z.cps.toList.length = z.length := by simp [Str.length]
theorem join_signs {sep : Str} (hs : sep.cps.toList = []) (l : List Nat) : Txt.join sep (l.map fun c => (⟨#[c]⟩ : Str)) = txt l := by
  apply str_ext
  rw [join_flat hs, txt_l, List.map_map]
  induction l with
  | nil => rfl
  | cons c r ih =>
    rw [List.map_cons, List.flatten_cons, ih]
    rfl
theorem sum_signs : ∀ l : List Nat, ((l.map fun c => (⟨#[c]⟩ : Str)).map (·.length)).sum = l.length
  | [] => rfl
  | c :: r => by
    rw [List.map_cons, List.map_cons, List.sum_cons, sum_signs r, List.length_cons, Nat.add_comm]
    rfl
/-- ''.join of a new list of signs -/
theorem ev_join {sep : Str} {l : List Nat} (hs : sep.cps.toList = []) (h : EvL te σ H (l.map fun c => V.str ⟨#[c]⟩)) (hz : l.length ≤ 100000) :
    Ev (tM1 (fun x xs H Q => ∃ a p, ∃ ys : List Str, x = .str a ∧ xs = [.ref p] ∧ (SqL K H p (ys.map V.str) ∨ SqT K H p (ys.map V.str)) ∧ (ys.map (·.length)).sum + ys.length * a.length ≤ 16777216 ∧ Q (.str (Txt.join a ys)) H) (tC (.str sep)) te) σ H (.str (txt l)) := fun H1 e Q q =>
  ⟨⟨sep, rfl⟩, h H1 e _ fun p H2 np e2 h2 => ⟨sep, p, l.map fun c => (⟨#[c]⟩ : Str), rfl, rfl, .inl (sq_of (by rw [h2, List.map_map]; rfl)), by
    have e0 : sep.length = 0 := by rw [← len_l, hs]; rfl
    rw [e0, sum_signs]
    omega, by
    rw [join_signs hs]
    exact q H2 e2⟩⟩
theorem inV_ints {i : Int} {ns : List Int} : inV (.int i) (ns.map V.int) = decide (i ∈ ns) := by
  unfold inV
  rw [List.any_map, Bool.eq_iff_iff, List.any_eq_true, decide_eq_true_iff]
  constructor
  · rintro ⟨x, hx, e⟩
    have e' : (x == i) = true := e
    rw [← beq_iff_eq.mp e']
    exact hx
  · intro h
    exact ⟨i, h, by show (i == i) = true; exact beq_self_eq_true i⟩
theorem flat_ints (ns : List Int) : (ns.map V.int).all flatV = true := by
  rw [List.all_map, List.all_eq_true]
  intro x _
  rfl
theorem rc_lenS {z : Str} (h : z.length ≤ 100000) : RC (fun xs H Q => ∃ z : Str, xs = [.str z] ∧ z.length ≤ sizeLine ∧ Q (.int (z.length : Int)) H) [.str z] H (.int (z.length : Int)) := fun H1 _ _ q => ⟨z, rfl, sz_of h, q H1 (Ex.refl H1)⟩
end
end Qt
/-! Data that is compared. -/
namespace Qt
open PySem PySem.Spec PyProof.Rows L2 Evl
theorem lay_all : ∀ {ds : List PyData}, (∀ d ∈ ds, d.canLay0 = true) → PyData.canLayAll0 ds = true
  | [], _ => rfl
  | d :: r, h => by
    have h1 := h d List.mem_cons_self
    have h2 := lay_all (ds := r) fun x hx => h x (List.mem_cons_of_mem _ hx)
    show (d.canLay0 && PyData.canLayAll0 r) = true
    rw [h1, h2]
    rfl
theorem depth_all {n : Nat} : ∀ {ds : List PyData}, (∀ d ∈ ds, d.depth ≤ n) → PyData.depthAll ds ≤ n
  | [], _ => Nat.zero_le _
  | d :: r, h => by
    have h1 := h d List.mem_cons_self
    have h2 := depth_all (ds := r) fun x hx => h x (List.mem_cons_of_mem _ hx)
    show max d.depth (PyData.depthAll r) ≤ n
    omega
theorem shaped_list {ds : List PyData} (h : ∀ d ∈ ds, d.canLay0 = true ∧ d.depth ≤ 10) : SeqAt.shaped (.list ds) = true := by
  unfold SeqAt.shaped
  have h1 : (PyData.list ds).canLay0 = true := lay_all fun d hd => (h d hd).1
  have h2 : PyData.depthAll ds ≤ 10 := depth_all fun d hd => (h d hd).2
  have h3 : (PyData.list ds).depth ≤ 64 := by
    show PyData.depthAll ds + 1 ≤ 64
    omega
  rw [h1, decide_eq_true h3]
  rfl
def dInts (l : List Int) : PyData := .list (l.map PyData.int)
theorem shaped_ints (l : List Int) : SeqAt.shaped (dInts l) = true := shaped_list fun d hd => by
  obtain ⟨i, _, rfl⟩ := List.mem_map.mp hd
  exact ⟨rfl, by show 0 ≤ 10; omega⟩
section
variable {K : PySem.W.Frag} {H : Hp}
theorem dp_ints : ∀ l : List Int, DpAll K H (l.map V.int) (l.map PyData.int)
  | [] => .nil
  | i :: r => .cons (.int i) (dp_ints r)
theorem dp_list {p : Addr} {l : List Int} (h : SqL K H p (l.map V.int)) : Dp K H (.ref p) (dInts l) := .lst h (dp_ints l)
/-- != of two that are the same -/
theorem ne_same {x y : V} {d : PyData} {Q : VK} (a : Dp K H x d) (b : Dp K H y d) (s : SeqAt.shaped d = true) (q : Q (.bl false) H) : rNeD K x y H Q := by
  refine ⟨d, d, a, b, s, s, ?_⟩
  have e : PyData.eqv d d = true := SeqAt.eqv_refl d (SeqAt.canLay_of_shaped s)
  rw [e]
  exact q
theorem eq_same {x y : V} {d : PyData} {Q : VK} (a : Dp K H x d) (b : Dp K H y d) (s : SeqAt.shaped d = true) (q : Q (.bl true) H) : rEqD K x y H Q := by
  refine ⟨d, d, a, b, s, s, ?_⟩
  have e : PyData.eqv d d = true := SeqAt.eqv_refl d (SeqAt.canLay_of_shaped s)
  rw [e]
  exact q
theorem rv_ne_same {x y : V} {d : PyData} (a : ∀ H1, Ex H H1 → Dp K H1 x d) (b : ∀ H1, Ex H H1 → Dp K H1 y d) (s : SeqAt.shaped d = true) : RV (rNeD K) x y H (.bl false) := fun H1 e Q q => ne_same (a H1 e) (b H1 e) s (q H1 (Ex.refl H1))
/-- sorted(set(xs)) of a new list of ints, where it is known what that is -/
theorem el_sortedSet {w : World} {σ : L2.St} {te : TE} {ns due : List Int} (h : EvL te σ H (ns.map V.int)) (hz : ns.length < 64) (hu : ∀ ns' : List Int, ns'.Pairwise (· < ·) → (∀ k : Int, k ∈ ns' ↔ decide (k ∈ ns) = true) → ns' = due) :
    EvL (tCB (rSortedSet w) (tCons (tCB (rSetI K w) (tCons te tNil)) tNil)) σ H (due.map V.int) := fun H1 e Q q =>
  h H1 e _ fun p H2 np e2 h2 => ⟨p, ns, rfl, sq_of h2, by omega, fun S c hc nS => ⟨S, _, c, rfl, upd_same, by omega, fun ns' D hp hm _ nD => by
    rw [hu ns' hp hm]
    exact q D _ (fresh_back (e2.trans (Ex.new nS)) nD) ((e2.trans (Ex.new nS)).trans (Ex.new nD)) upd_same⟩⟩
end
end Qt
/-! zip of two texts. -/
namespace Qt
open PySem PySem.Spec PyProof.Rows L2 Evl
/-- the signs of two texts, side by side, in new pairs -/
def Itzs (x y : Str) : It := ⟨fun i _ => i < min x.cps.size y.cps.size, fun i H v H' => ∃ (T : Addr) (c d : Nat), v = .ref T ∧ H T = none ∧ H' = upd H T (.tup [.str ⟨#[c]⟩, .str ⟨#[d]⟩]) ∧ x.cps[i]? = some c ∧ y.cps[i]? = some d, fun i _ => i = min x.cps.size y.cps.size⟩
def AtZipS (x y : Str) (t u : Tok) (z TI TO i1 i2 : Addr) (i : Nat) (h : Heap) : Prop := IsZip h z TI TO .none ∧ IsTupOf2 h TI (.ref i1) (.ref i2) ∧ (∃ a1 a2, IsTupOf2 h TO a1 a2) ∧ h.IsStrIter i1 (strIterType x) x t i ∧ h.IsStrIter i2 (strIterType y) y u i
theorem turn_zipS {P : Program} {w : World} {K : PySem.W.Frag} {elts : List Expr} {kk : Nat} {tpos : Pos} {x y : Str} {t u : Tok} {z TI TO i1 i2 : Addr} (D : ZipSep2 z TI TO i1 i2 [i1] [i2]) :
    Turn P w K (.Tuple elts kk tpos) (Itzs x y) [z, TI, TO, i1, i2] z (fun i h => AtZipS x y t u z TI TO i1 i2 i h) where
  mem := by simp
  obj := fun i h st c hc => by
    obtain ⟨hz, hTI, ⟨a, b, hTO⟩, ⟨o1, e1, _, d1⟩, ⟨o2, e2, _, d2⟩⟩ := st
    have e' : c = z ∨ c = TI ∨ c = TO ∨ c = i1 ∨ c = i2 := by simpa using hc
    rcases e' with q | q | q | q | q
    · rw [q]; exact ⟨_, hz, fun v q => nomatch q⟩
    · rw [q]; exact ⟨_, hTI, fun v q => nomatch q⟩
    · rw [q]; exact ⟨_, hTO, fun v q => nomatch q⟩
    · rw [q]; exact ⟨o1, e1, fun v q => by rw [d1] at q; cases q⟩
    · rw [q]; exact ⟨o2, e2, fun v q => by rw [d2] at q; cases q⟩
  keep := fun i h h' st k => by
    obtain ⟨hz, hTI, ⟨a, b, hTO⟩, ⟨o1, e1, r1⟩, ⟨o2, e2, r2⟩⟩ := st
    exact ⟨k z (by simp) _ hz, k TI (by simp) _ hTI, ⟨a, b, k TO (by simp) _ hTO⟩, ⟨o1, k i1 (by simp) _ e1, r1⟩, ⟨o2, k i2 (by simp) _ e2, r2⟩⟩
  item := by
    intro X hP hw hK hc i pins s σ H E I hf st hg
    subst hP hw hK
    have W := WalksT.zipD2 D (Draws.text (prog := X.prog) (w := X.w) (A := X.A.in1) (I.ok.hd hc) i1 x t) (Draws.text (prog := X.prog) (w := X.w) (A := X.A.in1) (I.ok.hd hc) i2 y u)
    have live : ∀ b ∈ [z, TI, TO, i1, i2], b < s.heap.objs.size := fun b hb => by
      obtain ⟨hz, hTI, ⟨a, b', hTO⟩, ⟨o1, e1, _, d1⟩, ⟨o2, e2, _, d2⟩⟩ := st
      have e' : b = z ∨ b = TI ∨ b = TO ∨ b = i1 ∨ b = i2 := by simpa using hb
      rcases e' with q | q | q | q | q
      · rw [q]; exact Heap.lt_size hz
      · rw [q]; exact Heap.lt_size hTI
      · rw [q]; exact Heap.lt_size hTO
      · rw [q]; exact Heap.lt_size e1
      · rw [q]; exact Heap.lt_size e2
    refine W.item i s _ _ hg st fun T vals h' tk hp hT ht hm hk => ?_
    obtain ⟨v1, v2, ⟨c, t1, hcx, rfl⟩, ⟨d, t2, hdy, rfl⟩, rfl⟩ := hp
    refine ⟨.ref T, rfl, W.go elts kk tpos i T { s with heap := h', toks := tk } _ _ hm fun h'' hst hk2 => ?_⟩
    obtain ⟨oT, hT1, hT2, nT, hT3⟩ := ht
    have nT' : T ∉ [z, TO, i1, i2] := W.apart i T _ hm
    have hT4 : h''.get? T = some oT := hk2 T oT nT' hT1
    have new : ObjOk X.prog X.w (upd H T (.tup [.str ⟨#[c]⟩, .str ⟨#[d]⟩])) h'' T (.tup [.str ⟨#[c]⟩, .str ⟨#[d]⟩]) :=
      ⟨by show 2 ≤ sizeLine; decide, [.str ⟨#[c]⟩ t1, .str ⟨#[d]⟩ t2], .cons ⟨_, rfl⟩ (.cons ⟨_, rfl⟩ .nil), ⟨_, hT4, hT2, _, hT3⟩⟩
    have sub : ∀ b, b ∉ [z, TI, TO, i1, i2] → b ∉ [z, TO, i1, i2] := fun b hb h => hb (by
      have e' : b = z ∨ b = TO ∨ b = i1 ∨ b = i2 := by simpa using h
      rcases e' with q | q | q | q <;> simp [q])
    have I1 : Inv X pins σ (upd H T (.tup [.str ⟨#[c]⟩, .str ⟨#[d]⟩])) { s with heap := h'', toks := tk } :=
      I.turnedNew (ch := [z, TI, TO, i1, i2]) (fun b ob hb q => hk2 b ob (sub b hb) (hk b ob (sub b hb) q)) hf hT new
    refine ⟨.ref T, _, I1, rfl, ⟨T, c, d, rfl, I.hok.fresh hT, rfl, hcx, hdy⟩, hst, fun b hb => ?_⟩
    rw [upd_ne (Nat.ne_of_lt (Nat.lt_of_lt_of_le (live b hb) hT))]
    exact (hf b hb).1
  done := by
    intro X hP hw hK hc i pins s σ H E I hf st hg
    subst hP hw hK
    have W := WalksT.zipD2 D (Draws.text (prog := X.prog) (w := X.w) (A := X.A.in1) (I.ok.hd hc) i1 x t) (Draws.text (prog := X.prog) (w := X.w) (A := X.A.in1) (I.ok.hd hc) i2 y u)
    have hi : i = min x.cps.size y.cps.size := hg
    have st' : AtZipS x y t u z TI TO i1 i2 (min x.cps.size y.cps.size) s.heap := hi ▸ st
    have sub : ∀ b, b ∉ [z, TI, TO, i1, i2] → b ∉ [z, TO, i1, i2] := fun b hb h => hb (by
      have e' : b = z ∨ b = TO ∨ b = i1 ∨ b = i2 := by simpa using h
      rcases e' with q | q | q | q <;> simp [q])
    exact W.done s _ _ st' fun h' tk hk => ⟨rfl, I.turnedL (t' := tk) (ch := [z, TI, TO, i1, i2]) (fun c o hb q => hk c o (sub c hb) q) hf⟩
  self := fun A i s Q E st h => wpAny_pyIter_zip st.1 h
def iZipS (ta : TA) : TI := fun σ H R => ta σ H fun vs H1 => ∃ x y, vs = [.str x, .str y] ∧ R (Itzs x y) H1
theorem pi_zipS {X : Cx} {e e2 : Expr} {ta : TA} {p pos tpos : Pos} {elts : List Expr} {kk : Nat} (hg : Gl X "zip") (hm : X.mg "zip" = none) (ha : PA X [e, e2] ta)
    (hs : starEach [e, e2] X.env = (false, eval e X.env) :: starEach [e2] X.env := by rfl) (hpl : (backTo pos (starEach [e2] X.env)).any (·.1) = false := by rfl) :
    PI X (.Tuple elts kk tpos) (.Call (.Name "zip" p) [e, e2] [] pos) (iZipS ta) := by
  refine ⟨fun pins s σ H R I h => ?_⟩
  refine Call_ (ld_blt I hg hm PyProof.Rows.boot_zip (PyProof.Rows.callWith_type1 (thn (ha.run pos pins s σ H _ I h) fun us s1 hh => ?_) hs hpl))
  obtain ⟨vs, H1, I1, r1, x, y, ex, q⟩ := hh
  subst ex
  cases r1 with
  | cons r rr =>
    cases rr with
    | cons r' rr =>
      cases rr
      obtain ⟨t, rfl⟩ := r
      obtain ⟨u, rfl⟩ := r'
      refine zip_begins2 (begins_text x t) (begins_text y u) trivial trivial fun h' hz hTI hTO g1 g2 hsz hk => wpAny_pyIter_zip hz ?_
      have I2 : Inv X pins σ H1 { s1 with heap := h' } := I1.kept (t' := s1.toks) hk
      have D : ZipSep2 (s1.heap.objs.size + 4) (s1.heap.objs.size + 2) (s1.heap.objs.size + 3) s1.heap.objs.size (s1.heap.objs.size + 1) [s1.heap.objs.size] [s1.heap.objs.size + 1] := by
        generalize s1.heap.objs.size = n
        constructor <;> (try simp only [List.mem_singleton]) <;> (show _ → False; intro (z : (_ : Nat) = _); omega) <;> omega
      refine ⟨s1.heap.objs.size + 4, [s1.heap.objs.size + 4, s1.heap.objs.size + 2, s1.heap.objs.size + 3, s1.heap.objs.size, s1.heap.objs.size + 1], _, _, H1, rfl, I2, turn_zipS D, ⟨hz, hTI, ⟨_, _, hTO⟩, ⟨_, g1, rfl, rfl⟩, ⟨_, g2, rfl, rfl⟩⟩, fun c hcm => ?_, q⟩
      have e' : c = s1.heap.objs.size + 4 ∨ c = s1.heap.objs.size + 2 ∨ c = s1.heap.objs.size + 3 ∨ c = s1.heap.objs.size ∨ c = s1.heap.objs.size + 1 := by simpa using hcm
      have hle : s1.heap.objs.size ≤ c := by
        rcases e' with z | z | z | z | z
        · rw [z]; exact Nat.le_add_right _ _
        · rw [z]; exact Nat.le_add_right _ _
        · rw [z]; exact Nat.le_add_right _ _
        · rw [z]; exact Nat.le_refl _
        · rw [z]; exact Nat.le_add_right _ _
      exact I1.fpOk hle (I1.hok.fresh hle)
end Qt
/-! Comprehensions over pairs; counting signs; a tuple of one taken many times. -/
namespace Qt
open PySem PySem.Spec PyProof.Rows L2 Evl
theorem walk_zipS {x y : Str} : Walk (Itzs x y) (min x.cps.size y.cps.size) (fun _ => True) (fun i H v H' => ∃ (T : Addr) (c d : Nat), v = .ref T ∧ H T = none ∧ H' = upd H T (.tup [.str ⟨#[c]⟩, .str ⟨#[d]⟩]) ∧ x.cps[i]? = some c ∧ y.cps[i]? = some d) :=
  ⟨fun _ _ h _ => h, fun _ _ => rfl, fun _ _ _ _ _ _ h => h⟩
section
variable {K : PySem.W.Frag} {σ : L2.St} {H : Hp} {te tl to : TE} {t : TT} {ta : TA}
/-- over the signs of two texts of one length -/
theorem el_lcZS {x y : Str} {j k : Nat} {vs : List Nat} (f : Nat → Bool) (v : Nat → V) (h : EvA ta σ H [.str x, .str y]) (hz : x.length ≤ 40000) (hl : y.length = x.length)
    (hw : ∀ a b, wipe (((wipe σ vs).set j (some a)).set k (some b)) vs = wipe σ vs)
    (ht : ∀ (i : Nat) H1, Ex H H1 → i < x.length → EvT t (((wipe σ vs).set j (some (sg x i))).set k (some (sg y i))) H1 (f i))
    (he : ∀ (i : Nat) H1, Ex H H1 → i < x.length → f i = true → Ev te (((wipe σ vs).set j (some (sg x i))).set k (some (sg y i))) H1 (v i)) :
    EvL (tLc (iZipS ta) (gTup K 2 (gCons (gName j) (gCons (gName k) gNil))) t te vs) σ H (given x.length f v) := fun H0 e Q q => h H0 e _ fun H1 e1 => ⟨x, y, rfl, fun Dl hD => by
  have hm : min x.cps.size y.cps.size = x.length := by
    have : y.cps.size = x.cps.size := hl
    rw [this, Nat.min_self]
    rfl
  refine lc_it walk_zipS (Cw H1 f v Dl) ⟨hD, Ex.new hD, upd_same⟩ (fun _ _ _ _ => trivial) (fun i z H2 H' hi p y' => ?_) (fun H' p => ?_)
  · obtain ⟨T, c, d, rfl, nT, rfl, hc, hd⟩ := y'
    have hi' : i < x.length := by rw [← hm]; exact hi
    obtain ⟨p1, p2, p3⟩ := p
    have nTD : Dl ≠ T := ne_of_none p3 nT
    have p' : Cw H1 f v Dl i (upd H2 T (.tup [.str ⟨#[c]⟩, .str ⟨#[d]⟩])) := ⟨p1, p2.trans (Ex.new nT), by rw [upd_ne nTD]; exact p3⟩
    refine ⟨T, _, rfl, st_of upd_same, rfl, _, _, rfl, _, _, rfl, rfl, ?_⟩
    rw [sg_of hc, sg_of hd] at p' ⊢
    exact ⟨hw _ _, cw_turn p' (by omega) (ht i H1 (e.trans e1) hi') (fun hf => he i H1 (e.trans e1) hi' hf)⟩
  · rw [hm] at p
    exact q Dl H' (fresh_back e1 p.1) (e1.trans p.2.1) p.2.2⟩
/-- over the numbered items of a list -/
theorem el_lcLE {a : Addr} {xs : List V} {j k : Nat} {vs : List Nat} (f : Nat → Bool) (v : Nat → V) (h : EvA ta σ H [.ref a]) (hx : SqL K H a xs) (hz : xs.length ≤ 40000)
    (hw : ∀ a b, wipe (((wipe σ vs).set j (some a)).set k (some b)) vs = wipe σ vs)
    (ht : ∀ (i : Nat) y H1, Ex H H1 → xs[i]? = some y → EvT t (((wipe σ vs).set j (some (.int (i : Int)))).set k (some y)) H1 (f i))
    (he : ∀ (i : Nat) y H1, Ex H H1 → xs[i]? = some y → f i = true → Ev te (((wipe σ vs).set j (some (.int (i : Int)))).set k (some y)) H1 (v i)) :
    EvL (tLc (iEnum K ta) (gTup K 2 (gCons (gName j) (gCons (gName k) gNil))) t te vs) σ H (given xs.length f v) := fun H0 e Q q => h H0 e _ fun H1 e1 => ⟨a, xs, rfl, ex_l (e.trans e1) hx, fun Dl hD => by
  refine lc_it (walk_enum (xs := xs)) (Cw H1 f v Dl) ⟨hD, Ex.new hD, upd_same⟩ (fun _ _ _ p => ex_l p.2.1 (ex_l (e.trans e1) hx)) (fun i z H2 H' hi p y' => ?_) (fun H' p => ?_)
  · obtain ⟨T, n, y, rfl, nT, rfl, hn, hy⟩ := y'
    obtain rfl : V.int (i : Nat) = n := Option.some.inj hn
    obtain ⟨p1, p2, p3⟩ := p
    have nTD : Dl ≠ T := ne_of_none p3 nT
    have p' : Cw H1 f v Dl i (upd H2 T (.tup [.int (i : Nat), y])) := ⟨p1, p2.trans (Ex.new nT), by rw [upd_ne nTD]; exact p3⟩
    refine ⟨T, _, rfl, st_of upd_same, rfl, _, _, rfl, _, _, rfl, rfl, ?_⟩
    exact ⟨hw _ _, cw_turn p' (by omega) (ht i y H1 (e.trans e1) hy) (fun hf => he i y H1 (e.trans e1) hy hf)⟩
  · exact q Dl H' (fresh_back e1 p.1) (e1.trans p.2.1) p.2.2⟩
/-- the length of a new list -/
theorem rc_lenL {a : Addr} {xs : List V} (h : SqL K H a xs) : RC (fun xs H Q => ∃ x n, xs = [x] ∧ LenV K x H n ∧ Q (.int (n : Int)) H) [.ref a] H (.int (xs.length : Int)) := fun H1 e _ q =>
  ⟨.ref a, xs.length, rfl, .inl ⟨xs, ex_l e h, rfl⟩, q H1 (Ex.refl H1)⟩
theorem ev_lenL {xs : List V} (h : EvL te σ H xs) : Ev (tCB (fun xs H Q => ∃ x n, xs = [x] ∧ LenV K x H n ∧ Q (.int (n : Int)) H) (tCons te tNil)) σ H (.int (xs.length : Int)) := ev_cbL h fun _ _ hp _ => rc_lenL (sq_of hp)
theorem cnt_len (c : Nat) : ∀ l : List Nat, cnt c l = ((l.countP fun d => decide (d = c) : Nat) : Int)
  | [] => rfl
  | d :: r => by
    rw [cnt_cons, cnt_len c r, List.countP_cons]
    by_cases h : d = c
    · rw [if_pos h, if_pos (by simpa using h)]; omega
    · rw [if_neg h, if_neg (by simpa using h)]; omega
/-- how often a sign stands in a text -/
theorem ev_count {z : Str} {c : Nat} (h0 : Ev to σ H (.str z)) (h : Ev te σ H (.str ⟨#[c]⟩)) :
    Ev (tM1 (fun x xs H Q => ∃ a b, x = .str a ∧ xs = [.str b] ∧ Q (.int (Txt.count a b)) H) to te) σ H (.int ((z.cps.toList.countP fun d => decide (d = c) : Nat) : Int)) := fun H1 e Q q =>
  h0 H1 e _ fun H2 e2 => ⟨⟨z, rfl⟩, h H2 (e.trans e2) _ fun H3 e3 => ⟨z, ⟨#[c]⟩, rfl, rfl, by
    rw [count_cnt, cnt_len]
    exact q H3 (e2.trans e3)⟩⟩
theorem count_range (l : List Nat) (p : Nat → Bool) : l.countP p = ((List.range l.length).filter fun i => p (l.getD i 0)).length := by
  rw [← List.countP_eq_length_filter]
  have e : l = (List.range l.length).map fun i => l.getD i 0 := by
    apply List.ext_getElem
    · simp
    · intro i h1 h2
      simp [List.getD_eq_getElem?_getD, List.getElem?_eq_getElem h1]
  conv => lhs; rw [e, List.countP_map]
  rfl
end
/-! ### a tuple of one, taken k times -/
theorem tuple_mul1 (l : Addr) (items : Array Value) (n : Nat) (dd : Option Addr) (sl : Array (Option Value)) (u : Tok) (hi : items.isEmpty = false) :
    Meets (Builtin.«tuple.__mul__» ⟨[.ref l, .int 1 u], []⟩) (fun _ R s => s.heap.get? l = some { cls := .type "tuple", dict := dd, data := .seq items n, slots := sl } ∧ R (.ok (.ret (Value.ref l))) s) :=
  .of_wp fun prog w A R s h => by
    obtain ⟨hp, g, d, tk, os⟩ := s
    obtain ⟨hl, h⟩ := h
    have f1 := AutoSeq1.idx_int
    have c1 : (items.isEmpty || (1 : Int) == 1) = true := by simp
    wp_walk using wpAny_loadPart' hl
    exact ⟨_, rfl, h⟩
def rRepT1 (K : PySem.W.Frag) : R2 := fun x y H Q => ∃ l k xs, x = .ref l ∧ y = .int k ∧ SqT K H l xs ∧ xs ≠ [] ∧ 1 ≤ k ∧ k ≤ 1000 ∧ xs.length ≤ 1000 ∧ (k = 1 → Q (.ref l) H) ∧ (2 ≤ k → ∀ p, H p = none → Q (.ref p) (upd H p (.tup (List.replicate k.toNat xs).flatten)))
theorem op_repT1 {X : Cx} : OpR X (binaryOp .Mult) (rRepT1 X.K) := by
  intro pins s σ H x y v u Q I rx ry h
  obtain ⟨l, k, xs, rfl, rfl, hT, hne, h1, h2, hz, q1, q2⟩ := h
  by_cases hk : 2 ≤ k
  · exact op_repT pins s σ H _ _ v u Q I rx ry ⟨l, k, xs, rfl, rfl, hT, hne, hk, h2, hz, q2 hk⟩
  · have e1 : k = 1 := by omega
    subst e1
    cases rx
    obtain ⟨t, rfl⟩ := ry
    obtain ⟨its, r, ⟨⟨cls, dd, data, sl⟩, ho, hc, n, hd⟩, hs⟩ := I.tuple hT
    simp only at hc hd
    subst hc hd
    have hle : its.length = xs.length := r.length.symm
    have hn : its ≠ [] := fun e => hne (by
      rw [e] at hle
      exact List.eq_nil_of_length_eq_zero hle.symm)
    have hi : its.toArray.isEmpty = false := by
      cases its with
      | nil => exact absurd rfl hn
      | cons a b => rfl
    refine wpAny_binaryOp_repeat_ref (T := "tuple") (U := "int") (by decide) ⟨_, ho, rfl⟩ (fun s' => typeIs_int s' 1 t) noFill_tuple_mul F.fills_int_mul F.slot_int_rmul repeat_tuple F.slot_int_index.lookup
      (call_meets F.slot_int_rmul (typeIs_int s 1 t) F.entry_int_rmul (F.args_int_rmul_2 _ _) (int_rmul_tuple 1 t l its.toArray n dd sl)
        ⟨ho, rfl, ⟨_, ho, rfl⟩, call_meets F.slot_tuple_mul ⟨_, ho, rfl⟩ F.entry_tuple_mul (F.args_tuple_mul_2 _ _) (tuple_mul1 l its.toArray n dd sl t hi) ⟨ho, ?_⟩⟩)
    exact ⟨.ref l, H, I, rfl, q1 rfl⟩
end Qt
namespace Qt
open PySem PySem.Spec PyProof.Rows L2 Evl
section
variable {K : PySem.W.Frag} {σ : L2.St} {H : Hp} {te : TE} {t : TT} {ta : TA} {D : Ends} {tu tz : TS}
/-- over range(n), n of either sign -/
theorem el_lcRn {j : Nat} {vs : List Nat} {n : Int} (f : Nat → Bool) (v : Nat → V) (h : EvA ta σ H [.int n]) (hn : -40000 ≤ n ∧ n ≤ 40000)
    (hw : ∀ x, wipe ((wipe σ vs).set j (some x)) vs = wipe σ vs)
    (ht : ∀ (i : Nat) H1, Ex H H1 → (i : Int) < n → EvT t ((wipe σ vs).set j (some (.int (i : Int)))) H1 (f i))
    (he : ∀ (i : Nat) H1, Ex H H1 → (i : Int) < n → f i = true → Ev te ((wipe σ vs).set j (some (.int (i : Int)))) H1 (v i)) :
    EvL (tLc (iRng1 ta) (gName j) t te vs) σ H (given n.toNat f v) := fun H0 e Q q => h H0 e _ fun H1 e1 => by
  refine ⟨n, rfl, by omega, by omega, fun Dl hD => ?_⟩
  refine lc_it (walk_range (lo := 0) (n := n.toNat)) (Cw H1 f v Dl) ⟨hD, Ex.new hD, upd_same⟩ (fun _ _ _ _ => trivial) (fun i x H2 H' hi p y => ?_) (fun H' p => q Dl H' (fresh_back e1 p.1) (e1.trans p.2.1) p.2.2)
  obtain ⟨rfl, rfl⟩ := y
  dsimp only
  rw [Int.zero_add]
  have hi' : (i : Int) < n := by omega
  exact ⟨hw _, cw_turn p (by omega) (ht i H1 (e.trans e1) hi') (fun hf => he i H1 (e.trans e1) hi' hf)⟩
/-- for over range(n), n of either sign -/
theorem q_forRn {j : Nat} {n : Int} (h : EvA ta σ H [.int n]) (hn : -100000 ≤ n ∧ n ≤ 100000) (Pv : Nat → L2.St → Hp → Prop) (h0 : ∀ H1, Ex H H1 → Pv 0 σ H1)
    (hs : ∀ (i : Nat) σ' H', (i : Int) < n → Pv i σ' H' → tu { D with nx := Pv (i + 1), ct := Pv (i + 1), bk := tz D } (σ'.set j (some (.int (i : Int)))) H')
    (hd : ∀ σ' H', Pv n.toNat σ' H' → tz D σ' H') : tSeq (tFor (iRng1 ta) (gName j) tu) tz D σ H :=
  h H (Ex.refl H) _ fun H1 e => by
  refine ⟨n, rfl, by omega, by omega, ?_⟩
  refine for_it (D := { D with nx := tz D }) (walk_range (lo := 0) (n := n.toNat)) Pv (h0 H1 e) (fun _ _ _ _ _ => trivial) (fun i x σ' H2 H' hi p y => ?_) hd
  obtain ⟨rfl, rfl⟩ := y
  dsimp only
  rw [Int.zero_add]
  exact hs i σ' _ (by omega) p
end
end Qt
/-! len(set(xs)) of a list of texts. -/
namespace Qt
open PySem PySem.Spec PyProof.Rows L2 Evl
section
variable {P : Program} {w : World}
theorem nodup_snoc {α : Type} [DecidableEq α] {l : List α} {x : α} : (l ++ [x]).Nodup ↔ l.Nodup ∧ x ∉ l := by
  rw [List.nodup_append]
  constructor
  · rintro ⟨a, _, c⟩
    exact ⟨a, fun h => c x h x List.mem_cons_self rfl⟩
  · rintro ⟨a, b⟩
    refine ⟨a, by simp, fun y hy z hz e => ?_⟩
    rw [List.mem_singleton.mp hz] at e
    exact b (e ▸ hy)
/-- a set of these texts, n of them distinct -/
def SetS (P : Program) (w : World) (xs : List Str) (S : Addr) (h : Heap) : Prop := ∃ n, n ≤ xs.length ∧ (n = xs.length ↔ xs.Nodup) ∧ h.SetOf (PySem.strKind P w) S (fun k => decide (k ∈ xs)) n
theorem fill_strs {A : Around} {I : Addr} {fp wr : List Addr} {G : Array GenState → Array GenState → Prop} {m : Nat} {Pv : Nat → Value → Prop} {St : Nat → Shared → Prop} {R : Result → Shared → Prop}
    (W : WalksS P w A.in1 I fp wr G m Pv St) (S : Addr) (hSf : S ∉ fp) (xs : List Str) (hn : m = xs.length) (hb : xs.length + 1 < scanBound) (hval : ∀ i v, Pv i v → ∃ k t, xs[i]? = some k ∧ v = .str k t) :
    ∀ (k i : Nat) (s : Shared), m - i = k → i ≤ m → St i s → SetS P w (xs.take i) S s.heap → (∀ s', Moved (S :: wr) G s s' → SetS P w xs S s'.heap → R (.ok (.ret .none)) s') →
      codeAny (model P w) A (.builtin "set.update.loop" ⟨[.ref S, .ref I], []⟩) R s := by
  have out : S ∉ wr := fun h => hSf (W.sub _ h)
  have into : ∀ b ∈ wr, b ∈ S :: wr := fun b hb => List.mem_cons_of_mem _ hb
  have stay : ∀ {h h' : Heap} {ys : List Str}, (∀ o, h.get? S = some o → h'.get? S = some o) → SetS P w ys S h → SetS P w ys S h' := by
    rintro h h' ys hk ⟨n, a, b, o, es, ep, t, ho, r⟩
    exact ⟨n, a, b, o, es, ep, t, hk o ho, r⟩
  intro k
  induction k with
  | zero =>
    intro i s hk' hi hst hS hR
    obtain rfl : i = m := by omega
    refine codeAny_builtin F.entry_set_update_loop ?_
    rw [Around.under_plainId F.plain_set_update_loop _]
    show wpAny _ A.in1 (pyNext (.ref I) >>= _) _ _ s
    refine wpAny_bind (W.done s _ _ hst fun s' hm => ?_)
    show wpAny _ A.in1 (ret Value.none) _ _ s'
    rw [List.take_of_length_le (by omega)] at hS
    exact wpAny_pure (hR s' (hm.mono into) (stay (fun o e => hm.heap S o out e) hS))
  | succ k ih =>
    intro i s hk' hi hst hS hR
    have hlt : i < m := by omega
    refine codeAny_builtin F.entry_set_update_loop ?_
    rw [Around.under_plainId F.plain_set_update_loop _]
    show wpAny _ A.in1 (pyNext (.ref I) >>= _) _ _ s
    refine wpAny_bind (W.item i s _ _ hlt hst fun v s' hP hst' hm => ?_)
    obtain ⟨z, t, hz, rfl⟩ := hval i v hP
    obtain ⟨c, hc1, hc2, hS'⟩ := stay (h' := s'.heap) (fun o e => hm.heap S o out e) hS
    have hil : i < xs.length := by omega
    rw [List.length_take, Nat.min_eq_left (by omega)] at hc1 hc2
    show wpAny _ A.in1 (holding [Value.str z t] (setAdd S (.str z t)) >>= _) _ _ s'
    refine wpAny_bind (wpAny_holding ?_)
    unfold setAdd
    refine wpAny_holding ?_
    refine wpAny_bind ((PySem.strKind P w).pyHash (k := z) (strKind_is _ _ _ _) ?_)
    refine wpAny_setAddHashed_of (knd := PySem.strKind P w) (s := { s' with toks := s'.toks + 1 }) (strKind_is _ _ _ _) rfl hS' (by omega) fun h' hsb hS2 => ?_
    have eT : xs.take (i + 1) = xs.take i ++ [z] := by rw [List.take_add_one, hz]; rfl
    have hS3 : SetS P w (xs.take (i + 1)) S h' := by
      refine ⟨_, ?_, ?_, SetOf_congr hS2 (fun j => ?_) rfl⟩
      · rw [List.length_take, Nat.min_eq_left (by omega)]
        split <;> omega
      · rw [List.length_take, Nat.min_eq_left (by omega), eT, nodup_snoc]
        by_cases hmem : z ∈ xs.take i
        · rw [if_pos (decide_eq_true hmem)]
          exact ⟨fun h => by omega, fun h => absurd hmem h.2⟩
        · rw [if_neg (by rw [decide_eq_false hmem]; exact Bool.false_ne_true)]
          exact ⟨fun h => ⟨hc2.mp (by omega), hmem⟩, fun h => by have := hc2.mpr h.1; omega⟩
      · rw [eT]
        simp [List.mem_append]
    refine wpAny_pure ⟨plainId_quiet F.plain_set_update_loop _, ih (i + 1) _ (by omega) hlt (W.frame _ s' _ _ hst' (Nat.le_succ _) fun b hb o e => ?_) hS3 fun s'' hm'' hS'' => ?_⟩
    · rw [hsb.2 b (fun h : b = S => hSf (by rw [← h]; exact hb))]; exact e
    · refine hR s'' (Moved.trans W.gtrans ((hm.mono into).then_heap (Nat.le_succ _) fun b o hb e => ?_) hm'') hS''
      rw [hsb.2 b (fun h : b = S => hb (by rw [h]; exact List.mem_cons_self))]; exact e
theorem fills_strs {items : Array Value} {xs : List Str} (hit : StrsAre items.toList xs) (hb : xs.length + 1 < scanBound) : Fills P w items (SetS P w xs) := by
  have hn : items.size = xs.length := by
    have q : ∀ {us : List Value} {ys : List Str}, StrsAre us ys → us.length = ys.length := by
      intro us ys h
      induction h with
      | nil => rfl
      | cons _ _ _ ih => rw [List.length_cons, List.length_cons, ih]
    have q := q hit
    rwa [Array.length_toList] at q
  have at_ : ∀ {us : List Value} {ys : List Str}, StrsAre us ys → ∀ (i : Nat) (v : Value), us[i]? = some v → ∃ k t, ys[i]? = some k ∧ v = .str k t := by
    intro us ys h
    induction h with
    | nil => intro i v e; simp at e
    | cons y t _ ih =>
      intro i v e
      cases i with
      | zero =>
        have e' := Option.some.inj e
        exact ⟨y, t, rfl, e'.symm⟩
      | succ i => exact ih i v e
  intro A' I fp wr G St R W S hS s0 hst h0 hR
  refine fill_strs W S hS xs hn hb (fun i v hv => at_ hit i v (by rw [Array.getElem?_toList]; exact hv)) (items.size - 0) 0 s0 rfl (Nat.zero_le _) hst
    ⟨0, Nat.zero_le _, by simp, ⟨_, #[], 0, _, h0, ⟨rfl, rfl, rfl⟩, rfl, (fun e he => by simp at he), (fun k => by simp), (by decide), (by rfl), rfl⟩⟩ fun s' hm hs => hR s' hm hs
end
section
variable {X : Cx}
def tLenSetS (K : PySem.W.Frag) (ta : TE) : TE := fun σ H Q => ta σ H fun x H1 => ∃ (l : Addr) (xs : List Str), x = .ref l ∧ SqL K H1 l (xs.map V.str) ∧ xs.length ≤ 2000 ∧ ∀ n : Nat, n ≤ xs.length → (n = xs.length ↔ xs.Nodup) → Q (.int (n : Int)) H1
theorem pe_lenSetS {a : Expr} {ta : TE} {p p2 q pos : Pos} (hc : X.calm = true) (hg : Gl X "len") (hm : X.mg "len" = none) (hg2 : Gl X "set") (hm2 : X.mg "set" = none) (ha : PE X a ta)
    (na : starEach [a] X.env = (false, eval a X.env) :: starEach [] X.env := by rfl) : PE X (.Call (.Name "len" p) [.Call (.Name "set" p2) [a] [] q] [] pos) (tLenSetS X.K ta) := by
  refine ⟨fun pins s σ H Q I h => Call_ (ld_blt I hg hm PySem.boot_len (PyProof.Rows.callWith_builtin1 (PyProof.Rows.args_cons (Call_ (ld_blt I hg2 hm2 PyProof.Rows.boot_set ?_)) rfl) rfl rfl))⟩
  refine PyProof.Rows.callWith_type1 (PyProof.Rows.args_cons (thn (ha.run pins s σ H _ I h) fun v s1 hh => PyProof.Rows.args_nil ?_) na) na rfl
  obtain ⟨x, H1, I1, r1, l, xs, rfl, hq, hl, q1⟩ := hh
  cases r1
  obtain ⟨its, r, pl, hz⟩ := I1.list hq
  refine set_of_list (I1.ok.hd hc) pl.isList (fills_strs (xs := xs) (by simpa using strsAre_of r) (by unfold scanBound; omega)) fun h' tk hS hk => PyProof.Rows.args_nil ?_
  obtain ⟨n, n1, n2, o, es, ep, t, ho, hex, hd, _, _, _, hf, hn⟩ := hS
  have I2 : Inv X pins σ H1 { s1 with heap := h', toks := tk } := I1.kept hk
  exact call_len_set ho hex hd hf (by rw [hn] <;> omega) ⟨.int (n : Int), H1, I2.tok _, ⟨_, by rw [hn]⟩, q1 n n1 n2⟩
end
end Qt
/-! min(xs, default=None) of a list of ints. -/
namespace Qt
open PySem PySem.Spec PyProof.Rows L2 Evl
section
variable {P : Program} {w : World} {A : Around} {E : Value → Shared → Prop} {s : Shared}
abbrev kwD : List (Str × Value) := [(PySem.Str.ofString "default", .none)]
theorem min_args (a : Value) : argsOk "min" ⟨[a], kwD⟩ := by unfold argsOk; kernel_rfl
theorem min_name : (toString "min" ++ toString ".loop" : String) = "min.loop" := by decide
abbrev bestO (vs : Array Value) (c : Nat) : Obj := { cls := .type "list", dict := none, data := .seq vs c, slots := #[] }
section
variable {R : Result → Shared → Prop} {I S : Addr} {fp wr : List Addr} {n : Nat} {Pv : Nat → Value → Prop} {St : Nat → Heap → Prop}
theorem minD_loop (W : Walks P w A.in1 I fp wr n Pv St) (bt : Nat → Nat → Bool) (hcmp : CmpOf P w A.in1 .Lt Pv bt) (hSf : S ∉ fp) :
    ∀ (k j : Nat) (s : Shared) (v : Value) (c : Nat), n - (j + 1) = k → j + 1 ≤ n → St (j + 1) s.heap → Pv (argBest bt j) v → s.heap.get? S = some (bestO #[v, v] c) →
    (∀ u h' tk, Pv (argBest bt (n - 1)) u → (∀ b o, b ∉ wr → b ≠ S → s.heap.get? b = some o → h'.get? b = some o) → R (.ok (.ret u)) { s with heap := h', toks := tk }) →
    codeAny (model P w) A (.builtin "min.loop" ⟨[.ref I, .none, .ref S], kwD⟩) R s := by
  have out : S ∉ wr := fun h => hSf (W.sub _ h)
  intro k
  induction k with
  | zero =>
    intro j s v c hk hj hst hP hS hR
    have hn : j + 1 = n := by omega
    refine codeAny_builtin F.entry_min_loop ?_
    rw [Around.under_plainId F.plain_min_loop _]
    show wpAny _ A.in1 (seqItems? (.ref S) >>= _) _ _ s
    refine wpAny_bind (wpAny_seqItems hS rfl ?_)
    show wpAny _ A.in1 (tryCatch (pyNext (.ref I)) _ >>= _) _ _ s
    refine wpAny_bind (wpAny_tryCatch (W.done s _ _ (hn ▸ hst) fun h' tk keep => ?_))
    have hS' := keep S _ out hS
    show wpAny _ A.in1 (updateSeq S (fun _ => #[]) >>= _) _ _ _
    refine wpAny_bind (wpAny_updateSeq hS' rfl (wpAny_bind (wpAny_letGo (wpAny_pure (hR v _ tk (by rw [← hn]; exact hP) fun b o b1 b2 e => ?_)))))
    exact (Heap.get?_update_other _ _ (Ne.symm b2)).trans (keep b o b1 e)
  | succ k ih =>
    intro j s v c hk hj hst hP hS hR
    have lt : j + 1 < n := by omega
    refine codeAny_builtin F.entry_min_loop ?_
    rw [Around.under_plainId F.plain_min_loop _]
    show wpAny _ A.in1 (seqItems? (.ref S) >>= _) _ _ s
    refine wpAny_bind (wpAny_seqItems hS rfl ?_)
    show wpAny _ A.in1 (tryCatch (pyNext (.ref I)) _ >>= _) _ _ s
    refine wpAny_bind (wpAny_tryCatch (W.item (j + 1) s _ _ lt hst fun u h' tk hu hst' keep => ?_))
    have hS' := keep S _ out hS
    show wpAny _ A.in1 (tryCatch (holding [u, u] (richCompare .Lt u v >>= _)) _ >>= _) _ _ _
    refine wpAny_bind (wpAny_tryCatch (wpAny_holding (wpAny_bind (hcmp (j + 1) (argBest bt j) u v _ _ _ hu hP (wpAny_bind (wpAny_holding (wpAny_truthy_bool (wpAny_bind (wpAny_letGo (wpAny_pure ?_))))))))))
    cases hb : bt (j + 1) (argBest bt j) with
    | true =>
      simp only [if_true]
      refine wpAny_bind (wpAny_updateSeq hS' rfl (wpAny_bind (wpAny_letGo ?_)))
      rw [min_name]
      refine wpAny_pure ⟨plainId_quiet F.plain_min_loop _, ih (j + 1) _ u _ (by omega) lt (W.frame _ _ _ hst' fun b hbf o e => ?_) (by simp only [argBest, hb, if_true]; exact hu) (Heap.get?_update_self _ hS' rfl) fun u' h2 tk2 hu' keep2 => ?_⟩
      · exact (Heap.get?_update_other _ _ (fun h : S = b => hSf (by rw [h]; exact hbf))).trans e
      · exact hR u' h2 tk2 hu' fun b o b1 b2 e => keep2 b o b1 b2 ((Heap.get?_update_other _ _ (Ne.symm b2)).trans (keep b o b1 e))
    | false =>
      simp only [Bool.false_eq_true, if_false]
      refine wpAny_bind (wpAny_letGo ?_)
      rw [min_name]
      exact wpAny_pure ⟨plainId_quiet F.plain_min_loop _, ih (j + 1) _ v c (by omega) lt hst' (by simp only [argBest, hb, Bool.false_eq_true, if_false]; exact hP) hS' fun u' h2 tk2 hu' keep2 => hR u' h2 tk2 hu' fun b o b1 b2 e => keep2 b o b1 b2 (keep b o b1 e)⟩
theorem minD_first (W : Walks P w A.in1 I fp wr n Pv St) (bt : Nat → Nat → Bool) (hcmp : CmpOf P w A.in1 .Lt Pv bt) (hSf : S ∉ fp) {s : Shared} {c : Nat} (hst : St 0 s.heap) (hS : s.heap.get? S = some (bestO #[] c))
    (h0 : n = 0 → ∀ h' tk, (∀ b o, b ∉ wr → b ≠ S → s.heap.get? b = some o → h'.get? b = some o) → R (.ok (.ret .none)) { s with heap := h', toks := tk })
    (h1 : 0 < n → ∀ u h' tk, Pv (argBest bt (n - 1)) u → (∀ b o, b ∉ wr → b ≠ S → s.heap.get? b = some o → h'.get? b = some o) → R (.ok (.ret u)) { s with heap := h', toks := tk }) :
    codeAny (model P w) A (.builtin "min.loop" ⟨[.ref I, .none, .ref S], kwD⟩) R s := by
  have out : S ∉ wr := fun h => hSf (W.sub _ h)
  refine codeAny_builtin F.entry_min_loop ?_
  rw [Around.under_plainId F.plain_min_loop _]
  show wpAny _ A.in1 (seqItems? (.ref S) >>= _) _ _ s
  refine wpAny_bind (wpAny_seqItems hS rfl ?_)
  show wpAny _ A.in1 (tryCatch (pyNext (.ref I)) _ >>= _) _ _ s
  by_cases hn : n = 0
  · refine wpAny_bind (wpAny_tryCatch (W.done s _ _ (hn ▸ hst) fun h' tk keep => ?_))
    refine wpAny_bind (wpAny_rule ?_)
    exact wpAny_pure (h0 hn _ tk fun b o b1 b2 e => keep b o b1 e)
  · refine wpAny_bind (wpAny_tryCatch (W.item 0 s _ _ (by omega) hst fun u h' tk hu hst' keep => ?_))
    have hS' := keep S _ out hS
    show wpAny _ A.in1 (updateSeq S (fun _ => #[u, u]) >>= _) _ _ _
    refine wpAny_bind (wpAny_updateSeq hS' rfl ?_)
    rw [min_name]
    refine wpAny_pure ⟨plainId_quiet F.plain_min_loop _, minD_loop W bt hcmp hSf _ 0 _ u _ rfl (by omega) (W.frame _ _ _ hst' fun b hbf o e => ?_) hu (Heap.get?_update_self _ hS' rfl) fun u' h2 tk2 hu' keep2 => ?_⟩
    · exact (Heap.get?_update_other _ _ (fun h : S = b => hSf (by rw [h]; exact hbf))).trans e
    · exact h1 (by omega) u' h2 tk2 hu' fun b o b1 b2 e => keep2 b o b1 b2 ((Heap.get?_update_other _ _ (Ne.symm b2)).trans (keep b o b1 e))
end
theorem minD_list {l : Addr} {items : Array Value} (val : Nat → Int) (hv : ∀ (i : Nat) (v : Value), items[i]? = some v → ∃ t, v = Value.int (val i) t) {Q : Value → Shared → Prop} (hh : A.handled = none) (hl : s.heap.IsList l items)
    (h0 : items.size = 0 → ∀ h' tk, (∀ b o, s.heap.get? b = some o → h'.get? b = some o) → Q .none { s with heap := h', toks := tk })
    (h1 : 0 < items.size → ∀ t h' tk, (∀ b o, s.heap.get? b = some o → h'.get? b = some o) → Q (.int (val (argBest (fun i j => decide (val i < val j)) (items.size - 1))) t) { s with heap := h', toks := tk }) :
    wpAny (model P w) A (call (.builtin "min") [.ref l] kwD) Q E s := by
  obtain ⟨ol, hol, _⟩ := id hl
  have hll : l < s.heap.objs.size := Heap.lt_size hol
  refine kmk_tree F.kind_min F.plain_min F.entry_min (min_args _) ?_
  show wpAny _ A.in1 (Builtin.Builtins.bindParams "min" ["key", "default"] 0 ⟨[], kwD⟩ >>= _) _ _ s
  refine wpAny_bind (wpAny_of_eq (show Builtin.Builtins.bindParams "min" ["key", "default"] 0 ⟨[], kwD⟩ = pure [none, some .none] from rfl) ?_)
  refine wpAny_bind (wpAny_pure (wpAny_bind (wpAny_pyIter_list hl (wpAny_bind (wpAny_newList ?_ (Nat.zero_le _))))))
  rw [min_name]
  have hz : (s.heap.push { cls := .type "list_iterator", data := .fields #[.ref l, .int 0 0] }).objs.size = s.heap.objs.size + 1 := Heap.size_push ..
  have hlI : l ≠ s.heap.objs.size := Nat.ne_of_lt hll
  have kept : ∀ {h' : Heap}, (∀ b o, b ∉ [s.heap.objs.size] → b ≠ (s.heap.push { cls := .type "list_iterator", data := .fields #[.ref l, .int 0 0] }).objs.size →
      ((s.heap.push { cls := .type "list_iterator", data := .fields #[.ref l, .int 0 0] }).push (seqObj "list" #[] 0)).get? b = some o → h'.get? b = some o) → ∀ b o, s.heap.get? b = some o → h'.get? b = some o := by
    intro h' k b o e
    have hb := Heap.lt_size e
    refine k b o (by rw [List.mem_singleton]; exact Nat.ne_of_lt hb) (by rw [hz]; exact Nat.ne_of_lt (Nat.lt_succ_of_lt hb)) (Heap.get?_push_of_some _ (Heap.get?_push_of_some _ e))
  refine wpAny_pure ⟨plainId_quiet F.plain_min_loop _, minD_first (Walks.list (A := A.in1) (by simp [hh]) s.heap.objs.size l hlI items) (fun i j => decide (val i < val j)) (CmpOf.ints_lt val hv) (fun z => ?_) ⟨⟨_, Heap.get?_push_of_some _ (Heap.get?_push_size _ rfl), rfl, rfl⟩, (hl.push _).push _⟩ (Heap.get?_push_size _ rfl) (fun hn h' tk k => ?_) (fun hn u h' tk hu k => ?_)⟩
  · rcases List.mem_cons.mp z with z | z
    · rw [hz] at z
      exact absurd z (Nat.ne_of_gt (Nat.lt_succ_self _))
    · rw [hz] at z
      exact absurd (List.mem_singleton.mp z) (Nat.ne_of_gt (Nat.lt_succ_of_lt hll))
  · exact h0 hn h' tk (kept k)
  · obtain ⟨t, rfl⟩ := hv _ _ hu
    exact h1 hn t h' tk (kept k)
end
section
variable {X : Cx}
/-- min(xs, default=None) -/
def rMinD (K : PySem.W.Frag) : List V → List V → Hp → VK → Prop := fun vs zs H Q => ∃ (a : Addr) (ns : List Int), vs = [.ref a] ∧ zs = [.non] ∧ SqL K H a (ns.map V.int) ∧ (ns = [] → Q .non H) ∧ ∀ m, m ∈ ns → (∀ k ∈ ns, m ≤ k) → Q (.int m) H
theorem cr_minD (hc : X.calm = true) : CallRK X (.builtin "min") [PySem.Str.ofString "default"] (rMinD X.K) := by
  intro pins s σ H vs zs us ws Q I r rz h
  obtain ⟨a, ns, rfl, rfl, hs, q0, q1⟩ := h
  rw [Vals.ref1 r]
  obtain ⟨w1, rfl, e1⟩ := vals1 rz
  obtain rfl : w1 = Value.none := e1
  obtain ⟨its, rv, hl, _⟩ := I.list hs
  have hlen : its.toArray.size = ns.length := by rw [List.size_toArray, ← rv.length, List.length_map]
  refine minD_list (fun i => ns.getD i 0) (fun i v hv => ?_) (I.ok.hd hc) hl.isList (fun hn h' tk k => ?_) fun hn t h' tk k => ?_
  · have hi : i < ns.length := by rw [← hlen]; exact (Array.getElem?_eq_some_iff.mp hv).1
    obtain ⟨u, hu, ru⟩ := rv.get (i := i) (x := .int (ns.getD i 0)) (by rw [List.getElem?_map, List.getElem?_eq_getElem hi, List.getD_eq_getElem?_getD, List.getElem?_eq_getElem hi]; rfl)
    have hv' : its[i]? = some v := by simpa using hv
    rw [hu] at hv'
    cases hv'
    exact ru
  · exact ⟨.non, H, I.kept (t' := tk) k, rfl, q0 (List.eq_nil_of_length_eq_zero (by omega))⟩
  · obtain ⟨b1, b2⟩ := argBest_lt (fun i => ns.getD i 0) (its.toArray.size - 1)
    refine ⟨.int _, H, I.kept (t' := tk) k, ⟨t, rfl⟩, q1 _ ?_ fun z hz => ?_⟩
    · have hi : argBest (fun i j => decide (ns.getD i 0 < ns.getD j 0)) (its.toArray.size - 1) < ns.length := by omega
      rw [List.getD_eq_getElem?_getD, List.getElem?_eq_getElem hi]
      exact List.getElem_mem hi
    · obtain ⟨j, hj, rfl⟩ := List.getElem_of_mem hz
      have := b2 j (by omega)
      rw [List.getD_eq_getElem?_getD (i := j), List.getElem?_eq_getElem hj] at this
      exact this
end
end Qt
/-! Comprehensions of two fors. -/
namespace Qt
open PySem PySem.Spec PyProof.Rows L2 Evl
section
variable {J J1 : It} {n n1 : Nat} {G G1 : Hp → Prop} {Y Y1 : Nat → Hp → V → Hp → Prop}
/-- the outer for -/
theorem lc2_out (w : Walk J n G Y) {B : V → Hp → (Hp → Prop) → Prop} {H1 : Hp} {D : Addr} {Qd : Hp → Prop} (Pv : Nat → Hp → Prop) (h0 : Pv 0 (upd H1 D (.lst []))) (hG : ∀ i H, i ≤ n → Pv i H → G H)
    (hs : ∀ i x H H', i < n → Pv i H → Y i H x H' → B x H' (Pv (i + 1))) (hd : ∀ H, Pv n H → Qd H) :
    ∃ W : Nat → Nat → Hp → Prop, (∃ m, W 0 m (upd H1 D (.lst []))) ∧ ∀ i m H, W i m H → (J.stop i H ∧ Qd H) ∨ (J.go i H ∧ ∃ Nx : Hp → Prop, (∀ H', Nx H' → ∃ m', m' < m ∧ W (i + 1) m' H') ∧ ∀ x H', J.yld i H x H' → B x H' Nx) := by
  refine ⟨fun i m H => m = n - i ∧ i ≤ n ∧ Pv i H, ⟨n, by simp, Nat.zero_le _, h0⟩, ?_⟩
  rintro i m H ⟨rfl, hi, p⟩
  have q := hG i H hi p
  by_cases lt : i < n
  · exact .inr ⟨w.goes i H lt q, Pv (i + 1), fun H' p' => ⟨n - (i + 1), by omega, rfl, lt, p'⟩, fun x H' y => hs i x H H' lt p (w.yields i H x H' lt q y)⟩
  · obtain rfl : i = n := by omega
    exact .inl ⟨w.stops H q, hd H p⟩
/-- the inner for -/
theorem lc2_in (w : Walk J1 n1 G1 Y1) {B : V → Hp → (Hp → Prop) → Prop} {H4 : Hp} {Nx : Hp → Prop} (Pv : Nat → Hp → Prop) (h0 : Pv 0 H4) (hG : ∀ i H, i ≤ n1 → Pv i H → G1 H)
    (hs : ∀ i x H H', i < n1 → Pv i H → Y1 i H x H' → B x H' (Pv (i + 1))) (hd : ∀ H, Pv n1 H → Nx H) :
    ∃ W : Nat → Nat → Hp → Prop, (∃ m, W 0 m H4) ∧ ∀ i m H, W i m H → (J1.stop i H ∧ Nx H) ∨ (J1.go i H ∧ ∃ Mx : Hp → Prop, (∀ H', Mx H' → ∃ m', m' < m ∧ W (i + 1) m' H') ∧ ∀ x H', J1.yld i H x H' → B x H' Mx) := by
  refine ⟨fun i m H => m = n1 - i ∧ i ≤ n1 ∧ Pv i H, ⟨n1, by simp, Nat.zero_le _, h0⟩, ?_⟩
  rintro i m H ⟨rfl, hi, p⟩
  have q := hG i H hi p
  by_cases lt : i < n1
  · exact .inr ⟨w.goes i H lt q, Pv (i + 1), fun H' p' => ⟨n1 - (i + 1), by omega, rfl, lt, p'⟩, fun x H' y => hs i x H H' lt p (w.yields i H x H' lt q y)⟩
  · obtain rfl : i = n1 := by omega
    exact .inl ⟨w.stops H q, hd H p⟩
end
section
variable {K : PySem.W.Frag} {σ : L2.St} {H : Hp} {te til : TE} {ta : TA}
/-- what two fors give, up to the outer turn i -/
def given2 (m : Nat → Nat) (v : Nat → Nat → V) (i : Nat) : List V := (List.range i).flatMap fun a => (List.range (m a)).map (v a)
theorem given2_succ (m : Nat → Nat) (v : Nat → Nat → V) (i : Nat) : given2 m v (i + 1) = given2 m v i ++ (List.range (m i)).map (v i) := by
  unfold given2
  rw [List.range_succ, List.flatMap_append, List.flatMap_singleton]
theorem given2_len (m : Nat → Nat) (v : Nat → Nat → V) (i : Nat) (h : ∀ a, m a ≤ 200) : (given2 m v i).length ≤ i * 200 := by
  induction i with
  | zero => simp [given2]
  | succ i ih =>
    rw [given2_succ, List.length_append, List.length_map, List.length_range]
    have := h i
    omega
theorem yes_if {σ : L2.St} {H : Hp} {A B : Hp → Prop} (h : A H) : tYes σ H fun b H3 => if b = true then A H3 else B H3 := iteT (B := B H) h
/-- for i, x in enumerate(xs) for y in a new list, no test -/
theorem el_lc2 {a : Addr} {xs : List V} {ys : Nat → List V} {j k l : Nat} {vs vs1 : List Nat} (v : Nat → Nat → V) (h : EvA ta σ H [.ref a]) (hx : SqL K H a xs) (hz : xs.length ≤ 200) (hy : ∀ i, (ys i).length ≤ 200)
    (hw : ∀ x y, wipe (((wipe σ vs).set j (some x)).set k (some y)) vs = wipe σ vs)
    (hw1 : ∀ x y z, wipe ((wipe (((wipe σ vs).set j (some x)).set k (some y)) vs1).set l (some z)) vs1 = wipe (((wipe σ vs).set j (some x)).set k (some y)) vs1)
    (hi : ∀ (i : Nat) y H1, Ex H H1 → xs[i]? = some y → EvL til (((wipe σ vs).set j (some (.int (i : Int)))).set k (some y)) H1 (ys i))
    (he : ∀ (i m : Nat) y z H1, Ex H H1 → xs[i]? = some y → (ys i)[m]? = some z → Ev te ((wipe (((wipe σ vs).set j (some (.int (i : Int)))).set k (some y)) vs1).set l (some z)) H1 (v i m)) :
    EvL (tLc2 (iEnum K ta) (gTup K 2 (gCons (gName j) (gCons (gName k) gNil))) tYes (iList K til) (gName l) tYes te vs vs1) σ H (given2 (fun i => (ys i).length) v xs.length) := fun H0 e Q q => h H0 e _ fun H1 e1 => ⟨a, xs, rfl, ex_l (e.trans e1) hx, fun Dl hD => by
  have hm := given2_len (fun i => (ys i).length) v
  refine lc2_out (walk_enum (xs := xs)) (fun i H' => Ex H1 H' ∧ H' Dl = some (.lst (given2 (fun i => (ys i).length) v i))) ⟨Ex.new hD, upd_same⟩ (fun _ _ _ p => ex_l p.1 (ex_l (e.trans e1) hx)) (fun i z H2 H' hlt p y' => ?_) (fun H' p => q Dl H' (fresh_back e1 hD) (e1.trans p.1) p.2)
  obtain ⟨T, nn, y, rfl, nT, rfl, hn, hy'⟩ := y'
  obtain rfl : V.int (i : Nat) = nn := Option.some.inj hn
  obtain ⟨p1, p2⟩ := p
  have nTD : Dl ≠ T := ne_of_none p2 nT
  refine ⟨T, _, rfl, st_of upd_same, rfl, _, _, rfl, _, _, rfl, rfl, hw _ _, ?_⟩
  have E2 : Ex H1 (upd H2 T (.tup [.int (i : Nat), y])) := p1.trans (Ex.new nT)
  refine yes_if ?_
  refine hi i y H1 (e.trans e1) hy' _ E2 _ fun L H3 nL e3 hL => ⟨L, rfl, ⟨_, sq_of hL⟩, ?_⟩
  have dD : H3 Dl = some (.lst (given2 (fun i => (ys i).length) v i)) := e3 _ _ (by rw [upd_ne nTD]; exact p2)
  have nLD : Dl ≠ L := fun z => by
    rw [← z, upd_ne nTD, p2] at nL
    cases nL
  refine lc2_in (walk_list (xs := ys i)) (fun m H' => Ex H1 H' ∧ H' Dl = some (.lst (given2 (fun i => (ys i).length) v i ++ (List.range m).map (v i))) ∧ H' L = some (.lst (ys i))) ⟨E2.trans e3, by rw [List.range_zero, List.map_nil, List.append_nil]; exact dD, hL⟩ (fun _ _ _ p => sq_of p.2.2) (fun m z H4 H5 hmlt p y2 => ?_) (fun H' p => ?_)
  · obtain ⟨rfl, hz2⟩ := y2
    obtain ⟨g1, g2, g3⟩ := p
    refine ⟨hw1 _ _ _, ?_⟩
    refine yes_if ?_
    refine he i m y z H1 (e.trans e1) hy' hz2 _ g1 _ fun H6 e6 => ⟨_, e6 _ _ g2, ?_, Ex.mut (g1.trans e6) hD, ?_, ?_⟩
    · have b1 := hm i hy
      have b2 := hy i
      rw [List.length_append, List.length_map, List.length_range, sizeLine_eq]
      have : i * 200 ≤ 200 * 200 := Nat.mul_le_mul_right _ (by omega)
      omega
    · rw [upd_same, List.range_succ, List.map_append, List.append_assoc]
      rfl
    · rw [upd_ne nLD.symm]
      exact e6 _ _ g3
  · refine ⟨p.1, ?_⟩
    rw [given2_succ]
    exact p.2.1⟩
end
theorem pi_listK {X : Cx} {tg e : Expr} {te : TE} (K : PySem.W.Frag) (h : X.K = K) (he : PE X e te) : PI X tg e (iList K te) := h ▸ pi_list he
theorem call_lenK {X : Cx} (K : PySem.W.Frag) (h : X.K = K) : CallR X (.builtin "len") (fun xs H Q => ∃ x n, xs = [x] ∧ LenV K x H n ∧ Q (.int (n : Int)) H) := h ▸ call_len
theorem call_tuple_ofK {X : Cx} (K : PySem.W.Frag) (h : X.K = K) : CallR X (.type "tuple") (fun xs H Q => ∃ p ys, xs = [.ref p] ∧ ((SqL K H p ys ∧ ∀ l, H l = none → Q (.ref l) (upd H l (.tup ys))) ∨ (SqT K H p ys ∧ Q (.ref p) H))) := h ▸ call_tuple_of
end Qt
/-! a slice of a tuple, the whole of it too. -/
namespace Qt
open PySem PySem.Spec PyProof.Rows L2 Evl
section
variable {prog : Program} {w : World} {A : Around} {E : Value → Shared → Prop} {s : Shared}
theorem tup_whole {t sl : Addr} {items : Array Value} {vl vu : Value} {lo hi : Option Int} {Q : Value → Shared → Prop} (ht : IsTup s.heap t items) (hs : s.heap.IsSliceOf sl vl vu .none) (pl : IsPart vl lo) (pu : IsPart vu hi)
    (h1 : HT.sIx items.size 0 lo = 0) (h2 : HT.sIx items.size items.size hi = items.size) (h : Q (.ref t) s) : wpAny (model prog w) A (getItem (.ref t) (.ref sl)) Q E s := by
  obtain ⟨os, hos, hcs, hds⟩ := id hs
  have hTs : s.TypeIs (.ref sl) "slice" := ⟨os, hos, hcs⟩
  unfold getItem
  try with_reducible refine wpAny_holding ?_
  first | refine wpAny_bind (wpAny_pure ?_) | skip
  refine wpAny_bind (wpAny_sequenceKey ht.typeIs (by decide) (wpAny_bind (wpAny_callSpecial?_slot (name := Str.ofString "__getitem__") ht.typeIs PyProof.Rows.slot_tuple_getitem
    (wpAny_call_entry PyProof.Rows.slot_tuple_getitem ht.typeIs PyProof.Rows.entry_tuple_getitem ?_ (PyProof.Rows.args_tuple_getitem _ _)))))
  show wpAny _ _ (Builtin.Tuple.tupleItemsOf (.ref t) >>= _) _ _ s
  refine wpAny_bind (PyProof.Rows.tupleItemsOf_ ht (wpAny_bind (wpAny_typeOf hTs ?_)))
  rw [if_pos (by decide)]
  refine wpAny_bind (HT.sliceApplied_gen hs pl pu ?_)
  have yes : ((((HT.sIx items.size 0 lo : Nat) : Int) == 0 && (1 : Int) == 1 && (HT.sIx items.size items.size hi - HT.sIx items.size 0 lo) == items.size) = true) := by
    rw [h1, h2, Nat.sub_zero]
    simp
  show wpAny _ _ (if (((HT.sIx items.size 0 lo : Nat) : Int) == 0 && (1 : Int) == 1 && (HT.sIx items.size items.size hi - HT.sIx items.size 0 lo) == items.size) = true then _ else _) _ _ s
  rw [if_pos yes]
  refine wpAny_bind ?_
  unfold Builtin.Tuple.tupleIsExact
  refine wpAny_bind (wpAny_typeOf ht.typeIs (wpAny_pure ?_))
  rw [if_pos (by decide)]
  exact wpAny_bind (wpAny_rule (wpAny_pure ⟨_, rfl, wpAny_pure h⟩))
end
/-- t[lo:hi]: a new tuple, or t itself where it is the whole -/
def rSlTW (K : PySem.W.Frag) : V → Option Int → Option Int → Hp → VK → Prop := fun x lo hi H Q => ∃ a xs, x = .ref a ∧ SqT K H a xs ∧
  (HT.sIx xs.length 0 lo = 0 → HT.sIx xs.length xs.length hi = xs.length → Q (.ref a) H) ∧
  (¬ (HT.sIx xs.length 0 lo = 0 ∧ HT.sIx xs.length xs.length hi = xs.length) → ∀ p, H p = none → Q (.ref p) (upd H p (.tup (cutV xs lo hi))))
theorem sl_tupW {X : Cx} : SlR X (rSlTW X.K) := by
  intro pins s σ H x v vl vu lo hi sl Q I rx hs pl pu h
  obtain ⟨a, xs, rfl, hx, q1, q2⟩ := h
  by_cases hw : HT.sIx xs.length 0 lo = 0 ∧ HT.sIx xs.length xs.length hi = xs.length
  · cases rx
    obtain ⟨its, r, ht, hz⟩ := I.tuple hx
    have hlen : its.toArray.size = xs.length := by rw [List.size_toArray]; exact r.length.symm
    refine ⟨"tuple", _, PyProof.Rows.slot_tuple_getitem.lookup, ht.typeIs, tup_whole ht hs pl pu (by rw [hlen]; exact hw.1) (by rw [hlen]; exact hw.2) ?_⟩
    exact ⟨.ref a, H, I, rfl, q1 hw.1 hw.2⟩
  · exact sl_tup pins s σ H (.ref a) v vl vu lo hi sl Q I rx hs pl pu ⟨a, xs, rfl, hx, hw, q2 hw⟩
end Qt
/-! Lists by their value, truth of a text, slices to a bound. -/
namespace Qt
open PySem PySem.Spec PyProof.Rows L2 Evl
section
variable {K : PySem.W.Frag} {σ : L2.St} {H : Hp} {ta tb te tl : TE} {t : TT}
theorem el_is {xs ys : List V} (h : EvL te σ H xs) (e : xs = ys) : EvL te σ H ys := by
  rw [← e]
  exact h
/-- the truth of a text -/
theorem et_str {z : Str} (h : Ev te σ H (.str z)) (hz : z.length ≤ 100000) : EvT (fun σ H Q => te σ H fun x H' => ∃ k, TruV K x H' k ∧ Q k H') σ H ((z.length : Int) != 0) := fun H1 e Q q =>
  h H1 e _ fun H2 e2 => ⟨_, ⟨sz_of hz, rfl⟩, q H2 e2⟩
/-- the truth of a list -/
theorem et_lst {a : Addr} {xs : List V} (h : Ev te σ H (.ref a)) (hx : SqL K H a xs) : EvT (fun σ H Q => te σ H fun x H' => ∃ k, TruV K x H' k ∧ Q k H') σ H (!xs.isEmpty) := fun H1 e Q q =>
  h H1 e _ fun H2 e2 => ⟨_, .inl ⟨xs, ex_l (e.trans e2) hx, rfl⟩, q H2 e2⟩
theorem cut_to {xs : List V} {k : Nat} (h : k ≤ xs.length) : cutV xs none (some (k : Int)) = xs.take k := by
  unfold cutV
  rw [HT.sIx_none, HT.sIx_nat, Nat.min_eq_left h]
  rfl
/-- a slice of a new list -/
theorem el_slN {tlo thi : TO} {xs : List V} {lo hi : Option Int} (h : EvL te σ H xs) (h1 : EvO tlo σ H lo) (h2 : EvO thi σ H hi) : EvL (tSl (rSlL K) te tlo thi) σ H (cutV xs lo hi) := fun H1 e _ q =>
  h H1 e _ fun a H2 na e2 ha => h1 H2 (e.trans e2) _ fun H3 e3 => h2 H3 ((e.trans e2).trans e3) _ fun H4 e4 =>
    ⟨a, xs, rfl, sq_of (e4 _ _ (e3 _ _ ha)), fun p hp => q p _ (fresh_back ((e2.trans e3).trans e4) hp) (((e2.trans e3).trans e4).trans (Ex.new hp)) upd_same⟩
theorem rv_addS {x y : Str} (h : x.length + y.length ≤ 100000) : RV (fun x y H Q => ∃ i j, x = .str i ∧ y = .str j ∧ i.length + j.length ≤ sizeLine ∧ Q (.str (i ++ j)) H) (.str x) (.str y) H (.str (x ++ y)) := fun H1 _ _ q =>
  ⟨x, y, rfl, rfl, sz_of h, q H1 (Ex.refl H1)⟩
theorem rv_mulS {z : Str} {k : Nat} (h1 : k ≤ 1000) (h2 : z.length ≤ 1000) : RV (fun x y H Q => ∃ (z : Str) (k : Nat), x = .str z ∧ y = .int (k : Int) ∧ k ≤ 1000 ∧ z.length ≤ 1000 ∧ Q (.str (repS z k)) H) (.str z) (.int (k : Int)) H (.str (repS z k)) := fun H1 _ _ q =>
  ⟨z, k, rfl, rfl, h1, h2, q H1 (Ex.refl H1)⟩
end
theorem app_len (a b : Str) : (a ++ b).length = a.length + b.length := by
  rw [← len_l, str_app, List.length_append, len_l, len_l]
theorem repS_toList (z : Str) (k : Nat) : (repS z k).cps.toList = (List.replicate k z.cps.toList).flatten := by
  unfold repS
  simp
theorem flat_rep_len {α : Type} (l : List α) (k : Nat) : (List.replicate k l).flatten.length = k * l.length := by
  induction k with
  | zero => simp
  | succ k ih => rw [List.replicate_succ, List.flatten_cons, List.length_append, ih, Nat.succ_mul, Nat.add_comm]
theorem repS_length (z : Str) (k : Nat) : (repS z k).length = k * z.length := by
  rw [← len_l, repS_toList, flat_rep_len, len_l]
theorem flat_rep_get {α : Type} (d : α) (l : List α) (k i : Nat) (h : i < k * l.length) : ((List.replicate k l).flatten).getD i d = l.getD (i % l.length) d := by
  induction k generalizing i with
  | zero => rw [Nat.zero_mul] at h; omega
  | succ k ih =>
    rw [List.replicate_succ, List.flatten_cons]
    rw [Nat.succ_mul] at h
    by_cases hi : i < l.length
    · rw [List.getD_eq_getElem?_getD, List.getElem?_append_left hi, Nat.mod_eq_of_lt hi, ← List.getD_eq_getElem?_getD]
    · rw [List.getD_eq_getElem?_getD, List.getElem?_append_right (by omega), ← List.getD_eq_getElem?_getD, ih _ (by omega), ← Nat.mod_eq_sub_mod (by omega)]
theorem repS_get (z : Str) (k i : Nat) (h : i < k * z.length) : (repS z k).cps.toList.getD i 0 = z.cps.toList.getD (i % z.length) 0 := by
  rw [repS_toList, flat_rep_get 0 _ _ _ (by rw [len_l]; exact h), len_l]
end Qt
/-! min(xs, default=a number); comprehensions of two fors, further. -/
namespace Qt
open PySem PySem.Spec PyProof.Rows L2 Evl
section
variable {P : Program} {w : World} {dv : Value} {A : Around} {E : Value → Shared → Prop} {s : Shared}
abbrev kwE (d : Value) : List (Str × Value) := [(PySem.Str.ofString "default", d)]
theorem min_argsE (a d : Value) : argsOk "min" ⟨[a], kwE d⟩ := by unfold argsOk; kernel_rfl
section
variable {R : Result → Shared → Prop} {I S : Addr} {fp wr : List Addr} {n : Nat} {Pv : Nat → Value → Prop} {St : Nat → Heap → Prop}
theorem minE_loop (W : Walks P w A.in1 I fp wr n Pv St) (bt : Nat → Nat → Bool) (hcmp : CmpOf P w A.in1 .Lt Pv bt) (hSf : S ∉ fp) :
    ∀ (k j : Nat) (s : Shared) (v : Value) (c : Nat), n - (j + 1) = k → j + 1 ≤ n → St (j + 1) s.heap → Pv (argBest bt j) v → s.heap.get? S = some (bestO #[v, v] c) →
    (∀ u h' tk, Pv (argBest bt (n - 1)) u → (∀ b o, b ∉ wr → b ≠ S → s.heap.get? b = some o → h'.get? b = some o) → R (.ok (.ret u)) { s with heap := h', toks := tk }) →
    codeAny (model P w) A (.builtin "min.loop" ⟨[.ref I, .none, .ref S], kwE dv⟩) R s := by
  have out : S ∉ wr := fun h => hSf (W.sub _ h)
  intro k
  induction k with
  | zero =>
    intro j s v c hk hj hst hP hS hR
    have hn : j + 1 = n := by omega
    refine codeAny_builtin F.entry_min_loop ?_
    rw [Around.under_plainId F.plain_min_loop _]
    show wpAny _ A.in1 (seqItems? (.ref S) >>= _) _ _ s
    refine wpAny_bind (wpAny_seqItems hS rfl ?_)
    show wpAny _ A.in1 (tryCatch (pyNext (.ref I)) _ >>= _) _ _ s
    refine wpAny_bind (wpAny_tryCatch (W.done s _ _ (hn ▸ hst) fun h' tk keep => ?_))
    have hS' := keep S _ out hS
    show wpAny _ A.in1 (updateSeq S (fun _ => #[]) >>= _) _ _ _
    refine wpAny_bind (wpAny_updateSeq hS' rfl (wpAny_bind (wpAny_letGo (wpAny_pure (hR v _ tk (by rw [← hn]; exact hP) fun b o b1 b2 e => ?_)))))
    exact (Heap.get?_update_other _ _ (Ne.symm b2)).trans (keep b o b1 e)
  | succ k ih =>
    intro j s v c hk hj hst hP hS hR
    have lt : j + 1 < n := by omega
    refine codeAny_builtin F.entry_min_loop ?_
    rw [Around.under_plainId F.plain_min_loop _]
    show wpAny _ A.in1 (seqItems? (.ref S) >>= _) _ _ s
    refine wpAny_bind (wpAny_seqItems hS rfl ?_)
    show wpAny _ A.in1 (tryCatch (pyNext (.ref I)) _ >>= _) _ _ s
    refine wpAny_bind (wpAny_tryCatch (W.item (j + 1) s _ _ lt hst fun u h' tk hu hst' keep => ?_))
    have hS' := keep S _ out hS
    show wpAny _ A.in1 (tryCatch (holding [u, u] (richCompare .Lt u v >>= _)) _ >>= _) _ _ _
    refine wpAny_bind (wpAny_tryCatch (wpAny_holding (wpAny_bind (hcmp (j + 1) (argBest bt j) u v _ _ _ hu hP (wpAny_bind (wpAny_holding (wpAny_truthy_bool (wpAny_bind (wpAny_letGo (wpAny_pure ?_))))))))))
    cases hb : bt (j + 1) (argBest bt j) with
    | true =>
      simp only [if_true]
      refine wpAny_bind (wpAny_updateSeq hS' rfl (wpAny_bind (wpAny_letGo ?_)))
      rw [min_name]
      refine wpAny_pure ⟨plainId_quiet F.plain_min_loop _, ih (j + 1) _ u _ (by omega) lt (W.frame _ _ _ hst' fun b hbf o e => ?_) (by simp only [argBest, hb, if_true]; exact hu) (Heap.get?_update_self _ hS' rfl) fun u' h2 tk2 hu' keep2 => ?_⟩
      · exact (Heap.get?_update_other _ _ (fun h : S = b => hSf (by rw [h]; exact hbf))).trans e
      · exact hR u' h2 tk2 hu' fun b o b1 b2 e => keep2 b o b1 b2 ((Heap.get?_update_other _ _ (Ne.symm b2)).trans (keep b o b1 e))
    | false =>
      simp only [Bool.false_eq_true, if_false]
      refine wpAny_bind (wpAny_letGo ?_)
      rw [min_name]
      exact wpAny_pure ⟨plainId_quiet F.plain_min_loop _, ih (j + 1) _ v c (by omega) lt hst' (by simp only [argBest, hb, Bool.false_eq_true, if_false]; exact hP) hS' fun u' h2 tk2 hu' keep2 => hR u' h2 tk2 hu' fun b o b1 b2 e => keep2 b o b1 b2 (keep b o b1 e)⟩
theorem minE_first (W : Walks P w A.in1 I fp wr n Pv St) (bt : Nat → Nat → Bool) (hcmp : CmpOf P w A.in1 .Lt Pv bt) (hSf : S ∉ fp) {s : Shared} {c : Nat} (hst : St 0 s.heap) (hS : s.heap.get? S = some (bestO #[] c))
    (h0 : n = 0 → ∀ h' tk, (∀ b o, b ∉ wr → b ≠ S → s.heap.get? b = some o → h'.get? b = some o) → R (.ok (.ret dv)) { s with heap := h', toks := tk })
    (h1 : 0 < n → ∀ u h' tk, Pv (argBest bt (n - 1)) u → (∀ b o, b ∉ wr → b ≠ S → s.heap.get? b = some o → h'.get? b = some o) → R (.ok (.ret u)) { s with heap := h', toks := tk }) :
    codeAny (model P w) A (.builtin "min.loop" ⟨[.ref I, .none, .ref S], kwE dv⟩) R s := by
  have out : S ∉ wr := fun h => hSf (W.sub _ h)
  refine codeAny_builtin F.entry_min_loop ?_
  rw [Around.under_plainId F.plain_min_loop _]
  show wpAny _ A.in1 (seqItems? (.ref S) >>= _) _ _ s
  refine wpAny_bind (wpAny_seqItems hS rfl ?_)
  show wpAny _ A.in1 (tryCatch (pyNext (.ref I)) _ >>= _) _ _ s
  by_cases hn : n = 0
  · refine wpAny_bind (wpAny_tryCatch (W.done s _ _ (hn ▸ hst) fun h' tk keep => ?_))
    refine wpAny_bind (wpAny_rule ?_)
    exact wpAny_pure (h0 hn _ tk fun b o b1 b2 e => keep b o b1 e)
  · refine wpAny_bind (wpAny_tryCatch (W.item 0 s _ _ (by omega) hst fun u h' tk hu hst' keep => ?_))
    have hS' := keep S _ out hS
    show wpAny _ A.in1 (updateSeq S (fun _ => #[u, u]) >>= _) _ _ _
    refine wpAny_bind (wpAny_updateSeq hS' rfl ?_)
    rw [min_name]
    refine wpAny_pure ⟨plainId_quiet F.plain_min_loop _, minE_loop W bt hcmp hSf _ 0 _ u _ rfl (by omega) (W.frame _ _ _ hst' fun b hbf o e => ?_) hu (Heap.get?_update_self _ hS' rfl) fun u' h2 tk2 hu' keep2 => ?_⟩
    · exact (Heap.get?_update_other _ _ (fun h : S = b => hSf (by rw [h]; exact hbf))).trans e
    · exact h1 (by omega) u' h2 tk2 hu' fun b o b1 b2 e => keep2 b o b1 b2 ((Heap.get?_update_other _ _ (Ne.symm b2)).trans (keep b o b1 e))
end
theorem minE_list {l : Addr} {items : Array Value} (val : Nat → Int) (hv : ∀ (i : Nat) (v : Value), items[i]? = some v → ∃ t, v = Value.int (val i) t) {Q : Value → Shared → Prop} (hh : A.handled = none) (hl : s.heap.IsList l items)
    (h0 : items.size = 0 → ∀ h' tk, (∀ b o, s.heap.get? b = some o → h'.get? b = some o) → Q dv { s with heap := h', toks := tk })
    (h1 : 0 < items.size → ∀ t h' tk, (∀ b o, s.heap.get? b = some o → h'.get? b = some o) → Q (.int (val (argBest (fun i j => decide (val i < val j)) (items.size - 1))) t) { s with heap := h', toks := tk }) :
    wpAny (model P w) A (call (.builtin "min") [.ref l] (kwE dv)) Q E s := by
  obtain ⟨ol, hol, _⟩ := id hl
  have hll : l < s.heap.objs.size := Heap.lt_size hol
  refine kmk_tree F.kind_min F.plain_min F.entry_min (min_argsE _ _) ?_
  show wpAny _ A.in1 (Builtin.Builtins.bindParams "min" ["key", "default"] 0 ⟨[], kwE dv⟩ >>= _) _ _ s
  refine wpAny_bind (wpAny_of_eq (show Builtin.Builtins.bindParams "min" ["key", "default"] 0 ⟨[], kwE dv⟩ = pure [none, some dv] from rfl) ?_)
  refine wpAny_bind (wpAny_pure (wpAny_bind (wpAny_pyIter_list hl (wpAny_bind (wpAny_newList ?_ (Nat.zero_le _))))))
  rw [min_name]
  have hz : (s.heap.push { cls := .type "list_iterator", data := .fields #[.ref l, .int 0 0] }).objs.size = s.heap.objs.size + 1 := Heap.size_push ..
  have hlI : l ≠ s.heap.objs.size := Nat.ne_of_lt hll
  have kept : ∀ {h' : Heap}, (∀ b o, b ∉ [s.heap.objs.size] → b ≠ (s.heap.push { cls := .type "list_iterator", data := .fields #[.ref l, .int 0 0] }).objs.size →
      ((s.heap.push { cls := .type "list_iterator", data := .fields #[.ref l, .int 0 0] }).push (seqObj "list" #[] 0)).get? b = some o → h'.get? b = some o) → ∀ b o, s.heap.get? b = some o → h'.get? b = some o := by
    intro h' k b o e
    have hb := Heap.lt_size e
    refine k b o (by rw [List.mem_singleton]; exact Nat.ne_of_lt hb) (by rw [hz]; exact Nat.ne_of_lt (Nat.lt_succ_of_lt hb)) (Heap.get?_push_of_some _ (Heap.get?_push_of_some _ e))
  refine wpAny_pure ⟨plainId_quiet F.plain_min_loop _, minE_first (Walks.list (A := A.in1) (by simp [hh]) s.heap.objs.size l hlI items) (fun i j => decide (val i < val j)) (CmpOf.ints_lt val hv) (fun z => ?_) ⟨⟨_, Heap.get?_push_of_some _ (Heap.get?_push_size _ rfl), rfl, rfl⟩, (hl.push _).push _⟩ (Heap.get?_push_size _ rfl) (fun hn h' tk k => ?_) (fun hn u h' tk hu k => ?_)⟩
  · rcases List.mem_cons.mp z with z | z
    · rw [hz] at z
      exact absurd z (Nat.ne_of_gt (Nat.lt_succ_self _))
    · rw [hz] at z
      exact absurd (List.mem_singleton.mp z) (Nat.ne_of_gt (Nat.lt_succ_of_lt hll))
  · exact h0 hn h' tk (kept k)
  · obtain ⟨t, rfl⟩ := hv _ _ hu
    exact h1 hn t h' tk (kept k)
end
section
variable {X : Cx}
/-- min(xs, default=a number) -/
def rMinE (K : PySem.W.Frag) : List V → List V → Hp → VK → Prop := fun vs zs H Q => ∃ (a : Addr) (ns : List Int), vs = [.ref a] ∧ (∃ z0, zs = [.int z0] ∧ (ns = [] → Q (.int z0) H)) ∧ SqL K H a (ns.map V.int) ∧ ∀ m, m ∈ ns → (∀ k ∈ ns, m ≤ k) → Q (.int m) H
theorem cr_minE (hc : X.calm = true) : CallRK X (.builtin "min") [PySem.Str.ofString "default"] (rMinE X.K) := by
  intro pins s σ H vs zs us ws Q I r rz h
  obtain ⟨a, ns, rfl, ⟨z0, rfl, q0⟩, hs, q1⟩ := h
  rw [Vals.ref1 r]
  obtain ⟨w1, rfl, e1⟩ := vals1 rz
  obtain ⟨t1, rfl⟩ := e1
  obtain ⟨its, rv, hl, _⟩ := I.list hs
  have hlen : its.toArray.size = ns.length := by rw [List.size_toArray, ← rv.length, List.length_map]
  refine minE_list (fun i => ns.getD i 0) (fun i v hv => ?_) (I.ok.hd hc) hl.isList (fun hn h' tk k => ?_) fun hn t h' tk k => ?_
  · have hi : i < ns.length := by rw [← hlen]; exact (Array.getElem?_eq_some_iff.mp hv).1
    obtain ⟨u, hu, ru⟩ := rv.get (i := i) (x := .int (ns.getD i 0)) (by rw [List.getElem?_map, List.getElem?_eq_getElem hi, List.getD_eq_getElem?_getD, List.getElem?_eq_getElem hi]; rfl)
    have hv' : its[i]? = some v := by simpa using hv
    rw [hu] at hv'
    cases hv'
    exact ru
  · exact ⟨.int z0, H, I.kept (t' := tk) k, ⟨_, rfl⟩, q0 (List.eq_nil_of_length_eq_zero (by omega))⟩
  · obtain ⟨b1, b2⟩ := argBest_lt (fun i => ns.getD i 0) (its.toArray.size - 1)
    refine ⟨.int _, H, I.kept (t' := tk) k, ⟨t, rfl⟩, q1 _ ?_ fun z hz => ?_⟩
    · have hi : argBest (fun i j => decide (ns.getD i 0 < ns.getD j 0)) (its.toArray.size - 1) < ns.length := by omega
      rw [List.getD_eq_getElem?_getD, List.getElem?_eq_getElem hi]
      exact List.getElem_mem hi
    · obtain ⟨j, hj, rfl⟩ := List.getElem_of_mem hz
      have := b2 j (by omega)
      rw [List.getD_eq_getElem?_getD (i := j), List.getElem?_eq_getElem hj] at this
      exact this
end
section
variable {K : PySem.W.Frag} {σ : L2.St} {H : Hp} {te til tl : TE} {ta : TA}
theorem given2_lenB (m : Nat → Nat) (v : Nat → Nat → V) (i B : Nat) (h : ∀ a, m a ≤ B) : (given2 m v i).length ≤ i * B := by
  induction i with
  | zero => simp [given2]
  | succ i ih =>
    rw [given2_succ, List.length_append, List.length_map, List.length_range, Nat.succ_mul]
    have := h i
    omega
/-- for x in xs for s in a text, no test -/
theorem el_lc2LS {a : Addr} {xs : List V} {z : Str} {j l : Nat} {vs vs1 : List Nat} (v : Nat → Nat → V) (h : Ev tl σ H (.ref a)) (hx : SqL K H a xs) (hz : xs.length ≤ 5000) (hy : z.length ≤ 10)
    (hw : ∀ x, wipe ((wipe σ vs).set j (some x)) vs = wipe σ vs)
    (hw1 : ∀ x s, wipe ((wipe ((wipe σ vs).set j (some x)) vs1).set l (some s)) vs1 = wipe ((wipe σ vs).set j (some x)) vs1)
    (hi : ∀ (i : Nat) y H1, Ex H H1 → xs[i]? = some y → Ev til ((wipe σ vs).set j (some y)) H1 (.str z))
    (he : ∀ (i m : Nat) y H1, Ex H H1 → xs[i]? = some y → m < z.length → Ev te ((wipe ((wipe σ vs).set j (some y)) vs1).set l (some (sg z m))) H1 (v i m)) :
    EvL (tLc2 (iList K tl) (gName j) tYes (iStr til) (gName l) tYes te vs vs1) σ H (given2 (fun _ => z.length) v xs.length) := fun H0 e Q q => h H0 e _ fun H1 e1 => ⟨a, rfl, ⟨xs, ex_l (e.trans e1) hx⟩, fun Dl hD => by
  have hm := fun i => given2_lenB (fun _ => z.length) v i 10 (fun _ => hy)
  refine lc2_out (walk_list (xs := xs)) (fun i H' => Ex H1 H' ∧ H' Dl = some (.lst (given2 (fun _ => z.length) v i))) ⟨Ex.new hD, upd_same⟩ (fun _ _ _ p => ex_l p.1 (ex_l (e.trans e1) hx)) (fun i y H2 H' hlt p y' => ?_) (fun H' p => q Dl H' (fresh_back e1 hD) (e1.trans p.1) p.2)
  obtain ⟨rfl, hy'⟩ := y'
  obtain ⟨p1, p2⟩ := p
  refine ⟨hw _, ?_⟩
  refine yes_if ?_
  refine hi i y H1 (e.trans e1) hy' _ p1 _ fun H3 e3 => ⟨z, rfl, ?_⟩
  refine lc2_in (walk_str (z := z)) (fun m H' => Ex H1 H' ∧ H' Dl = some (.lst (given2 (fun _ => z.length) v i ++ (List.range m).map (v i)))) ⟨p1.trans e3, by rw [List.range_zero, List.map_nil, List.append_nil]; exact e3 _ _ p2⟩ (fun _ _ _ p => trivial) (fun m s H4 H5 hmlt p y2 => ?_) (fun H' p => ?_)
  · obtain ⟨rfl, c, hc, rfl⟩ := y2
    obtain ⟨g1, g2⟩ := p
    have hml : m < z.length := hmlt
    refine ⟨hw1 _ _, ?_⟩
    refine yes_if ?_
    rw [sg_of hc]
    refine he i m y H1 (e.trans e1) hy' hml _ g1 _ fun H6 e6 => ⟨_, e6 _ _ g2, ?_, Ex.mut (g1.trans e6) hD, ?_⟩
    · have b1 := hm i
      rw [List.length_append, List.length_map, List.length_range, sizeLine_eq]
      omega
    · rw [upd_same, List.range_succ, List.map_append, List.append_assoc]
      rfl
  · refine ⟨p.1, ?_⟩
    rw [given2_succ]
    exact p.2⟩
/-- for i in range(lo, n) for x in a new list, no test -/
theorem el_lc2RL {lo n : Int} {ys : Nat → List V} {j l : Nat} {vs vs1 : List Nat} (v : Nat → Nat → V) (h : EvA ta σ H [.int lo, .int n]) (hn : 0 ≤ lo ∧ lo ≤ 1000 ∧ n ≤ lo + 40 ∧ -1000 ≤ n) (hy : ∀ i, (ys i).length ≤ 2000)
    (hw : ∀ x, wipe ((wipe σ vs).set j (some x)) vs = wipe σ vs)
    (hw1 : ∀ x s, wipe ((wipe ((wipe σ vs).set j (some x)) vs1).set l (some s)) vs1 = wipe ((wipe σ vs).set j (some x)) vs1)
    (hi : ∀ (i : Nat) H1, Ex H H1 → lo + (i : Int) < n → EvL til ((wipe σ vs).set j (some (.int (lo + (i : Int))))) H1 (ys i))
    (he : ∀ (i m : Nat) z H1, Ex H H1 → lo + (i : Int) < n → (ys i)[m]? = some z → Ev te ((wipe ((wipe σ vs).set j (some (.int (lo + (i : Int))))) vs1).set l (some z)) H1 (v i m)) :
    EvL (tLc2 (iRng2 ta) (gName j) tYes (iList K til) (gName l) tYes te vs vs1) σ H (given2 (fun i => (ys i).length) v (n - lo).toNat) := fun H0 e Q q => h H0 e _ fun H1 e1 => ⟨lo, n, rfl, by omega, fun Dl hD => by
  have hm := fun i => given2_lenB (fun i => (ys i).length) v i 2000 hy
  refine lc2_out (walk_range (lo := lo) (n := (n - lo).toNat)) (fun i H' => Ex H1 H' ∧ H' Dl = some (.lst (given2 (fun i => (ys i).length) v i))) ⟨Ex.new hD, upd_same⟩ (fun _ _ _ p => trivial) (fun i y H2 H' hlt p y' => ?_) (fun H' p => q Dl H' (fresh_back e1 hD) (e1.trans p.1) p.2)
  obtain ⟨rfl, rfl⟩ := y'
  obtain ⟨p1, p2⟩ := p
  have hlt' : lo + (i : Int) < n := by omega
  refine ⟨hw _, ?_⟩
  refine yes_if ?_
  refine hi i H1 (e.trans e1) hlt' _ p1 _ fun L H3 nL e3 hL => ⟨L, rfl, ⟨_, sq_of hL⟩, ?_⟩
  have dD := e3 _ _ p2
  have nLD : Dl ≠ L := fun z => by
    rw [← z, p2] at nL
    cases nL
  refine lc2_in (walk_list (xs := ys i)) (fun m H' => Ex H1 H' ∧ H' Dl = some (.lst (given2 (fun i => (ys i).length) v i ++ (List.range m).map (v i))) ∧ H' L = some (.lst (ys i))) ⟨p1.trans e3, by rw [List.range_zero, List.map_nil, List.append_nil]; exact dD, hL⟩ (fun _ _ _ p => sq_of p.2.2) (fun m z H4 H5 hmlt p y2 => ?_) (fun H' p => ?_)
  · obtain ⟨rfl, hz2⟩ := y2
    obtain ⟨g1, g2, g3⟩ := p
    refine ⟨hw1 _ _, ?_⟩
    refine yes_if ?_
    refine he i m z H1 (e.trans e1) hlt' hz2 _ g1 _ fun H6 e6 => ⟨_, e6 _ _ g2, ?_, Ex.mut (g1.trans e6) hD, ?_, ?_⟩
    · have b1 := hm i
      have b2 := hy i
      rw [List.length_append, List.length_map, List.length_range, sizeLine_eq]
      have : i ≤ 40 := by omega
      omega
    · rw [upd_same, List.range_succ, List.map_append, List.append_assoc]
      rfl
    · rw [upd_ne nLD.symm]
      exact e6 _ _ g3
  · refine ⟨p.1, ?_⟩
    rw [given2_succ]
    exact p.2.1⟩
end
section
variable {X : Cx} {o e : Expr} {to te : TE}
theorem pe_joinK {apos pos : Pos} (K : PySem.W.Frag) (h : X.K = K) (ho : PE X o to) (he : PE X e te) (hs : starEach [e] X.env = [(false, eval e X.env)] := by rfl) (hbase : attributeBase o "join" X.env (eval o X.env) = eval o X.env := by rfl) (hline : (apos.endLine == pos.line) = true := by rfl) :
    PE X (.Call (.Attribute o "join" apos) [e] [] pos) (tM1 (fun x xs H Q => ∃ a p, ∃ ys : List Str, x = .str a ∧ xs = [.ref p] ∧ (SqL K H p (ys.map V.str) ∨ SqT K H p (ys.map V.str)) ∧
      (ys.map (·.length)).sum + ys.length * a.length ≤ 16777216 ∧ Q (.str (Txt.join a ys)) H) to te) := by
  subst h
  exact pe_join ho he hs hbase hline
end
end Qt
/-! Lists of texts as data; min with a default as a value; lists put together. -/
namespace Qt
open PySem PySem.Spec PyProof.Rows L2 Evl
theorem dp_texts {K : PySem.W.Frag} {H : Hp} : ∀ l : List Str, DpAll K H (l.map V.str) (l.map PyData.str)
  | [] => .nil
  | i :: r => .cons (.str i) (dp_texts r)
def lowS (z : Str) : Prop := ∀ c ∈ z.cps.toList, c < 256
theorem strOk_low {z : Str} (h : lowS z) : PyData.strOk z = true := by
  unfold PyData.strOk
  rw [Array.all_eq_true_iff_forall_mem]
  intro c hc
  have := h c (Array.mem_toList_iff.mpr hc)
  simp only [decide_eq_true_eq]
  omega
theorem shaped_texts {l : List Str} (h : ∀ z ∈ l, lowS z) : SeqAt.shaped (.list (l.map PyData.str)) = true := shaped_list fun d hd => by
  obtain ⟨z, hz, rfl⟩ := List.mem_map.mp hd
  exact ⟨strOk_low (h z hz), by show 0 ≤ 10; omega⟩
theorem mem_getDL {α : Type} {l : List α} {i : Nat} {d : α} (h : i < l.length) : l.getD i d ∈ l := by
  rw [List.getD_eq_getElem?_getD, List.getElem?_eq_getElem h]
  exact List.getElem_mem h
theorem range_map_getD {α β : Type} (l : List α) (d : α) (g : α → β) : (List.range l.length).map (fun i => g (l.getD i d)) = l.map g := by
  apply List.ext_getElem
  · simp
  · intro i h1 h2
    simp only [List.length_map] at h2
    simp [List.getD_eq_getElem?_getD, List.getElem?_eq_getElem h2]
theorem range_flat_getD {α β : Type} (l : List α) (d : α) (g : α → List β) : (List.range l.length).flatMap (fun i => g (l.getD i d)) = l.flatMap g := by
  rw [List.flatMap_def, List.flatMap_def, range_map_getD l d g]
/-- what a comprehension over a list with a test gives -/
theorem given_filter {α : Type} (l : List α) (d : α) (p : α → Bool) (g : α → V) : given l.length (fun i => p (l.getD i d)) (fun i => g (l.getD i d)) = (l.filter p).map g := by
  have e : l = (List.range l.length).map (fun i => l.getD i d) := by
    have z := range_map_getD l d id
    rw [List.map_id] at z
    exact z.symm
  have f : l.filter p = ((List.range l.length).filter (fun i => p (l.getD i d))).map (fun i => l.getD i d) := by
    conv => lhs; rw [e]
    rw [List.filter_map]
    rfl
  rw [f, List.map_map]
  rfl
section
variable {K : PySem.W.Frag} {σ : L2.St} {H : Hp} {te ta tb : TE}
theorem ev_minE {ns : List Int} {d : Int} (h : EvL te σ H (ns.map V.int)) : Ev (tCKw (rMinE K) (tCons te tNil) (tCons (tC (.int d)) tNil)) σ H (.int (ns.min?.getD d)) := fun H1 e Q q =>
  h H1 e _ fun p H2 np e2 h2 => ⟨p, ns, rfl, ⟨d, rfl, fun h0 => by
    have z := q H2 e2
    rw [h0] at z
    exact z⟩, sq_of h2, fun m hm hle => by
    have z := q H2 e2
    rw [List.min?_eq_some_iff.mpr ⟨hm, hle⟩] at z
    exact z⟩
theorem ev_minL {ns : List Int} {d : Int} (h : EvL te σ H (ns.map V.int)) (hn : ns ≠ []) : Ev (tCB (rMin K) (tCons te tNil)) σ H (.int (ns.min?.getD d)) := fun H1 e Q q =>
  h H1 e _ fun p H2 np e2 h2 => ⟨p, ns, rfl, sq_of h2, List.length_pos_iff.mpr hn, fun m hm hle => by
    have z := q H2 e2
    rw [List.min?_eq_some_iff.mpr ⟨hm, hle⟩] at z
    exact z⟩
theorem rc_min2 {i j : Int} : RC (fun xs H Q => ∃ i j, xs = [V.int i, V.int j] ∧ Q (.int (if j < i then j else i)) H) [.int i, .int j] H (.int (if j < i then j else i)) := fun H1 _ _ q => ⟨i, j, rfl, q H1 (Ex.refl H1)⟩
theorem el_catV {a : Addr} {xs ys : List V} (ha : Ev ta σ H (.ref a)) (hx : H a = some (.lst xs)) (hb : EvL tb σ H ys) (hz : xs.length + ys.length ≤ 100000) : EvL (tOp rCat ta tb) σ H (xs ++ ys) := fun H1 e Q q =>
  ha H1 e _ fun H2 e2 => hb H2 (e.trans e2) _ fun b H3 nb e3 h3 => ⟨a, b, xs, ys, rfl, rfl, e3 _ _ (e2 _ _ (e _ _ hx)), h3, sz_of hz, fun l hl => q l _ (fresh_back (e2.trans e3) hl) ((e2.trans e3).trans (Ex.new hl)) upd_same⟩
/-- != of a list of texts and an empty list -/
theorem rv_neNil {a b : Addr} {l : List Str} (ha : SqL K H a (l.map V.str)) (hb : SqL K H b []) (hl : ∀ z ∈ l, lowS z) : RV (rNeD K) (.ref a) (.ref b) H (.bl (!l.isEmpty)) := fun H1 e Q q =>
  ⟨.list (l.map PyData.str), .list [], .lst (ex_l e ha) (dp_texts _), .lst (ex_l e hb) .nil, shaped_texts hl, by decide +kernel, by
    have z : PyData.eqv (.list (l.map PyData.str)) (.list []) = l.isEmpty := by
      cases l with
      | nil => exact SeqAt.eqv_refl _ rfl
      | cons x r => rfl
    rw [z]
    exact q H1 (Ex.refl H1)⟩
end
end Qt
/-! zip of a text and a list; list of a text; enumerate of a list or a tuple. -/
namespace Qt
open PySem PySem.Spec PyProof.Rows L2 Evl
/-- the signs of a text beside the items of a list, in new pairs -/
def Itzm (K : PySem.W.Frag) (x : Str) (b : Addr) : It := ⟨fun i H => ∃ ys, SqL K H b ys ∧ i < min x.cps.size ys.length,
  fun i H v H' => ∃ (T : Addr) (c : Nat) (y : V), v = .ref T ∧ H T = none ∧ H' = upd H T (.tup [.str ⟨#[c]⟩, y]) ∧ x.cps[i]? = some c ∧ ∀ ys, SqL K H b ys → ys[i]? = some y, fun i H => ∃ ys, SqL K H b ys ∧ i = min x.cps.size ys.length⟩
def AtZipM (x : Str) (t : Tok) (b z TI TO i1 i2 : Addr) (i : Nat) (h : Heap) : Prop := IsZip h z TI TO .none ∧ IsTupOf2 h TI (.ref i1) (.ref i2) ∧ (∃ a1 a2, IsTupOf2 h TO a1 a2) ∧ h.IsStrIter i1 (strIterType x) x t i ∧ h.IsListIter i2 b i
theorem turn_zipM {P : Program} {w : World} {K : PySem.W.Frag} {elts : List Expr} {kk : Nat} {tpos : Pos} {x : Str} {t : Tok} {b z TI TO i1 i2 : Addr} (D : ZipSep2 z TI TO i1 i2 [i1] [i2, b]) (hb2 : b ≠ i2) :
    Turn P w K (.Tuple elts kk tpos) (Itzm K x b) [z, TI, TO, i1, i2] z (fun i h => AtZipM x t b z TI TO i1 i2 i h) where
  mem := by simp
  obj := fun i h st c hc => by
    obtain ⟨hz, hTI, ⟨a, b, hTO⟩, ⟨o1, e1, _, d1⟩, ⟨o2, e2, _, d2⟩⟩ := st
    have e' : c = z ∨ c = TI ∨ c = TO ∨ c = i1 ∨ c = i2 := by simpa using hc
    rcases e' with q | q | q | q | q
    · rw [q]; exact ⟨_, hz, fun v q => nomatch q⟩
    · rw [q]; exact ⟨_, hTI, fun v q => nomatch q⟩
    · rw [q]; exact ⟨_, hTO, fun v q => nomatch q⟩
    · rw [q]; exact ⟨o1, e1, fun v q => by rw [d1] at q; cases q⟩
    · rw [q]; exact ⟨o2, e2, fun v q => by rw [d2] at q; cases q⟩
  keep := fun i h h' st k => by
    obtain ⟨hz, hTI, ⟨a, b, hTO⟩, ⟨o1, e1, r1⟩, h2⟩ := st
    exact ⟨k z (by simp) _ hz, k TI (by simp) _ hTI, ⟨a, b, k TO (by simp) _ hTO⟩, ⟨o1, k i1 (by simp) _ e1, r1⟩, h2.at fun o q => k i2 (by simp) o q⟩
  item := by
    intro X hP hw hK hc i pins s σ H E I hf st hg
    subst hP hw hK
    obtain ⟨ys, hq, hlt⟩ := hg
    obtain ⟨its, rv, p, _⟩ := I.list hq
    have hlen := rv.length
    have W := WalksT.zipD2 D (Draws.text (prog := X.prog) (w := X.w) (A := X.A.in1) (I.ok.hd hc) i1 x t) (Draws.list (prog := X.prog) (w := X.w) (A := X.A.in1) (I.ok.hd hc) i2 b hb2 its.toArray)
    have live : ∀ c ∈ [z, TI, TO, i1, i2], c < s.heap.objs.size := fun c hb => by
      obtain ⟨hz, hTI, ⟨a, b', hTO⟩, ⟨o1, e1, _, d1⟩, ⟨o2, e2, _, d2⟩⟩ := st
      have e' : c = z ∨ c = TI ∨ c = TO ∨ c = i1 ∨ c = i2 := by simpa using hb
      rcases e' with q | q | q | q | q
      · rw [q]; exact Heap.lt_size hz
      · rw [q]; exact Heap.lt_size hTI
      · rw [q]; exact Heap.lt_size hTO
      · rw [q]; exact Heap.lt_size e1
      · rw [q]; exact Heap.lt_size e2
    obtain ⟨s1, s2, s3, s4, s5⟩ := st
    refine W.item i s _ _ (by simp only [List.size_toArray]; omega) ⟨s1, s2, s3, s4, s5, p.isList⟩ fun T vals h' tk hp hT ht hm hk => ?_
    obtain ⟨v1, v2, ⟨c, t1, hcx, rfl⟩, hdy, rfl⟩ := hp
    have hiy : i < ys.length := by omega
    obtain ⟨u, hu, ru⟩ := rv.get (i := i) (x := ys[i]) (by rw [List.getElem?_eq_getElem hiy])
    obtain rfl : u = v2 := by
      have z : its[i]? = some v2 := by simpa using hdy
      rw [hu] at z
      exact Option.some.inj z
    refine ⟨.ref T, rfl, W.go elts kk tpos i T { s with heap := h', toks := tk } _ _ hm fun h'' hst hk2 => ?_⟩
    obtain ⟨oT, hT1, hT2, nT, hT3⟩ := ht
    have nT' : T ∉ [z, TO, i1, i2] := W.apart i T _ hm
    have hT4 : h''.get? T = some oT := hk2 T oT nT' hT1
    have new : ObjOk X.prog X.w (upd H T (.tup [.str ⟨#[c]⟩, ys[i]])) h'' T (.tup [.str ⟨#[c]⟩, ys[i]]) :=
      ⟨by show 2 ≤ sizeLine; decide, [.str ⟨#[c]⟩ t1, u], .cons ⟨_, rfl⟩ (.cons ru .nil), ⟨_, hT4, hT2, _, hT3⟩⟩
    have sub : ∀ b, b ∉ [z, TI, TO, i1, i2] → b ∉ [z, TO, i1, i2] := fun b hb h => hb (by
      have e' : b = z ∨ b = TO ∨ b = i1 ∨ b = i2 := by simpa using h
      rcases e' with q | q | q | q <;> simp [q])
    have I1 : Inv X pins σ (upd H T (.tup [.str ⟨#[c]⟩, ys[i]])) { s with heap := h'', toks := tk } :=
      I.turnedNew (ch := [z, TI, TO, i1, i2]) (fun b ob hb q => hk2 b ob (sub b hb) (hk b ob (sub b hb) q)) hf hT new
    obtain ⟨r1, r2, r3, r4, r5, _⟩ := hst
    refine ⟨.ref T, _, I1, rfl, ⟨T, c, ys[i], rfl, I.hok.fresh hT, rfl, hcx, fun l hl => by rw [I.list_inj hl hq, List.getElem?_eq_getElem hiy]⟩, ⟨r1, r2, r3, r4, r5⟩, fun b hb => ?_⟩
    rw [upd_ne (Nat.ne_of_lt (Nat.lt_of_lt_of_le (live b hb) hT))]
    exact (hf b hb).1
  done := by
    intro X hP hw hK hc i pins s σ H E I hf st hg
    subst hP hw hK
    obtain ⟨ys, hq, hi⟩ := hg
    obtain ⟨its, rv, p, _⟩ := I.list hq
    have hlen := rv.length
    have W := WalksT.zipD2 D (Draws.text (prog := X.prog) (w := X.w) (A := X.A.in1) (I.ok.hd hc) i1 x t) (Draws.list (prog := X.prog) (w := X.w) (A := X.A.in1) (I.ok.hd hc) i2 b hb2 its.toArray)
    obtain ⟨s1, s2, s3, s4, s5⟩ := st
    have e : min x.cps.size its.toArray.size = i := by simp only [List.size_toArray]; omega
    have sub : ∀ b, b ∉ [z, TI, TO, i1, i2] → b ∉ [z, TO, i1, i2] := fun b hb h => hb (by
      have e' : b = z ∨ b = TO ∨ b = i1 ∨ b = i2 := by simpa using h
      rcases e' with q | q | q | q <;> simp [q])
    rw [← e] at s4 s5
    exact W.done s _ _ ⟨s1, s2, s3, s4, s5, p.isList⟩ fun h' tk hk => ⟨rfl, I.turnedL (t' := tk) (ch := [z, TI, TO, i1, i2]) (fun c o hb q => hk c o (sub c hb) q) hf⟩
  self := fun A i s Q E st h => wpAny_pyIter_zip st.1 h
def iZipM (K : PySem.W.Frag) (ta : TA) : TI := fun σ H R => ta σ H fun vs H1 => ∃ x b ys, vs = [.str x, .ref b] ∧ SqL K H1 b ys ∧ R (Itzm K x b) H1
theorem pi_zipM {X : Cx} {e e2 : Expr} {ta : TA} {p pos tpos : Pos} {elts : List Expr} {kk : Nat} (hg : Gl X "zip") (hm : X.mg "zip" = none) (ha : PA X [e, e2] ta)
    (hs : starEach [e, e2] X.env = (false, eval e X.env) :: starEach [e2] X.env := by rfl) (hpl : (backTo pos (starEach [e2] X.env)).any (·.1) = false := by rfl) :
    PI X (.Tuple elts kk tpos) (.Call (.Name "zip" p) [e, e2] [] pos) (iZipM X.K ta) := by
  refine ⟨fun pins s σ H R I h => ?_⟩
  refine Call_ (ld_blt I hg hm PyProof.Rows.boot_zip (PyProof.Rows.callWith_type1 (thn (ha.run pos pins s σ H _ I h) fun us s1 hh => ?_) hs hpl))
  obtain ⟨vs, H1, I1, r1, x, b, ys, ex, hq, q⟩ := hh
  subst ex
  cases r1 with
  | cons r rr =>
    cases rr with
    | cons r' rr =>
      cases rr
      cases r'
      obtain ⟨t, rfl⟩ := r
      obtain ⟨its, rv, pl, _⟩ := I1.list hq
      have hbl : b < s1.heap.objs.size := by
        obtain ⟨o, ho, _⟩ := pl.isList
        exact Heap.lt_size ho
      refine zip_begins2 (begins_text x t) (begins_list b its.toArray) trivial pl.isList fun h' hz hTI hTO g1 g2 hsz hk => wpAny_pyIter_zip hz ?_
      have I2 : Inv X pins σ H1 { s1 with heap := h' } := I1.kept (t' := s1.toks) hk
      have D : ZipSep2 (s1.heap.objs.size + 4) (s1.heap.objs.size + 2) (s1.heap.objs.size + 3) s1.heap.objs.size (s1.heap.objs.size + 1) [s1.heap.objs.size] [s1.heap.objs.size + 1, b] := by
        generalize hn : s1.heap.objs.size = n at hbl ⊢
        have nb : ∀ k : Nat, (n + k : Nat) ≠ b := fun k z => by
          have hb : n + k < n := by rw [z]; exact hbl
          omega
        constructor
        · show (n + 2 : Nat) ≠ n + 4; omega
        · show (n + 3 : Nat) ≠ n + 4; omega
        · show (n + 2 : Nat) ≠ n + 3; omega
        · show (n + 2 : Nat) ≠ n; omega
        · exact List.mem_cons_self
        · intro h; have := List.mem_singleton.mp h; exact absurd this (show (n + 4 : Nat) ≠ n by omega)
        · intro h; have := List.mem_singleton.mp h; exact absurd this (show (n + 3 : Nat) ≠ n by omega)
        · show (n + 2 : Nat) ≠ n + 1; omega
        · exact List.mem_cons_self
        · intro h
          rcases List.mem_cons.mp h with h | h
          · exact absurd h (show (n + 4 : Nat) ≠ n + 1 by omega)
          · exact absurd (List.mem_singleton.mp h) (nb 4)
        · intro h
          rcases List.mem_cons.mp h with h | h
          · exact absurd h (show (n + 3 : Nat) ≠ n + 1 by omega)
          · exact absurd (List.mem_singleton.mp h) (nb 3)
        · intro h
          rcases List.mem_cons.mp h with h | h
          · exact absurd h (show (n : Nat) ≠ n + 1 by omega)
          · exact absurd (List.mem_singleton.mp h) (nb 0)
        · intro h; have := List.mem_singleton.mp h; exact absurd this (show (n + 1 : Nat) ≠ n by omega)
      refine ⟨s1.heap.objs.size + 4, [s1.heap.objs.size + 4, s1.heap.objs.size + 2, s1.heap.objs.size + 3, s1.heap.objs.size, s1.heap.objs.size + 1], _, _, H1, rfl, I2, turn_zipM (x := x) (t := t) D (Nat.ne_of_lt (Nat.lt_succ_of_lt hbl)), ⟨hz, hTI, ⟨_, _, hTO⟩, ⟨_, g1, rfl, rfl⟩, ⟨_, g2, rfl, rfl⟩⟩, fun c hcm => ?_, q⟩
      have e' : c = s1.heap.objs.size + 4 ∨ c = s1.heap.objs.size + 2 ∨ c = s1.heap.objs.size + 3 ∨ c = s1.heap.objs.size ∨ c = s1.heap.objs.size + 1 := by simpa using hcm
      have hle : s1.heap.objs.size ≤ c := by
        rcases e' with z | z | z | z | z
        · rw [z]; exact Nat.le_add_right _ _
        · rw [z]; exact Nat.le_add_right _ _
        · rw [z]; exact Nat.le_add_right _ _
        · rw [z]; exact Nat.le_refl _
        · rw [z]; exact Nat.le_add_right _ _
      exact I1.fpOk hle (I1.hok.fresh hle)
theorem walk_zipM {K : PySem.W.Frag} {x : Str} {b : Addr} {ys : List V} {n : Nat} (hn : n = min x.length ys.length) :
    Walk (Itzm K x b) n (fun H => SqL K H b ys) (fun i H v H' => ∃ (T : Addr) (c : Nat) (y : V), v = .ref T ∧ H T = none ∧ H' = upd H T (.tup [.str ⟨#[c]⟩, y]) ∧ x.cps[i]? = some c ∧ ys[i]? = some y) := by
  subst hn
  refine ⟨fun i _ hi q => ⟨ys, q, hi⟩, fun _ q => ⟨ys, q, rfl⟩, fun i H v H' _ q y => ?_⟩
  obtain ⟨T, c, y, h1, h2, h3, h4, h5⟩ := y
  exact ⟨T, c, y, h1, h2, h3, h4, h5 ys q⟩
/-- list(text) -/
theorem call_list_text {X : Cx} (hc : X.calm = true) : CallR X (.type "list") (fun xs H Q => ∃ z : Str, xs = [.str z] ∧ z.length ≤ 100000 ∧ ∀ l, H l = none → Q (.ref l) (upd H l (.lst (z.cps.toList.map fun c => V.str ⟨#[c]⟩)))) := by
  intro pins s σ H xs us Q I r h
  obtain ⟨z, rfl, hz, q⟩ := h
  obtain ⟨u, rfl, t, rfl⟩ := vals1 r
  refine call_list_str (I.ok.hd hc) z t (hn := sz_of (by unfold Str.length at hz; exact hz)) fun h' tk acc' c' kp e hacc => ?_
  have hv : Vals (z.cps.toList.map fun c => V.str ⟨#[c]⟩) acc'.toList := by
    have g : ∀ (cs : List Nat) (vs : List Value), vs.length = cs.length → (∀ (j : Nat) (v : Value), vs[j]? = some v → ∃ c u, cs[j]? = some c ∧ v = Value.str ⟨#[c]⟩ u) → Vals (cs.map fun c => V.str ⟨#[c]⟩) vs := by
      intro cs
      induction cs with
      | nil =>
        intro vs hl _
        rw [List.length_nil] at hl
        rw [List.eq_nil_of_length_eq_zero hl]
        exact .nil
      | cons c cs ih =>
        intro vs hl hv
        cases vs with
        | nil => cases hl
        | cons v vs =>
          obtain ⟨c', u, h1, h2⟩ := hv 0 v rfl
          have h1' : c = c' := Option.some.inj h1
          subst h1' h2
          exact .cons ⟨u, rfl⟩ (ih vs (by simpa using hl) fun j v hj => hv (j + 1) v hj)
    refine g _ _ (by rw [Array.length_toList, Array.length_toList]; exact hacc.1) fun j v hj => ?_
    obtain ⟨c, u, h1, h2⟩ := hacc.2 j v (by rw [← Array.getElem?_toList]; exact hj)
    exact ⟨c, u, by rw [Array.getElem?_toList]; exact h1, h2⟩
  refine ⟨.ref s.heap.objs.size, _, I.laid (t' := tk) kp (Nat.le_refl _) (show ObjOk X.prog X.w _ h' _ (.lst _) from ⟨?_, acc'.toList, c', hv, by simpa using e⟩), rfl, q _ (I.hok.fresh (Nat.le_refl _))⟩
  rw [List.length_map, Array.length_toList]
  exact sz_of (by unfold Str.length at hz; exact hz)
end Qt
/-! enumerate of a list or a tuple. -/
namespace Qt
open PySem PySem.Spec PyProof.Rows L2 Evl
/-- enumerate of what begins so, from 0 -/
theorem meets_enum0 {v : Value} {o : Obj} {Hh : Heap → Prop} (B : Begins v o Hh) :
    Meets (Builtin.«enumerate.__new__» ⟨[.type "enumerate", v], []⟩) (fun _ R s => Hh s.heap ∧
      R (.ok (.ret (.ref (s.heap.push o).objs.size))) { s with heap := (s.heap.push o).push { cls := .type "enumerate", data := .fields #[.none, .bool false, .ref s.heap.objs.size, rawInt 0, .none, .none] } }) :=
  .of_wp fun prog w A R s h => by
    obtain ⟨hp, g, d, tk, os⟩ := s
    obtain ⟨h1, h⟩ := h
    have hsub := sub_enumerate
    have go : ∀ {A' : Around} {E Q : Value → Shared → Prop}, Q (.ref hp.objs.size) ⟨hp.push o, g, d, tk, os⟩ → wpAny (model prog w) A' (pyIter v) Q E ⟨hp, g, d, tk, os⟩ :=
      fun q => B.iter prog w _ _ ⟨hp, g, d, tk, os⟩ _ h1 q
    wp_walk using go
    refine wpAny_stack_any fun st => wpAny_pure ?_
    split
    · rename_i cc _ _ _ _ _
      cases (cc == Value.type "enumerate") <;>
      · wp_walk using go
        exact ⟨_, rfl, h⟩
    · wp_walk using go
      exact ⟨_, rfl, h⟩
section
variable {prog : Program} {w : World} {A : Around} {E : Value → Shared → Prop} {s : Shared}
theorem call_enum0 {v : Value} {o : Obj} {Hh : Heap → Prop} {Q : Value → Shared → Prop} (B : Begins v o Hh) (h1 : Hh s.heap)
    (h : ∀ h', IsEnum h' (s.heap.objs.size + 1) s.heap.objs.size 0 .none → h'.get? s.heap.objs.size = some o → (∀ b o, s.heap.get? b = some o → h'.get? b = some o) → Q (.ref (s.heap.objs.size + 1)) { s with heap := h' }) :
    wpAny (model prog w) A (call (.type "enumerate") [v]) Q E s := by
  refine callType_new F.called_enumerate (by decide) (F.typeCall_enumerate_1 _) (F.newCall_enumerate_1 _) (fun obj => F.args_object_init_2 obj _) F.entry_enumerate_new (meets_enum0 B) ⟨h1, ?_⟩
  have hz : (s.heap.push o).objs.size = s.heap.objs.size + 1 := Heap.size_push ..
  show _ ∧ _
  rw [hz]
  have he : IsEnum ((s.heap.push o).push { cls := .type "enumerate", data := .fields #[.none, .bool false, .ref s.heap.objs.size, rawInt 0, .none, .none] }) (s.heap.objs.size + 1) s.heap.objs.size 0 .none := by
    have z := Heap.get?_push_size (s.heap.push o) (o := { cls := .type "enumerate", data := .fields #[.none, .bool false, .ref s.heap.objs.size, rawInt 0, .none, .none] }) rfl
    rw [hz] at z
    exact z
  exact ⟨⟨_, he, rfl⟩, h _ he (Heap.get?_push_of_some _ (Heap.get?_push_size _ B.free)) fun b o x => Heap.get?_push_of_some _ (Heap.get?_push_of_some _ x)⟩
end
/-- the items of a tuple with their numbers, in new pairs -/
def Itet (K : PySem.W.Frag) (a : Addr) : It := ⟨fun i H => ∃ (xs : List V) (x : V), SqT K H a xs ∧ xs[i]? = some x,
  fun i H v H' => ∃ (T : Addr) (x : V), v = .ref T ∧ H T = none ∧ H' = upd H T (.tup [.int (i : Nat), x]) ∧ ∀ xs, SqT K H a xs → xs[i]? = some x, fun i H => ∃ xs : List V, SqT K H a xs ∧ xs.length = i⟩
def AtEnumT (a e it : Addr) (i : Nat) (h : Heap) : Prop := (∃ old, IsEnum h e it ((i : Nat) : Int) old) ∧ h.IsTupleIter it a i
theorem isTuple_of {h : Heap} {t : Addr} {items : Array Value} (p : IsTup h t items) : h.IsTuple t items := by
  obtain ⟨o, h1, h2, n, h3⟩ := p
  exact ⟨o, h1, h2, n, h3⟩
theorem turn_enumT {P : Program} {w : World} {K : PySem.W.Frag} {elts : List Expr} {kk : Nat} {tpos : Pos} {a e it : Addr} (hne : e ≠ it) (hai : a ≠ it) (hae : e ≠ a) :
    Turn P w K (.Tuple elts kk tpos) (Itet K a) [e, it] e (fun i h => AtEnumT a e it i h) where
  mem := by simp
  obj := fun i h st b hb => by
    obtain ⟨⟨old, he⟩, o, ho, hc, hd⟩ := st
    have e' : b = e ∨ b = it := by simpa using hb
    rcases e' with z | z
    · rw [z]; exact ⟨_, he, fun v q => nomatch q⟩
    · rw [z]; exact ⟨o, ho, fun v q => by rw [hd] at q; cases q⟩
  keep := fun i h h' st k => by
    obtain ⟨⟨old, he⟩, o, ho, r⟩ := st
    exact ⟨⟨old, k e (by simp) _ he⟩, o, k it (by simp) o ho, r⟩
  item := by
    intro X hP hw hK hc i pins s σ H E I hf st hg
    subst hP hw hK
    obtain ⟨xs, x, hq, hx⟩ := hg
    obtain ⟨its, rv, p, _⟩ := I.tuple hq
    obtain ⟨u, hu, ru⟩ := rv.get hx
    have hlen := rv.length
    have hix : i < xs.length := (List.getElem?_eq_some_iff.mp hx).1
    obtain ⟨⟨old, he⟩, hit⟩ := st
    have hel : e < s.heap.objs.size := Heap.lt_size he
    have hil : it < s.heap.objs.size := by obtain ⟨_, q, _⟩ := hit; exact Heap.lt_size q
    have W := WalksT.enumerateD (Draws.tuple (prog := X.prog) (w := X.w) (A := X.A.in1) (I.ok.hd hc) it a hai its.toArray) e hne (by simp only [List.mem_cons, List.not_mem_nil, or_false, not_or]; exact ⟨hne, hae⟩) (by simp)
    refine W.item i s _ _ (by simp only [List.size_toArray]; omega) ⟨⟨old, he⟩, hit, isTuple_of p⟩ fun T vals h' tk hp hT ht hm hk => ?_
    obtain ⟨tt, v, hv, rfl⟩ := hp
    obtain rfl : u = v := by
      have z : its[i]? = some v := by simpa using hv
      rw [hu] at z
      exact Option.some.inj z
    refine ⟨.ref T, rfl, W.go elts kk tpos i T { s with heap := h', toks := tk } _ _ hm fun h'' hst hk2 => ?_⟩
    obtain ⟨oT, hT1, hT2, nT, hT3⟩ := ht
    have nT' : T ∉ [e, it] := W.apart i T _ hm
    have hT4 : h''.get? T = some oT := hk2 T oT nT' hT1
    have new : ObjOk X.prog X.w (upd H T (.tup [.int (i : Nat), x])) h'' T (.tup [.int (i : Nat), x]) :=
      ⟨by show 2 ≤ sizeLine; decide, [.int i tt, u], .cons ⟨_, rfl⟩ (.cons ru .nil), ⟨_, hT4, hT2, _, hT3⟩⟩
    have I1 : Inv X pins σ (upd H T (.tup [.int (i : Nat), x])) { s with heap := h'', toks := tk } :=
      I.turnedNew (ch := [e, it]) (fun b ob hb q => hk2 b ob hb (hk b ob hb q)) hf hT new
    obtain ⟨w1, w2, _⟩ := hst
    refine ⟨.ref T, _, I1, rfl, ⟨T, x, rfl, I.hok.fresh hT, rfl, fun l hl => by rw [I.tuple_inj hl hq]; exact hx⟩, ⟨w1, w2⟩, fun b hb => ?_⟩
    have hb' : b < s.heap.objs.size := by
      have e' : b = e ∨ b = it := by simpa using hb
      rcases e' with z | z
      · rw [z]; exact hel
      · rw [z]; exact hil
    rw [upd_ne (Nat.ne_of_lt (Nat.lt_of_lt_of_le hb' hT))]
    exact (hf b hb).1
  done := by
    intro X hP hw hK hc i pins s σ H E I hf st hg
    subst hP hw hK
    obtain ⟨xs, hq, hi⟩ := hg
    obtain ⟨its, rv, p, _⟩ := I.tuple hq
    have hlen := rv.length
    obtain ⟨⟨old, he⟩, hit⟩ := st
    obtain ⟨f0, f1, f2, f3, f4, f5⟩ := hf it (by simp)
    have D := Draws.tuple (prog := X.prog) (w := X.w) (A := X.A.in1) (I.ok.hd hc) it a hai its.toArray
    have hsz : its.toArray.size = i := by simp only [List.size_toArray]; omega
    rw [← hsz] at hit
    exact wpAny_pyNext_enum_endD D he ⟨hit, isTuple_of p⟩ fun h' eb => ⟨rfl, I.turned (t' := s.toks) (fun b o hb q => eb b o hb q) f0 f1 f3 f4 f5⟩
  self := fun A i s Q E st h => let ⟨⟨_, he⟩, _⟩ := st; wpAny_pyIter_enum he h
def iEnumA (K : PySem.W.Frag) (ta : TA) : TI := fun σ H R => ta σ H fun vs H1 => ∃ a xs, vs = [.ref a] ∧ ((SqL K H1 a xs ∧ R (Ite K a) H1) ∨ (SqT K H1 a xs ∧ R (Itet K a) H1))
theorem pi_enumA {X : Cx} {e : Expr} {ta : TA} {p pos tpos : Pos} {elts : List Expr} {kk : Nat} (hg : Gl X "enumerate") (hm : X.mg "enumerate" = none) (ha : PA X [e] ta) (hs : starEach [e] X.env = [(false, eval e X.env)] := by rfl) :
    PI X (.Tuple elts kk tpos) (.Call (.Name "enumerate" p) [e] [] pos) (iEnumA X.K ta) := by
  refine ⟨fun pins s σ H R I h => ?_⟩
  refine Call_ (ld_blt I hg hm boot_enumerate (PyProof.Rows.callWith_type1 (thn (ha.run pos pins s σ H _ I h) fun us s1 hh => ?_) hs rfl))
  obtain ⟨vs, H1, I1, r1, a, xs, ex, hq⟩ := hh
  subst ex
  cases r1 with
  | cons r rr =>
    cases rr
    cases r
    rcases hq with ⟨hq, q⟩ | ⟨hq, q⟩
    · obtain ⟨its, rv, p', hz⟩ := I1.list hq
      refine call_enumerate_list p'.isList fun h' he hit hsz hk => wpAny_pyIter_enum he ?_
      have I2 : Inv X pins σ H1 { s1 with heap := h' } := I1.kept (t' := s1.toks) hk
      refine ⟨s1.heap.objs.size + 1, [s1.heap.objs.size + 1, s1.heap.objs.size], _, _, H1, rfl, I2, turn_enum a (s1.heap.objs.size + 1) s1.heap.objs.size, ⟨⟨.none, he⟩, hit, Nat.succ_ne_self _⟩, fun b hb => ?_, q⟩
      have e' : b = s1.heap.objs.size + 1 ∨ b = s1.heap.objs.size := by simpa using hb
      have hle : s1.heap.objs.size ≤ b := by
        rcases e' with z | z
        · rw [z]; exact Nat.le_add_right _ _
        · rw [z]; exact Nat.le_refl _
      exact I1.fpOk hle (I1.hok.fresh hle)
    · obtain ⟨its, rv, p', hz⟩ := I1.tuple hq
      have hal : a < s1.heap.objs.size := by
        obtain ⟨o, ho, _⟩ := id p'
        exact Heap.lt_size ho
      refine call_enum0 (begins_tuple a its.toArray) (isTuple_of p') fun h' he g1 hk => wpAny_pyIter_enum he ?_
      have I2 : Inv X pins σ H1 { s1 with heap := h' } := I1.kept (t' := s1.toks) hk
      refine ⟨s1.heap.objs.size + 1, [s1.heap.objs.size + 1, s1.heap.objs.size], _, _, H1, rfl, I2, turn_enumT (a := a) (Nat.succ_ne_self _) (Nat.ne_of_lt hal) (Nat.ne_of_gt (Nat.lt_succ_of_lt hal)), ⟨⟨.none, he⟩, ⟨_, g1, rfl, rfl⟩⟩, fun b hb => ?_, q⟩
      have e' : b = s1.heap.objs.size + 1 ∨ b = s1.heap.objs.size := by simpa using hb
      have hle : s1.heap.objs.size ≤ b := by
        rcases e' with z | z
        · rw [z]; exact Nat.le_add_right _ _
        · rw [z]; exact Nat.le_refl _
      exact I1.fpOk hle (I1.hok.fresh hle)
theorem walk_enumT {K : PySem.W.Frag} {a : Addr} {xs : List V} : Walk (Itet K a) xs.length (fun H => SqT K H a xs) (YPair (fun i => some (.int (i : Nat))) (fun i => xs[i]?)) := by
  refine ⟨fun i _ hi q => ⟨xs, xs[i], q, by simp [hi]⟩, fun _ q => ⟨xs, q, rfl⟩, fun i H v H' _ q y => ?_⟩
  obtain ⟨T, x, h1, h2, h3, h4⟩ := y
  exact ⟨T, .int (i : Nat), x, h1, h2, h3, rfl, h4 xs q⟩
/-- a list or a tuple of these -/
def SqA (K : PySem.W.Frag) (H : Hp) (a : Addr) (xs : List V) : Prop := H a = some (.lst xs) ∨ H a = some (.tup xs)
theorem SqA.ex {K : PySem.W.Frag} {H H1 : Hp} {a : Addr} {xs : List V} (h : SqA K H a xs) (e : Ex H H1) : SqA K H1 a xs := h.imp (e _ _) (e _ _)
/-- a for over enumerate of either -/
theorem q_forEA {K : PySem.W.Frag} {σ : L2.St} {H : Hp} {ta : TA} {tu tz : TS} {D : Ends} {a : Addr} {xs : List V} {j k : Nat} (h : EvA ta σ H [.ref a]) (hx : SqA K H a xs) (Pv : Nat → L2.St → Hp → Prop) (h0 : ∀ H1, Ex H H1 → Pv 0 σ H1) (hl : ∀ i σ' H', i ≤ xs.length → Pv i σ' H' → Ex H H')
    (hs : ∀ i x σ' H' T, xs[i]? = some x → Pv i σ' H' → H' T = none → tu { D with nx := Pv (i + 1), ct := Pv (i + 1), bk := tz D } ((σ'.set j (some (.int (i : Int)))).set k (some x)) (upd H' T (.tup [.int (i : Int), x]))) (hd : ∀ σ' H', Pv xs.length σ' H' → tz D σ' H') :
    tSeq (tFor (iEnumA K ta) (gTup K 2 (gCons (gName j) (gCons (gName k) gNil))) tu) tz D σ H := h H (Ex.refl H) _ fun H1 e1 => by
  rcases hx with hx | hx
  · refine ⟨a, xs, rfl, .inl ⟨sq_of (e1 _ _ hx), ?_⟩⟩
    refine for_it (D := { D with nx := tz D }) (walk_enum (xs := xs)) Pv (h0 H1 e1) (fun i σ' H' hi p => sq_of (hl i σ' H' hi p _ _ hx)) (fun i x σ' H2 H' hi p y => ?_) hd
    obtain ⟨T, nn, y, rfl, nT, rfl, hn, hy⟩ := y
    obtain rfl : V.int (i : Nat) = nn := Option.some.inj hn
    exact ⟨T, _, rfl, st_of upd_same, rfl, _, _, rfl, _, _, rfl, rfl, hs i y σ' H2 T hy p nT⟩
  · refine ⟨a, xs, rfl, .inr ⟨st_of (e1 _ _ hx), ?_⟩⟩
    refine for_it (D := { D with nx := tz D }) (walk_enumT (xs := xs)) Pv (h0 H1 e1) (fun i σ' H' hi p => st_of (hl i σ' H' hi p _ _ hx)) (fun i x σ' H2 H' hi p y => ?_) hd
    obtain ⟨T, nn, y, rfl, nT, rfl, hn, hy⟩ := y
    obtain rfl : V.int (i : Nat) = nn := Option.some.inj hn
    exact ⟨T, _, rfl, st_of upd_same, rfl, _, _, rfl, _, _, rfl, rfl, hs i y σ' H2 T hy p nT⟩
/-- a for over zip of a text and a list -/
theorem q_forZM {K : PySem.W.Frag} {σ : L2.St} {H : Hp} {ta : TA} {tu tz : TS} {D : Ends} {x : Str} {b : Addr} {ys : List V} {j k : Nat} (h : EvA ta σ H [.str x, .ref b]) (hx : ∀ H1, Ex H H1 → SqL K H1 b ys) (hn : ys.length = x.length) (Pv : Nat → L2.St → Hp → Prop) (h0 : ∀ H1, Ex H H1 → Pv 0 σ H1)
    (hl : ∀ i σ' H', i ≤ x.length → Pv i σ' H' → SqL K H' b ys)
    (hs : ∀ i y σ' H' T, i < x.length → ys[i]? = some y → Pv i σ' H' → H' T = none → tu { D with nx := Pv (i + 1), ct := Pv (i + 1), bk := tz D } ((σ'.set j (some (sg x i))).set k (some y)) (upd H' T (.tup [sg x i, y]))) (hd : ∀ σ' H', Pv x.length σ' H' → tz D σ' H') :
    tSeq (tFor (iZipM K ta) (gTup K 2 (gCons (gName j) (gCons (gName k) gNil))) tu) tz D σ H := h H (Ex.refl H) _ fun H1 e1 => by
  refine ⟨x, b, ys, rfl, hx H1 e1, ?_⟩
  refine for_it (D := { D with nx := tz D }) (walk_zipM (K := K) (x := x) (ys := ys) (n := x.length) (by omega)) Pv (h0 H1 e1) hl (fun i v σ' H2 H' hi p y => ?_) hd
  obtain ⟨T, c, y, rfl, nT, rfl, hc, hy⟩ := y
  rw [sg_of hc]
  exact ⟨T, _, rfl, st_of upd_same, rfl, _, _, rfl, _, _, rfl, rfl, hs i y σ' H2 T hi hy p nT⟩
/-- the same, the last statement -/
theorem s_forEA {K : PySem.W.Frag} {σ : L2.St} {H : Hp} {ta : TA} {tu : TS} {D : Ends} {a : Addr} {xs : List V} {j k : Nat} (h : EvA ta σ H [.ref a]) (hx : SqA K H a xs) (Pv : Nat → L2.St → Hp → Prop) (h0 : ∀ H1, Ex H H1 → Pv 0 σ H1) (hl : ∀ i σ' H', i ≤ xs.length → Pv i σ' H' → Ex H H')
    (hs : ∀ i x σ' H' T, xs[i]? = some x → Pv i σ' H' → H' T = none → tu { D with nx := Pv (i + 1), ct := Pv (i + 1), bk := D.nx } ((σ'.set j (some (.int (i : Int)))).set k (some x)) (upd H' T (.tup [.int (i : Int), x]))) (hd : ∀ σ' H', Pv xs.length σ' H' → D.nx σ' H') :
    tFor (iEnumA K ta) (gTup K 2 (gCons (gName j) (gCons (gName k) gNil))) tu D σ H := q_forEA (tz := fun D σ H => D.nx σ H) h hx Pv h0 hl hs hd
end Qt
/-! Calls of what an expression gives; errors with one field. -/
namespace Qt
open PySem PySem.Spec PyProof.Rows L2 Evl
section
variable {X : Cx} {fe e : Expr} {es : List Expr} {pos : Pos} {tf : TE} {t : TA} {CX : CXT}
/-- fs[i](..): the value is one of some defs -/
def tCallE (tf : TE) (Cd : Addr → Sp → Prop) (E : L2.St → XK) (t : TA) : TE := fun σ H Q => tf σ H fun v H1 => ∃ f sp, v = .ref f ∧ Cd f sp ∧ t σ H1 fun vs H2 => sp vs H2 Q (E σ)
theorem pe_callES {Cd : Addr → Sp → Prop} {E : L2.St → XK} {j : Nat} (hr : Room j X.A) (hf : PE X fe tf) (hC : ∀ f sp, Cd f sp → PySem.W.keepIn X.K (.ref f) = true ∧ ∃ k fd ps, k ≤ j ∧ FnOk X.prog X.w X.K X.mg X.base CX k f fd ps sp ∧ Binds X.K fd ps []) (hx : ∀ σ, PassesAt CX X σ (E σ)) (ha : PA X (e :: es) t)
    (he : starEach (e :: es) X.env = (false, eval e X.env) :: starEach es X.env := by rfl) (hpl : (backTo pos (starEach es X.env)).any (·.1) = false := by rfl)
    (hc : eval (.Call fe (e :: es) [] pos) X.env = (do callWith pos (← eval fe X.env) [] (backTo pos (starEach (e :: es) X.env)) (backToKw pos (keywordEach [] X.env))) := by rfl) : PE X (.Call fe (e :: es) [] pos) (tCallE tf Cd E t) := by
  refine ⟨fun pins s σ H Q I h => ?_⟩
  refine Call_ (he := hc) (thn (hf.run pins s σ H _ I h) fun u s1 hh => ?_)
  obtain ⟨v, H1, I1, r1, f, sp, rfl, hd, q⟩ := hh
  obtain rfl : u = Value.ref f := r1
  obtain ⟨hk, k, fd, ps, hkj, F, hb⟩ := hC f sp hd
  refine PySem.W.callWith_K (h₀ := X.base) I1.ok.mod.kin hk (thn (ha.run pos pins s1 σ H1 _ I1 q) fun us s2 hh2 => ?_) he hpl
  obtain ⟨vs, H2, I2, r, q2⟩ := hh2
  exact ⟨I2.kIn, run_fnS F (hr.mono hkj) hb (hx σ) I2 r q2⟩
end
/-- what stands behind an error with one field that was made and raised -/
theorem raisedF {fn : Str} {H1 H2 : Hp} {a d CN : Addr} {v : V} (na : H1 a = none) (e : Ex (upd H1 a (exo a CN none)) H2) (nd : H2 d = none) (ne : d ≠ a) :
    H1 d = none ∧ Ex H1 (upd (del (upd (upd H2 d (exd d [(fn, v)])) a (exo a CN (some d))) a) d (.xd [(fn, v)])) := by
  have d0 : H1 d = none := by
    have z := fresh_back e nd
    rwa [upd_ne ne] at z
  refine ⟨d0, fun b o hb => ?_⟩
  have h1 : b ≠ a := ne_of_none hb na
  rw [upd_ne (ne_of_none hb d0), del_ne h1, upd_ne h1, upd_ne (ne_of_none hb d0)]
  exact e b o (by rw [upd_ne h1]; exact hb)
/-- an __init__ that keeps its one argument -/
def spInitF (K : PySem.W.Frag) (fn : Str) (C : Addr) : Sp := fun vs H Q _ => ∃ a v, vs = [.ref a, v] ∧ H a = some (exo a C none) ∧
  ∀ d H2, Ex H H2 → H2 d = none → d ≠ a → Q .non (upd (upd H2 d (exd d [(fn, v)])) a (exo a C (some d)))
end Qt
/-! A range kept in a name; a written dict with ints as keys. -/
namespace Qt
open PySem PySem.Spec PyProof.Rows L2 Evl
section
variable {X : Cx} {tg : Expr}
theorem cr_range1 : CallR X (.type "range") (fun vs H Q => ∃ j, vs = [V.int j] ∧ ∀ p, H p = none → Q (.ref p) (upd H p (.rng 0 j))) := by
  intro pins s σ H vs us Q I r h
  obtain ⟨j, rfl, q⟩ := h
  cases r with
  | cons rj rr =>
    cases rr
    obtain ⟨u, rfl⟩ := rj
    refine call_range_1 ⟨.ref s.heap.objs.size, upd H s.heap.objs.size (.rng 0 j), I.laid (t' := s.toks + 1 + 1) (fun b o e => Heap.get?_push_of_some _ e) (Nat.le_refl _) ?_, rfl, q _ (I.hok.fresh (Nat.le_refl _))⟩
    exact ⟨_, u, _, Heap.get?_push_size _ rfl⟩
def iRngV (te : TE) : TI := fun σ H R => te σ H fun x H1 => ∃ (a : Addr) (lo hi : Int), x = .ref a ∧ H1 a = some (.rng lo hi) ∧ -(2 ^ 62) ≤ lo ∧ lo < 2 ^ 62 ∧ -(2 ^ 62) ≤ hi ∧ hi < 2 ^ 62 ∧ R (Itr lo (hi - lo).toNat) H1
theorem pi_rng {l : Expr} {te : TE} (hl : PE X l te) : PI X tg l (iRngV te) := by
  refine ⟨fun pins s σ H R I h => ?_⟩
  refine thn (hl.run pins s σ H _ I h) fun v s1 ⟨x, H1, I1, r1, q1⟩ => ?_
  obtain ⟨a, lo, hi, e, ha, h1, h2, h3, h4, q⟩ := q1
  subst e
  cases r1
  obtain ⟨t, u, k, ho⟩ := I1.hok a _ ha
  refine wpAny_pyIter_range (show IsRange s1.heap a lo hi 1 t u k from ho) (small_one h1 h2 h3 h4) ?_
  refine ⟨s1.heap.objs.size, [s1.heap.objs.size], _, _, H1, rfl, I1.kept (t' := s1.toks) fun b o e => Heap.get?_push_of_some _ e, turn_range _ lo (hi - lo).toNat, ?_, fun b hb => ?_, q⟩
  · have e1 : lo + ((0 : Nat) : Int) * 1 = lo := by simp
    have e2 : (((hi - lo).toNat : Nat) : Int) - ((0 : Nat) : Int) = Builtin.Range.rangeSize lo hi 1 := by rw [rangeSize_one]; split <;> omega
    show IsRangeIter _ _ (lo + ((0 : Nat) : Int) * 1) ((((hi - lo).toNat : Nat) : Int) - ((0 : Nat) : Int)) 1
    rw [e1, e2]
    exact Heap.get?_push_size _ rfl
  · have e : b = s1.heap.objs.size := by simpa using hb
    subst e
    exact I1.fpOk (Nat.le_refl _) (I1.hok.fresh (Nat.le_refl _))
end
/-- keys that are ints -/
def KeysInt : List DictEntry → Prop
  | [] => True
  | e :: r => (∃ k t, e.key = .int k t ∧ e.hash = hashInt k) ∧ KeysInt r
theorem KeysInt.all : ∀ {l : List DictEntry}, KeysInt l → ∀ e ∈ l, ∃ k t, e.key = .int k t ∧ e.hash = hashInt k
  | _ :: _, ⟨h, _⟩, _, .head _ => h
  | _ :: _, ⟨_, r⟩, _, .tail _ m => r.all _ m
def KDctI (K : PySem.W.Frag) (p : Addr) (i : Int) (v : V) : Prop := ∃ es n u, K.lookup p = some ⟨.type "dict", none, .dict es n, #[]⟩ ∧ KeysInt es.toList ∧ findBy Value.isInt es i = some u ∧ RelV v u
def rIxDI (K : PySem.W.Frag) : R2 := fun x y H Q => ∃ p i v, x = .ref p ∧ y = .int i ∧ KDctI K p i v ∧ Q v H
section
variable {X : Cx}
theorem ix_kdictI : IxR X (rIxDI X.K) := by
  intro value slice pins s σ H x y v u Q I rx ry h hs
  obtain ⟨p, i, r, rfl, rfl, ⟨es, n, u0, hl, hk, e, ru⟩, q⟩ := h
  obtain rfl : v = Value.ref p := rx
  obtain ⟨t, rfl⟩ := ry
  have hm : s.heap.MapOf (intKind X.prog X.w) p (fun k => findBy Value.isInt es k) := ⟨_, es, n, I.kIn _ _ hl, ⟨rfl, rfl, rfl⟩, rfl, fun e he => by
    obtain ⟨k, t, e1, e2⟩ := hk.all e (Array.mem_toList_iff.mpr he)
    exact ⟨k, by rw [e1]; show Value.isInt k (.int k t) = true; simp [Value.isInt], e2⟩, fun _ => rfl⟩
  exact tail_any hm.typeIs slot_dict_getitem.lookup (wpAny_getItem_of (show (intKind X.prog X.w).is i (.int i t) = true from by show Value.isInt i (.int i t) = true; simp [Value.isInt]) hm e ⟨r, H, I.tok _, ru, q⟩) hs
end
end Qt
/-! Lists of pairs; long lists. -/
namespace Qt
open PySem PySem.Spec PyProof.Rows L2 Evl
section
variable {K : PySem.W.Frag} {σ : L2.St} {H : Hp} {ta te tl : TE} {D : Ends}
theorem s_appUB {l : Addr} {xs ys : List V} (hl : H l = some (.lst xs)) (ha : Ev ta σ H (.ref l)) (h : EvU te σ H ys) (hz : xs.length < sizeLine) (k : ∀ p H1, H p = none → Ex H H1 → H1 p = some (.tup ys) → D.nx σ (upd H1 l (.lst (xs ++ [.ref p])))) :
    tDrop (tBM K "list" rAppend ta (tCons te tNil)) D σ H := ha H (Ex.refl H) _ fun H1 e1 =>
  ⟨Or.inl ⟨rfl, xs, sq_of (e1 l _ hl)⟩, h H1 e1 _ fun p H2 hp e2 h2 => ⟨l, xs, .ref p, rfl, rfl, e2 l _ (e1 l _ hl), hz, k p H2 (fresh_back e1 hp) (e1.trans e2) h2⟩⟩
/-- the first of each pair of a list, made anew -/
theorem el_lcP {a : Addr} {xs : List V} {j k : Nat} {vs : List Nat} (f g v : Nat → V) (h : Ev tl σ H (.ref a)) (hx : SqL K H a xs) (hp : ∀ i x, xs[i]? = some x → ∃ t, x = .ref t ∧ SqT K H t [f i, g i]) (hz : xs.length < sizeLine)
    (hw : ∀ a b, wipe (((wipe σ vs).set j (some a)).set k (some b)) vs = wipe σ vs)
    (he : ∀ (i : Nat) H1, Ex H H1 → i < xs.length → Ev te (((wipe σ vs).set j (some (f i))).set k (some (g i))) H1 (v i)) :
    EvL (tLc (iList K tl) (gTup K 2 (gCons (gName j) (gCons (gName k) gNil))) tYes te vs) σ H ((List.range xs.length).map v) := fun H0 e Q q => h H0 e _ fun H1 e1 => ⟨a, rfl, ⟨xs, ex_l (e.trans e1) hx⟩, fun Dl hD => by
  refine lc_it (walk_list (xs := xs)) (fun i H' => Ex H1 H' ∧ H' Dl = some (.lst ((List.range i).map v))) ⟨Ex.new hD, upd_same⟩ (fun _ _ _ p => ex_l p.1 (ex_l (e.trans e1) hx)) (fun i z H2 H' hi p y' => ?_) (fun H' p => ?_)
  · obtain ⟨rfl, hy⟩ := y'
    obtain ⟨p2, p3⟩ := p
    obtain ⟨t, rfl, ht⟩ := hp i z hy
    refine ⟨t, _, rfl, ex_t p2 (ex_t (e.trans e1) ht), rfl, _, _, rfl, _, _, rfl, rfl, hw _ _, ?_⟩
    refine yes_if ?_
    refine he i H' ((e.trans e1).trans p2) hi _ (Ex.refl _) _ fun H4 e4 => ⟨_, e4 _ _ p3, by rw [List.length_map, List.length_range]; omega, Ex.mut (p2.trans e4) hD, ?_⟩
    rw [upd_same, List.range_succ, List.map_append]
    rfl
  · exact q Dl H' (fresh_back e1 hD) (e1.trans p.1) p.2⟩
end
theorem putK_new {κ : Type} [DecidableEq κ] {kvs : List (κ × V)} {k : κ} {v : V} (h : valV kvs k = none) : putK kvs k v = kvs ++ [(k, v)] := by
  unfold putK
  rw [valV_any, h]
  rfl
end Qt
namespace Qt
open PySem PySem.Spec PyProof.Rows L2 Evl
/-- an own class whose instances have these fields -/
structure OwnC (K : PySem.W.Frag) (mg : Str → Option Value) (x : Str) (C f : Addr) (zs : List Str) : Prop where
  m : mg x = some (.ref C)
  cl : Cls K C
  mks : Mk K C f
  na : ∀ z ∈ zs, NoAttr K C z
structure OwnAt (K : PySem.W.Frag) (x : Str) (C f : Addr) (zs : List Str) : Prop where
  m : PySem.W.nsIn K mainGlobals x = some (some (.ref C))
  pg : PySem.W.plainGet K C Str.empty = true
  hd : PySem.W.hasDictIn K C = true
  po : PySem.W.plainOver K C = true
  sa : PySem.W.findIn K (.ref C) "__setattr__" = some (some (.builtin "object.__setattr__"))
  mks : PySem.W.makesIn K C = true
  it : PySem.W.findIn K (.ref C) "__init__" = some (some (.ref f))
  fn : PySem.W.isFn K (.ref f) = true
  kp : PySem.W.keepIn K (.ref C) = true
  na : ∀ z ∈ zs, PySem.W.findIn K (.ref C) z = some none
theorem OwnAt.own {K : PySem.W.Frag} {h : Heap} {mg : Str → Option Value} {x : Str} {C f : Addr} {zs : List Str} (X : K.In h) (G : h.Ns mainGlobals mg) (A : OwnAt K x C f zs) : OwnC K mg x C f zs :=
  ⟨PySem.W.mg_of X G A.m, ⟨A.pg, A.hd, A.po, A.sa⟩, ⟨A.mks, A.it, A.fn, A.kp⟩, A.na⟩
/-- a def of a class stands in the written part -/
def FnAt (K : PySem.W.Frag) (f : Addr) (n q : Str) (st : Stmt) : Prop := ∃ (oc : Value) (od : Option Addr) (kV dc pm : Value) (an : Option Addr) (cd ct : Value) (sl : Array (Option Value)),
  K.lookup f = some ⟨oc, od, .func (PySem.W.fnOf n q (defArgs st) (defBody st) (defScope st) .none kV dc pm an cd ct), sl⟩ ∧ PySem.W.codeIn K cd q = true ∧ PySem.W.keepIn K (.ref f) = true
theorem FnAt.mk {K : PySem.W.Frag} {f : Addr} {n q : Str} {st : Stmt} {oc : Value} {od : Option Addr} {kV dc pm : Value} {an : Option Addr} {cd ct : Value} {sl : Array (Option Value)}
    (l : K.lookup f = some ⟨oc, od, .func (PySem.W.fnOf n q (defArgs st) (defBody st) (defScope st) .none kV dc pm an cd ct), sl⟩) (c : PySem.W.codeIn K cd q = true) (k : PySem.W.keepIn K (.ref f) = true) : FnAt K f n q st := ⟨_, _, _, _, _, _, _, _, _, l, c, k⟩
theorem FnAt.fn {K : PySem.W.Frag} {f : Addr} {n q : Str} {st : Stmt} {ps : List Str} (D : FnAt K f n q st)
    (hb : ∀ (kV doc pm : Value) (an : Option Addr) (cdv ct : Value) (us : List Value), us.length = ps.length → bindArgs (PySem.W.fnOf n q (defArgs st) (defBody st) (defScope st) .none kV doc pm an cdv ct) ⟨us, []⟩ = pure (ps.zip us)) : ∃ fd, Fun K n q st f fd ∧ Binds K fd ps [] := by
  obtain ⟨oc, od, kV, dc, pm, an, cd, ct, sl, l, c, k⟩ := D
  have F := fun_mk (st := st) l c k
  exact ⟨_, F, F.binds hb⟩
def MethAt (K : PySem.W.Frag) (C : Addr) (n q : Str) (st : Stmt) : Prop := ∃ g, PySem.W.findIn K (.ref C) n = some (some (.ref g)) ∧ PySem.W.isFn K (.ref g) = true ∧ FnAt K g n q st
theorem MethAt.mk {K : PySem.W.Frag} {C g : Addr} {n q : Str} {st : Stmt} {oc : Value} {od : Option Addr} {kV dc pm : Value} {an : Option Addr} {cd ct : Value} {sl : Array (Option Value)} (a : PySem.W.findIn K (.ref C) n = some (some (.ref g))) (i : PySem.W.isFn K (.ref g) = true)
    (l : K.lookup g = some ⟨oc, od, .func (PySem.W.fnOf n q (defArgs st) (defBody st) (defScope st) .none kV dc pm an cd ct), sl⟩) (c : PySem.W.codeIn K cd q = true) (k : PySem.W.keepIn K (.ref g) = true) : MethAt K C n q st := ⟨g, a, i, .mk l c k⟩
def MethC (K : PySem.W.Frag) (C : Addr) (n q : Str) (st : Stmt) (ps : List Str) : Prop := ∃ g fd, Meth K C n g ∧ Fun K n q st g fd ∧ Binds K fd ps []
theorem MethAt.meth {K : PySem.W.Frag} {C : Addr} {n q : Str} {st : Stmt} {ps : List Str} (D : MethAt K C n q st)
    (hb : ∀ (kV doc pm : Value) (an : Option Addr) (cdv ct : Value) (us : List Value), us.length = ps.length → bindArgs (PySem.W.fnOf n q (defArgs st) (defBody st) (defScope st) .none kV doc pm an cdv ct) ⟨us, []⟩ = pure (ps.zip us)) : MethC K C n q st ps := by
  obtain ⟨g, a, i, oc, od, kV, dc, pm, an, cd, ct, sl, l, c, k⟩ := D
  have F := fun_mk (st := st) l c k
  exact ⟨g, _, ⟨a, i, k⟩, F, F.binds hb⟩
theorem KeysInt.cons {e : DictEntry} {r : List DictEntry} {k : Int} {t : Tok} (h1 : e.key = .int k t) (h2 : e.hash = hashInt k) (h : KeysInt r) : KeysInt (e :: r) := ⟨⟨k, t, h1, h2⟩, h⟩
theorem KeysInt.nil : KeysInt [] := trivial
theorem find_int (es : Array DictEntry) (i : Int) : findBy Value.isInt es i = (es.toList.find? fun d => Value.isInt i d.key).map (·.val) := by
  obtain ⟨l⟩ := es
  unfold findBy
  rw [List.find?_toArray]
theorem KDctI.mk {K : PySem.W.Frag} {p : Addr} {i : Int} {v : V} {es : Array DictEntry} {n : Nat} {u : Value} (h1 : K.lookup p = some ⟨.type "dict", none, .dict es n, #[]⟩) (h2 : KeysInt es.toList) (h3 : (es.toList.find? fun d => Value.isInt i d.key).map (·.val) = some u) (h4 : RelV v u) : KDctI K p i v :=
  ⟨es, n, u, h1, h2, by rw [find_int]; exact h3, h4⟩
/-- a written dict of ints -/
def TabI (K : PySem.W.Frag) (p : Addr) (l : List (Int × Int)) : Prop := ∀ kv ∈ l, KDctI K p kv.1 (.int kv.2)
end Qt
/-! max(d.values(), default=a number). -/
namespace Qt
open PySem PySem.Spec PyProof.Rows L2 Evl
theorem max_name : (toString "max" ++ toString ".loop" : String) = "max.loop" := by decide
section
variable {P : Program} {w : World} {dv : Value} {A : Around} {E : Value → Shared → Prop} {s : Shared}
theorem max_argsE (a d : Value) : argsOk "max" ⟨[a], kwE d⟩ := by unfold argsOk; kernel_rfl
section
variable {R : Result → Shared → Prop} {I S : Addr} {fp wr : List Addr} {n : Nat} {Pv : Nat → Value → Prop} {St : Nat → Heap → Prop}
theorem maxE_loop (W : Walks P w A.in1 I fp wr n Pv St) (bt : Nat → Nat → Bool) (hcmp : CmpOf P w A.in1 .Gt Pv bt) (hSf : S ∉ fp) :
    ∀ (k j : Nat) (s : Shared) (v : Value) (c : Nat), n - (j + 1) = k → j + 1 ≤ n → St (j + 1) s.heap → Pv (argBest bt j) v → s.heap.get? S = some (bestO #[v, v] c) →
    (∀ u h' tk, Pv (argBest bt (n - 1)) u → (∀ b o, b ∉ wr → b ≠ S → s.heap.get? b = some o → h'.get? b = some o) → R (.ok (.ret u)) { s with heap := h', toks := tk }) →
    codeAny (model P w) A (.builtin "max.loop" ⟨[.ref I, .none, .ref S], kwE dv⟩) R s := by
  have out : S ∉ wr := fun h => hSf (W.sub _ h)
  intro k
  induction k with
  | zero =>
    intro j s v c hk hj hst hP hS hR
    have hn : j + 1 = n := by omega
    refine codeAny_builtin F.entry_max_loop ?_
    rw [Around.under_plainId F.plain_max_loop _]
    show wpAny _ A.in1 (seqItems? (.ref S) >>= _) _ _ s
    refine wpAny_bind (wpAny_seqItems hS rfl ?_)
    show wpAny _ A.in1 (tryCatch (pyNext (.ref I)) _ >>= _) _ _ s
    refine wpAny_bind (wpAny_tryCatch (W.done s _ _ (hn ▸ hst) fun h' tk keep => ?_))
    have hS' := keep S _ out hS
    show wpAny _ A.in1 (updateSeq S (fun _ => #[]) >>= _) _ _ _
    refine wpAny_bind (wpAny_updateSeq hS' rfl (wpAny_bind (wpAny_letGo (wpAny_pure (hR v _ tk (by rw [← hn]; exact hP) fun b o b1 b2 e => ?_)))))
    exact (Heap.get?_update_other _ _ (Ne.symm b2)).trans (keep b o b1 e)
  | succ k ih =>
    intro j s v c hk hj hst hP hS hR
    have lt : j + 1 < n := by omega
    refine codeAny_builtin F.entry_max_loop ?_
    rw [Around.under_plainId F.plain_max_loop _]
    show wpAny _ A.in1 (seqItems? (.ref S) >>= _) _ _ s
    refine wpAny_bind (wpAny_seqItems hS rfl ?_)
    show wpAny _ A.in1 (tryCatch (pyNext (.ref I)) _ >>= _) _ _ s
    refine wpAny_bind (wpAny_tryCatch (W.item (j + 1) s _ _ lt hst fun u h' tk hu hst' keep => ?_))
    have hS' := keep S _ out hS
    show wpAny _ A.in1 (tryCatch (holding [u, u] (richCompare .Gt u v >>= _)) _ >>= _) _ _ _
    refine wpAny_bind (wpAny_tryCatch (wpAny_holding (wpAny_bind (hcmp (j + 1) (argBest bt j) u v _ _ _ hu hP (wpAny_bind (wpAny_holding (wpAny_truthy_bool (wpAny_bind (wpAny_letGo (wpAny_pure ?_))))))))))
    cases hb : bt (j + 1) (argBest bt j) with
    | true =>
      simp only [if_true]
      refine wpAny_bind (wpAny_updateSeq hS' rfl (wpAny_bind (wpAny_letGo ?_)))
      rw [max_name]
      refine wpAny_pure ⟨plainId_quiet F.plain_max_loop _, ih (j + 1) _ u _ (by omega) lt (W.frame _ _ _ hst' fun b hbf o e => ?_) (by simp only [argBest, hb, if_true]; exact hu) (Heap.get?_update_self _ hS' rfl) fun u' h2 tk2 hu' keep2 => ?_⟩
      · exact (Heap.get?_update_other _ _ (fun h : S = b => hSf (by rw [h]; exact hbf))).trans e
      · exact hR u' h2 tk2 hu' fun b o b1 b2 e => keep2 b o b1 b2 ((Heap.get?_update_other _ _ (Ne.symm b2)).trans (keep b o b1 e))
    | false =>
      simp only [Bool.false_eq_true, if_false]
      refine wpAny_bind (wpAny_letGo ?_)
      rw [max_name]
      exact wpAny_pure ⟨plainId_quiet F.plain_max_loop _, ih (j + 1) _ v c (by omega) lt hst' (by simp only [argBest, hb, Bool.false_eq_true, if_false]; exact hP) hS' fun u' h2 tk2 hu' keep2 => hR u' h2 tk2 hu' fun b o b1 b2 e => keep2 b o b1 b2 (keep b o b1 e)⟩
theorem maxE_first (W : Walks P w A.in1 I fp wr n Pv St) (bt : Nat → Nat → Bool) (hcmp : CmpOf P w A.in1 .Gt Pv bt) (hSf : S ∉ fp) {s : Shared} {c : Nat} (hst : St 0 s.heap) (hS : s.heap.get? S = some (bestO #[] c))
    (h0 : n = 0 → ∀ h' tk, (∀ b o, b ∉ wr → b ≠ S → s.heap.get? b = some o → h'.get? b = some o) → R (.ok (.ret dv)) { s with heap := h', toks := tk })
    (h1 : 0 < n → ∀ u h' tk, Pv (argBest bt (n - 1)) u → (∀ b o, b ∉ wr → b ≠ S → s.heap.get? b = some o → h'.get? b = some o) → R (.ok (.ret u)) { s with heap := h', toks := tk }) :
    codeAny (model P w) A (.builtin "max.loop" ⟨[.ref I, .none, .ref S], kwE dv⟩) R s := by
  have out : S ∉ wr := fun h => hSf (W.sub _ h)
  refine codeAny_builtin F.entry_max_loop ?_
  rw [Around.under_plainId F.plain_max_loop _]
  show wpAny _ A.in1 (seqItems? (.ref S) >>= _) _ _ s
  refine wpAny_bind (wpAny_seqItems hS rfl ?_)
  show wpAny _ A.in1 (tryCatch (pyNext (.ref I)) _ >>= _) _ _ s
  by_cases hn : n = 0
  · refine wpAny_bind (wpAny_tryCatch (W.done s _ _ (hn ▸ hst) fun h' tk keep => ?_))
    refine wpAny_bind (wpAny_rule ?_)
    exact wpAny_pure (h0 hn _ tk fun b o b1 b2 e => keep b o b1 e)
  · refine wpAny_bind (wpAny_tryCatch (W.item 0 s _ _ (by omega) hst fun u h' tk hu hst' keep => ?_))
    have hS' := keep S _ out hS
    show wpAny _ A.in1 (updateSeq S (fun _ => #[u, u]) >>= _) _ _ _
    refine wpAny_bind (wpAny_updateSeq hS' rfl ?_)
    rw [max_name]
    refine wpAny_pure ⟨plainId_quiet F.plain_max_loop _, maxE_loop W bt hcmp hSf _ 0 _ u _ rfl (by omega) (W.frame _ _ _ hst' fun b hbf o e => ?_) hu (Heap.get?_update_self _ hS' rfl) fun u' h2 tk2 hu' keep2 => ?_⟩
    · exact (Heap.get?_update_other _ _ (fun h : S = b => hSf (by rw [h]; exact hbf))).trans e
    · exact h1 (by omega) u' h2 tk2 hu' fun b o b1 b2 e => keep2 b o b1 b2 ((Heap.get?_update_other _ _ (Ne.symm b2)).trans (keep b o b1 e))
end
theorem maxE_vals {v d : Addr} {kvs : List (Key × Value)} {ep : Nat} (val : Nat → Int) (hv : ∀ (i : Nat) (k : Key) (u : Value), kvs[i]? = some (k, u) → ∃ t, u = Value.int (val i) t) {Q : Value → Shared → Prop} (hh : A.handled = none) (hl : s.heap.IsValuesView v d) (hm : s.heap.DictAt (mixKind P w) d kvs ep)
    (h0 : kvs.length = 0 → ∀ h' tk, (∀ b o, s.heap.get? b = some o → h'.get? b = some o) → Q dv { s with heap := h', toks := tk })
    (h1 : 0 < kvs.length → ∀ t h' tk, (∀ b o, s.heap.get? b = some o → h'.get? b = some o) → Q (.int (val (argBest (fun i j => decide (val i > val j)) (kvs.length - 1))) t) { s with heap := h', toks := tk }) :
    wpAny (model P w) A (call (.builtin "max") [.ref v] (kwE dv)) Q E s := by
  have hdl : d < s.heap.objs.size := by
    obtain ⟨o, es, ho, _⟩ := id hm
    exact Heap.lt_size ho
  refine kmk_tree F.kind_max F.plain_max F.entry_max (max_argsE _ _) ?_
  show wpAny _ A.in1 (Builtin.Builtins.bindParams "max" ["key", "default"] 0 ⟨[], kwE dv⟩ >>= _) _ _ s
  refine wpAny_bind (wpAny_of_eq (show Builtin.Builtins.bindParams "max" ["key", "default"] 0 ⟨[], kwE dv⟩ = pure [none, some dv] from rfl) ?_)
  refine wpAny_bind (wpAny_pure (wpAny_bind (wpAny_pyIter_values hl hm (wpAny_bind (wpAny_newList ?_ (Nat.zero_le _))))))
  rw [max_name]
  let ob : Obj := { cls := .type "dict_valueiterator", data := .fields #[.ref d, .int 0 0, .int kvs.length 0, .int ep 0] }
  have hz : (s.heap.push ob).objs.size = s.heap.objs.size + 1 := Heap.size_push ..
  have hdI : d ≠ s.heap.objs.size := Nat.ne_of_lt hdl
  have kept : ∀ {h' : Heap}, (∀ b o, b ∉ [s.heap.objs.size] → b ≠ (s.heap.push ob).objs.size → ((s.heap.push ob).push (seqObj "list" #[] 0)).get? b = some o → h'.get? b = some o) → ∀ b o, s.heap.get? b = some o → h'.get? b = some o := by
    intro h' k b o e
    have hb := Heap.lt_size e
    refine k b o (by rw [List.mem_singleton]; exact Nat.ne_of_lt hb) (by rw [hz]; exact Nat.ne_of_lt (Nat.lt_succ_of_lt hb)) (Heap.get?_push_of_some _ (Heap.get?_push_of_some _ e))
  refine wpAny_pure ⟨plainId_quiet F.plain_max_loop _, maxE_first (Walks.dictValues (knd := mixKind P w) (A := A.in1) (by simp [hh]) s.heap.objs.size d hdI kvs ep) (fun i j => decide (val i > val j)) (CmpOf.ints_gt val fun i u hu => ?_) (fun z => ?_) ⟨⟨_, Heap.get?_push_of_some _ (Heap.get?_push_size _ rfl), rfl, rfl⟩, ?_⟩ (Heap.get?_push_size _ rfl) (fun hn h' tk k => ?_) fun hn u h' tk hu k => ?_⟩
  · obtain ⟨k, hk⟩ := hu
    exact hv i k u hk
  · rcases List.mem_cons.mp z with z | z
    · rw [hz] at z
      exact absurd z (Nat.ne_of_gt (Nat.lt_succ_self _))
    · rw [hz] at z
      exact absurd (List.mem_singleton.mp z) (Nat.ne_of_gt (Nat.lt_succ_of_lt hdl))
  · exact (hm.push _).push _
  · exact h0 hn h' tk (kept k)
  · obtain ⟨k2, hk2⟩ := hu
    obtain ⟨t, rfl⟩ := hv _ _ _ hk2
    exact h1 hn t h' tk (kept k)
end
theorem paired_get {α β : Type} {F : α → β → Prop} : ∀ {l₁ : List α} {l₂ : List β}, Paired F l₁ l₂ → ∀ {i : Nat} {a : α}, l₁[i]? = some a → ∃ b, l₂[i]? = some b ∧ F a b
  | _, _, .nil, _, _, h => by cases h
  | _, _, .cons h r, 0, _, e => ⟨_, rfl, by
    obtain rfl := Option.some.inj e
    exact h⟩
  | _, _, .cons _ r, i + 1, _, e => paired_get (i := i) r e
/-- what d.values() gives -/
def ValV (v d : Addr) : HO := .ext fun h => h.IsValuesView v d
def tValV (td : TE) : TE := fun σ H Q => td σ H fun x H1 => ∃ (d : Addr) (kvs : List (Key × V)), x = .ref d ∧ H1 d = some (.dK kvs) ∧ ∀ v, H1 v = none → Q (.ref v) (upd H1 v (ValV v d))
def rMaxVD : List V → List V → Hp → VK → Prop := fun vs zs H Q => ∃ (v d : Addr) (kvs : List (Key × V)) (ns : List Int) (z0 : Int), vs = [.ref v] ∧ zs = [.int z0] ∧ H v = some (ValV v d) ∧ H d = some (.dK kvs) ∧ kvs.map (·.2) = ns.map V.int ∧
  (ns = [] → Q (.int z0) H) ∧ ∀ m, m ∈ ns → (∀ y, y ∈ ns → y ≤ m) → Q (.int m) H
section
variable {X : Cx} {e : Expr} {td : TE} {apos cpos : Pos}
theorem pe_valuesV (he : PE X e td) (hbase : attributeBase e "values" X.env (eval e X.env) = eval e X.env := by rfl) (hline : (apos.endLine == cpos.line) = true := by rfl) : PE X (.Call (.Attribute e "values" apos) [] [] cpos) (tValV td) := by
  refine ⟨fun pins s σ H Q I h => ?_⟩
  refine wpAny_Call_method (T := "dict") (id := "dict.values") hbase rfl hline F.plainAttrs_dict F.slot_dict_values F.type_dict_values (thn (he.run pins s σ H _ I h) fun u s1 ⟨x, H1, I1, rx, d, kvs, ex, hd, q⟩ => ?_)
  subst ex
  obtain rfl : u = Value.ref d := rx
  obtain ⟨_, hs, vs, _, hm⟩ := dk_of I1.hok hd
  refine ⟨hm.typeIs, hm.mapOf.noDict, ?_⟩
  show wpAny _ _ (callWith cpos (.builtin "dict.values") [.ref d] [] []) _ X.xe s1
  refine method_meetsIn F.slot_dict_values F.entry_dict_values rfl (PySem.evalArgs_none ⟨rfl, hm.typeIs, F.args_dict_values_1 _, _, meets_dict_values (mixKind X.prog X.w) d hs, ⟨vs, hm⟩, ?_⟩)
  refine ⟨.ref s1.heap.objs.size, upd H1 s1.heap.objs.size (ValV s1.heap.objs.size d), I1.laid (t' := s1.toks) (fun b o e => Heap.get?_push_of_some _ e) (Nat.le_refl _) ?_, rfl, q _ (I1.hok.fresh (Nat.le_refl _))⟩
  exact ⟨⟨_, Heap.get?_push_size _ rfl, rfl, rfl⟩, ⟨_, Heap.get?_push_size _ rfl⟩, fun h1 h2 p k => let ⟨o, ho, r⟩ := p; ⟨o, k _ ho, r⟩⟩
theorem cr_maxVD (hc : X.calm = true) : CallRK X (.builtin "max") [PySem.Str.ofString "default"] rMaxVD := by
  intro pins s σ H xs zs us ws Q I r rz h
  obtain ⟨v, d, kvs, ns, z0, rfl, rfl, hv, hd, hn, q0, q1⟩ := h
  rw [Vals.ref1 r]
  obtain ⟨w1, rfl, e1⟩ := vals1 rz
  obtain ⟨t1, rfl⟩ := e1
  obtain ⟨_, _, vs, kv, o, es, ep, hm⟩ := dk_of I.hok hd
  have hl : kvs.length = vs.length := Paired.length kv
  have hnl : kvs.length = ns.length := by
    have z := congrArg List.length hn
    rw [List.length_map, List.length_map] at z
    exact z
  have hview := (I.hok v _ hv).1
  refine maxE_vals (ep := ep) (kvs := vs) (fun i => ns.getD i 0) (fun i k u hk => ?_) (I.ok.hd hc) hview ⟨o, es, hm⟩ (fun h0 h' tk kk => ?_) fun h0 t h' tk kk => ?_
  · have hi := (List.getElem?_eq_some_iff.mp hk).1
    have hi2 : i < kvs.length := by omega
    obtain ⟨y, hy, ry⟩ := paired_get kv (i := i) (List.getElem?_eq_getElem hi2)
    rw [hk] at hy
    cases hy
    have hx : (kvs.map (·.2))[i]? = some (kvs[i]).2 := by rw [List.getElem?_map, List.getElem?_eq_getElem hi2]; rfl
    rw [hn, List.getElem?_map, List.getElem?_eq_getElem (by omega)] at hx
    have hx := Option.some.inj hx
    have r2 := ry.2
    rw [← hx] at r2
    obtain ⟨t, ht⟩ := r2
    have ht : u = Value.int _ t := ht
    refine ⟨t, ?_⟩
    rw [ht, List.getD_eq_getElem?_getD, List.getElem?_eq_getElem (by omega)]
    rfl
  · exact ⟨.int z0, H, I.kept (t' := tk) kk, ⟨_, rfl⟩, q0 (List.eq_nil_of_length_eq_zero (by omega))⟩
  · obtain ⟨b1, b2⟩ := argBest_gt (fun i => ns.getD i 0) (vs.length - 1)
    refine ⟨.int _, H, I.kept (t' := tk) kk, ⟨t, rfl⟩, q1 _ ?_ fun z hz => ?_⟩
    · have hi : argBest (fun i j => decide (ns.getD i 0 > ns.getD j 0)) (vs.length - 1) < ns.length := by omega
      rw [List.getD_eq_getElem?_getD, List.getElem?_eq_getElem hi]
      exact List.getElem_mem hi
    · obtain ⟨j, hj, rfl⟩ := List.getElem_of_mem hz
      have := b2 j (by omega)
      rw [List.getD_eq_getElem?_getD (i := j), List.getElem?_eq_getElem hj] at this
      exact this
end
end Qt
/-! A dict comprehension over a new list, with a test, all keys different. -/
namespace Qt
open PySem PySem.Spec PyProof.Rows L2 Evl
def EvD (te : TE) (σ : L2.St) (H : Hp) (kvs : List (Key × V)) : Prop := ∀ H1, Ex H H1 → ∀ Q : VK, (∀ p H2, H1 p = none → Ex H1 H2 → H2 p = some (.dK kvs) → Q (.ref p) H2) → te σ H1 Q
theorem valV_none {κ : Type} [DecidableEq κ] {kvs : List (κ × V)} {k : κ} (h : ∀ p ∈ kvs, p.1 ≠ k) : valV kvs k = none := by
  unfold valV
  have z : (kvs.find? fun kv => decide (kv.1 = k)) = none := List.find?_eq_none.mpr fun p hp => by simpa using h p hp
  rw [z]
  rfl
theorem el_dcL {K : PySem.W.Frag} {σ : L2.St} {H : Hp} {tl tk tv : TE} {tt : TT} {j : Nat} {vs : List Nat} {xs : List V} (f : Nat → Bool) (kf : Nat → Key) (vf : Nat → V) (h : EvL tl σ H xs) (hz : xs.length ≤ 40000) (hw : ∀ x, wipe ((wipe σ vs).set j (some x)) vs = wipe σ vs)
    (hn : ∀ a b, a < b → b < xs.length → kf a ≠ kf b) (ht : ∀ (i : Nat) (x : V) H1, Ex H H1 → xs[i]? = some x → EvT tt ((wipe σ vs).set j (some x)) H1 (f i))
    (hk : ∀ (i : Nat) (x : V) H1, Ex H H1 → xs[i]? = some x → f i = true → Ev tk ((wipe σ vs).set j (some x)) H1 (kV (kf i))) (hv : ∀ (i : Nat) (x : V) H1, Ex H H1 → xs[i]? = some x → f i = true → Ev tv ((wipe σ vs).set j (some x)) H1 (vf i)) :
    EvD (tDc (iList K tl) (gName j) tt tk tv vs) σ H (((List.range xs.length).filter f).map fun i => (kf i, vf i)) := fun H0 e Q q => h H0 e _ fun a H1 na e1 hx => ⟨a, rfl, ⟨xs, sq_of hx⟩, fun D hD => by
  have ll : ∀ i, (((List.range i).filter f).map fun i => (kf i, vf i)).length ≤ i := fun i => by
    have z := List.length_filter_le f (List.range i)
    rw [List.length_map]
    rw [List.length_range] at z
    exact z
  refine ⟨fun i m H' => m = xs.length - i ∧ i ≤ xs.length ∧ Ex H1 H' ∧ H' D = some (.dK (((List.range i).filter f).map fun i => (kf i, vf i))), ⟨xs.length, by simp, Nat.zero_le _, Ex.new hD, upd_same⟩, ?_⟩
  rintro i m H' ⟨rfl, hi, eH, hd⟩
  by_cases hlt : i < xs.length
  · refine .inr ⟨⟨xs, xs[i], sq_of (eH _ _ hx), by simp [hlt]⟩, _, fun H'' p' => ⟨xs.length - (i + 1), by omega, rfl, hlt, p'⟩, fun x H'' y => ?_⟩
    obtain ⟨rfl, y⟩ := y
    have hxi := y xs (sq_of (eH _ _ hx))
    have e0 := (e.trans e1).trans eH
    refine ⟨hw _, ht i x _ e0 hxi _ (Ex.refl _) _ fun H3 e3 => ?_⟩
    cases hf : f i with
    | true =>
      refine iteT (hk i x _ (e0.trans e3) hxi hf _ (Ex.refl _) _ fun H4 e4 => hv i x _ ((e0.trans e3).trans e4) hxi hf _ (Ex.refl _) _ fun H5 e5 => ?_)
      have e35 := (e3.trans e4).trans e5
      refine ⟨_, kf i, rfl, e35 _ _ hd, Nat.lt_of_le_of_lt (ll i) (by rw [sizeLine_eq]; omega), Ex.mut (eH.trans e35) hD, ?_⟩
      rw [upd_same, putK_new (valV_none fun p hp => ?_), List.range_succ, List.filter_append, List.map_append, List.filter_cons_of_pos hf]
      · rfl
      · obtain ⟨b, hb, rfl⟩ := List.mem_map.mp hp
        exact hn b i (List.mem_range.mp (List.mem_filter.mp hb).1) hlt
    | false =>
      refine iteF ?_
      refine ⟨eH.trans e3, ?_⟩
      rw [List.range_succ, List.filter_append, List.filter_cons_of_neg (by rw [hf]; simp), List.filter_nil, List.append_nil]
      exact e3 _ _ hd
  · obtain rfl : i = xs.length := by omega
    exact .inl ⟨⟨xs, sq_of (eH _ _ hx), Nat.le_refl _⟩, q D H' (fresh_back e1 hD) (e1.trans eH) hd⟩⟩
/-- max within a block -/
theorem cr_maxK {X : Cx} (K : PySem.W.Frag) (h : X.K = K) (hc : X.calm = true) : CallR X (.builtin "max") (rMax K) := h ▸ cr_max hc
end Qt
/-! Dict comprehensions over any walk; over numbered items; over a dict's keys. A def with a default. x |= y. -/
namespace Qt
open PySem PySem.Spec PyProof.Rows L2 Evl
theorem ip_or {X : Cx} : PIp X .BitOr (ipI fun i j => Builtin.bitOr i j) := by
  intro pins s σ H x y v u Q I r1 r2 h
  obtain ⟨i, j, e1, e2, q⟩ := h
  subst e1; subst e2
  obtain ⟨t, rfl⟩ := r1
  obtain ⟨t', rfl⟩ := r2
  exact ior_int ⟨.int _, H, I.tok _, ⟨_, rfl⟩, q⟩
section
variable {J : It} {n : Nat} {G : Hp → Prop} {Y : Nat → Hp → V → Hp → Prop}
theorem dc_it (w : Walk J n G Y) {g : TG} {tt : TT} {tk tv : TE} {vs : List Nat} {σ : L2.St} {H1 : Hp} {D : Addr} {Qd : Hp → Prop} (Pv : Nat → Hp → Prop) (h0 : Pv 0 (upd H1 D (.dK []))) (hG : ∀ i H, i ≤ n → Pv i H → G H)
    (hs : ∀ i x H H', i < n → Pv i H → Y i H x H' → g x (wipe σ vs) H' fun σ2 H2 => wipe σ2 vs = wipe σ vs ∧ tt σ2 H2 fun b H3 =>
      if b = true then tk σ2 H3 fun y H4 => tv σ2 H4 fun z H5 => ∃ kvs k, y = kV k ∧ H5 D = some (.dK kvs) ∧ kvs.length < sizeLine ∧ Pv (i + 1) (upd H5 D (.dK (putK kvs k z))) else Pv (i + 1) H3) (hd : ∀ H, Pv n H → Qd H) :
    ∃ W : Nat → Nat → Hp → Prop, (∃ m, W 0 m (upd H1 D (.dK []))) ∧ ∀ i m H, W i m H →
      (J.stop i H ∧ Qd H) ∨ (J.go i H ∧ ∃ Nx : Hp → Prop, (∀ H', Nx H' → ∃ m', m' < m ∧ W (i + 1) m' H') ∧ ∀ x H', J.yld i H x H' → g x (wipe σ vs) H' fun σ2 H2 => wipe σ2 vs = wipe σ vs ∧ tt σ2 H2 fun b H3 =>
        if b = true then tk σ2 H3 fun y H4 => tv σ2 H4 fun z H5 => ∃ kvs k, y = kV k ∧ H5 D = some (.dK kvs) ∧ kvs.length < sizeLine ∧ Nx (upd H5 D (.dK (putK kvs k z))) else Nx H3) := by
  refine ⟨fun i m H => m = n - i ∧ i ≤ n ∧ Pv i H, ⟨n, by simp, Nat.zero_le _, h0⟩, ?_⟩
  rintro i m H ⟨rfl, hi, p⟩
  have q := hG i H hi p
  by_cases hlt : i < n
  · exact .inr ⟨w.goes i H hlt q, Pv (i + 1), fun H' p' => ⟨n - (i + 1), by omega, rfl, hlt, p'⟩, fun x H' y => hs i x H H' hlt p (w.yields i H x H' hlt q y)⟩
  · obtain rfl : i = n := by omega
    exact .inl ⟨w.stops H q, hd H p⟩
end
/-- n entries with the keys kf, each value as R tells -/
def DRel (R : Nat → V → Hp → Prop) (kf : Nat → Key) (n : Nat) (kvs : List (Key × V)) (H : Hp) : Prop := kvs.length = n ∧ ∀ i, i < n → ∃ v, kvs[i]? = some (kf i, v) ∧ R i v H
theorem DRel.nil {R : Nat → V → Hp → Prop} {kf : Nat → Key} {H : Hp} : DRel R kf 0 [] H := ⟨rfl, fun _ h => absurd h (Nat.not_lt_zero _)⟩
theorem DRel.snoc {R : Nat → V → Hp → Prop} {kf : Nat → Key} {n : Nat} {kvs : List (Key × V)} {H H1 : Hp} {v : V} (h : DRel R kf n kvs H) (m : ∀ i v, R i v H → R i v H1) (hv : R n v H1) : DRel R kf (n + 1) (kvs ++ [(kf n, v)]) H1 :=
  ⟨by rw [List.length_append, h.1]; rfl, fun i hi => by
    rcases Nat.lt_or_ge i n with z | z
    · obtain ⟨u, a, b⟩ := h.2 i z
      exact ⟨u, by rw [List.getElem?_append_left (by rw [h.1]; exact z)]; exact a, m i u b⟩
    · obtain rfl : i = n := by omega
      exact ⟨v, by rw [List.getElem?_append_right (by rw [h.1]; exact Nat.le_refl _), h.1, Nat.sub_self]; rfl, hv⟩⟩
theorem DRel.new {R : Nat → V → Hp → Prop} {kf : Nat → Key} {n : Nat} {kvs : List (Key × V)} {H : Hp} {k : Key} (h : DRel R kf n kvs H) (hn : ∀ a, a < n → kf a ≠ k) : valV kvs k = none := valV_none fun p hp => by
  obtain ⟨i, hi, e⟩ := List.getElem_of_mem hp
  obtain ⟨v, a, _⟩ := h.2 i (by rw [← h.1]; exact hi)
  rw [List.getElem?_eq_getElem hi, e] at a
  rw [Option.some.inj a]
  exact hn i (by rw [← h.1]; exact hi)
theorem valV_app {κ : Type} [DecidableEq κ] {k : κ} : ∀ {a b : List (κ × V)}, valV a k = none → valV (a ++ b) k = valV b k
  | [], _, _ => rfl
  | p :: r, b, h => by
    by_cases e : p.1 = k
    · rw [valV_pos e] at h
      cases h
    · rw [valV_neg e] at h
      rw [List.cons_append, valV_neg e]
      exact valV_app h
theorem DRel.at {R : Nat → V → Hp → Prop} {kf : Nat → Key} : ∀ {n : Nat} {kvs : List (Key × V)} {H : Hp}, DRel R kf n kvs H → (∀ a b, a < b → b < n → kf a ≠ kf b) → ∀ i, i < n → ∃ v, valV kvs (kf i) = some v ∧ R i v H := fun {n kvs H} h hn i hi => by
  obtain ⟨v, a, b⟩ := h.2 i hi
  refine ⟨v, ?_, b⟩
  have hi' : i < kvs.length := by rw [h.1]; exact hi
  have e := (List.take_append_drop i kvs).symm
  rw [e, valV_app, List.drop_eq_getElem_cons hi', valV_pos]
  · rw [List.getElem?_eq_getElem hi'] at a
    rw [Option.some.inj a]
  · rw [List.getElem?_eq_getElem hi'] at a
    rw [Option.some.inj a]
  · refine valV_none fun p hp => ?_
    obtain ⟨j, hj, ej⟩ := List.getElem_of_mem hp
    rw [List.length_take] at hj
    obtain ⟨u, c, _⟩ := h.2 j (by omega)
    rw [List.getElem_take] at ej
    rw [List.getElem?_eq_getElem (by omega), ej] at c
    rw [Option.some.inj c]
    exact hn j i (by omega) hi
/-- {kf: v for j, k in enumerate(a new list)}, keys all different -/
theorem el_dcE {K : PySem.W.Frag} {σ : L2.St} {H : Hp} {te tk tv : TE} {j k : Nat} {vs : List Nat} {xs : List V} (kf : Nat → Key) (vf : Nat → V) (h : EvL te σ H xs) (hz : xs.length ≤ 40000)
    (hw : ∀ a b, wipe (((wipe σ vs).set j (some a)).set k (some b)) vs = wipe σ vs) (hn : ∀ a b, a < b → b < xs.length → kf a ≠ kf b)
    (hk : ∀ (i : Nat) y H1, Ex H H1 → xs[i]? = some y → Ev tk (((wipe σ vs).set j (some (.int (i : Int)))).set k (some y)) H1 (kV (kf i)))
    (hv : ∀ (i : Nat) y H1, Ex H H1 → xs[i]? = some y → Ev tv (((wipe σ vs).set j (some (.int (i : Int)))).set k (some y)) H1 (vf i)) :
    EvD (tDc (iEnum K (tCons te tNil)) (gTup K 2 (gCons (gName j) (gCons (gName k) gNil))) tYes tk tv vs) σ H ((List.range xs.length).map fun i => (kf i, vf i)) := fun H0 e Q q => h H0 e _ fun a H1 na e1 hx => ⟨a, xs, rfl, sq_of hx, fun D hD => by
  refine dc_it (walk_enum (K := K) (a := a) (xs := xs)) (fun i H' => Ex H1 H' ∧ H' D = some (.dK ((List.range i).map fun i => (kf i, vf i)))) ⟨Ex.new hD, upd_same⟩ (fun _ _ _ p => sq_of (p.1 _ _ hx)) (fun i z H2 H' hi p y' => ?_) (fun H' p => q D H' (fresh_back e1 hD) (e1.trans p.1) p.2)
  obtain ⟨T, n, y, rfl, nT, rfl, hn', hy⟩ := y'
  obtain rfl : V.int (i : Nat) = n := Option.some.inj hn'
  obtain ⟨p1, p2⟩ := p
  have nTD : D ≠ T := ne_of_none p2 nT
  have eT := Ex.new (o := .tup [.int (i : Nat), y]) nT
  refine ⟨T, _, rfl, st_of upd_same, rfl, _, _, rfl, _, _, rfl, rfl, hw _ _, ?_⟩
  refine yes_if ?_
  have e0 := ((e.trans e1).trans p1).trans eT
  refine hk i y _ e0 hy _ (Ex.refl _) _ fun H4 e4 => hv i y _ (e0.trans e4) hy _ (Ex.refl _) _ fun H5 e5 => ?_
  have e45 := e4.trans e5
  refine ⟨_, kf i, rfl, e45 _ _ (eT _ _ p2), by rw [List.length_map, List.length_range, sizeLine_eq]; omega, Ex.mut ((p1.trans eT).trans e45) hD, ?_⟩
  rw [upd_same, putK_new (valV_none fun p hp => ?_), List.range_succ, List.map_append]
  · rfl
  · obtain ⟨b, hb, rfl⟩ := List.mem_map.mp hp
    exact hn b i (List.mem_range.mp hb) hi⟩
/-- back from a frozen dict -/
theorem ex_thaw {H H' : Hp} {d : Addr} {od : Obj} {u : HO} (h : H d = some u) (e : Ex (upd H d (.frz od u)) H') : Ex H (upd H' d u) := fun a o ha => by
  by_cases z : a = d
  · rw [z, h] at ha
    rw [z, upd_same]
    exact ha
  · rw [upd_ne z]
    exact e a o (by rw [upd_ne z]; exact ha)
/-- {j: v for j in a dict}, the values as R tells -/
theorem el_dcK {K : PySem.W.Frag} {σ : L2.St} {H : Hp} {td tv : TE} {d : Addr} {j : Nat} {vs : List Nat} {kvs : List (Key × V)} (R : Nat → V → Hp → Prop) (kf : Nat → Key) (h : ∀ H1 od, Ev td σ (upd H1 d (.frz od (.dK kvs))) (.ref d)) (hd : H d = some (.dK kvs)) (hz : kvs.length ≤ 40000)
    (hkf : ∀ i, i < kvs.length → ∃ v, kvs[i]? = some (kf i, v)) (hn : ∀ a b, a < b → b < kvs.length → kf a ≠ kf b)
    (hw : ∀ x, wipe ((wipe σ vs).set j (some x)) vs = wipe σ vs) (hj : ∀ x, ((wipe σ vs).set j (some x))[j]? = some (some x))
    (hR : ∀ i v H1 H2 x, (∃ kv od, H1 x = some (.dK kv) ∨ H1 x = some (.frz od (.dK kv))) → (∀ a o, a ≠ x → H1 a = some o → H2 a = some o) → R i v H1 → R i v H2)
    (hv : ∀ (i : Nat) v H1, kvs[i]? = some (kf i, v) → (∃ H0 od, Ex H H0 ∧ Ex (upd H0 d (.frz od (.dK kvs))) H1 ∧ H1 d = some (.frz od (.dK kvs))) → ∀ Q : VK, (∀ v H2, Ex H1 H2 → R i v H2 → Q v H2) → tv ((wipe σ vs).set j (some (kV (kf i)))) H1 Q)
    {H0 : Hp} (e : Ex H H0) {Q : VK} (q : ∀ p kvs' H2, H0 p = none → Ex H0 H2 → H2 p = some (.dK kvs') → DRel R kf kvs.length kvs' H2 → Q (.ref p) H2) :
    tLockE (tDc (iKeys td) (gName j) tYes (tVar j) tv vs) σ H0 Q := by
  have hd0 := e _ _ hd
  refine ⟨d, .dK kvs, hd0, trivial, fun od => ?_⟩
  refine h H0 od _ (Ex.refl _) _ fun H1 e1 => ?_
  have hz1 : H1 d = some (.frz od (.dK kvs)) := e1 _ _ upd_same
  refine ⟨d, od, rfl, .inl ⟨kvs, hz1, fun D nD => ?_⟩⟩
  have Dd : D ≠ d := fun z => by rw [z, hz1] at nD; cases nD
  have nD0 : H0 D = none := by
    have := fresh_back e1 nD
    rwa [upd_ne Dd] at this
  refine dc_it (walk_keys (d := d) (o := od) (kvs := kvs)) (fun i H' => Ex H1 H' ∧ ∃ kv', H' D = some (.dK kv') ∧ DRel R kf i kv' H') ⟨Ex.new nD, [], upd_same, DRel.nil⟩ (fun i H' _ p => p.1 _ _ hz1) (fun i x G H' hi p y => ?_) (fun H' p => ?_)
  · obtain ⟨rfl, kk, v, hkv, rfl⟩ := y
    obtain ⟨p1, kv', p2, p3⟩ := p
    obtain ⟨v', hkf'⟩ := hkf i hi
    have ek : kk = kf i := by
      rw [hkv] at hkf'
      exact congrArg Prod.fst (Option.some.inj hkf')
    subst ek
    refine ⟨hw _, yes_if ?_⟩
    refine ⟨_, hj _, hv i v _ hkv ⟨H0, od, e, e1.trans p1, p1 _ _ hz1⟩ _ fun u H3 e3 hu => ?_⟩
    refine ⟨kv', kf i, rfl, e3 _ _ p2, by rw [p3.1, sizeLine_eq]; omega, Ex.mut (p1.trans e3) nD, kv' ++ [(kf i, u)], ?_, ?_⟩
    · rw [upd_same, putK_new (p3.new fun a ha => hn a i ha hi)]
    · exact p3.snoc (fun i v r => hR i v _ _ D ⟨kv', od, .inl (e3 _ _ p2)⟩ (fun a o hx hh => by rw [upd_ne hx]; exact hh) (hR i v _ _ D ⟨kv', od, .inl p2⟩ (fun a o _ hh => e3 _ _ hh) r)) (hR i u _ _ D ⟨kv', od, .inl (e3 _ _ p2)⟩ (fun a o hx hh => by rw [upd_ne hx]; exact hh) hu)
  · obtain ⟨p1, kv', p2, p3⟩ := p
    refine ⟨p1 _ _ hz1, q D kv' _ nD0 (ex_thaw hd0 (e1.trans p1)) (by rw [upd_ne Dd]; exact p2) ⟨p3.1, fun i hi => ?_⟩⟩
    obtain ⟨v, a, b⟩ := p3.2 i hi
    exact ⟨v, a, hR i v _ _ d ⟨kvs, od, .inr (p1 _ _ hz1)⟩ (fun x o hx hh => by rw [upd_ne hx]; exact hh) b⟩
/-! ### a def with one default -/
section
variable (P : Program) (w : World) (K : PySem.W.Frag) (mg : Str → Option Value) (base : Heap)
def EntD (x : Str) (st : Stmt) (ps : List Str) (d : Int) : Prop := ∃ (f : Addr) (fd : FuncData) (ds : List Value), FunD K x x (defArgs st) (defBody st) (defScope st) [.int d] [] f fd ∧ mg x = some (.ref f) ∧ Binds K fd ps [] ∧ Vals [V.int d] ds ∧ Binds K fd ps ds
def CalD (CX : CXT) (k : Nat) (x : Str) (ps : List Str) (sp : Sp) (d : Int) : Prop := ∃ (f : Addr) (fd : FuncData) (ds : List Value), FnOk P w K mg base CX k f fd ps sp ∧ mg x = some (.ref f) ∧ PySem.W.keepIn K (.ref f) = true ∧ Binds K fd ps [] ∧ Vals [V.int d] ds ∧ Binds K fd ps ds
end
theorem FunD.ok0 {P : Program} {w : World} {K : PySem.W.Frag} {mg : Str → Option Value} {base : Heap} {x qual : Str} {params : Arguments} {body : List Stmt} {scope : Scope} {dvs : List V} {kws : List (Str × V)} {f : Addr} {fd : FuncData} {N ps : List Str} {k : Nat} {sp : Sp}
    (F : FunD K x qual params body scope dvs kws f fd) (S : FnScope N ps scope) (len : ∀ vs H Q E, sp vs H Q E → vs.length = ps.length)
    (hbody : ∀ (cdv : Value) (A : Around) (outer : List Env) (s : Shared) (H : Hp) (vs : List V) (Q : VK) (E : XK), Room k (A.deeper (envOfC qual scope s.heap.objs.size f cdv)) → sp vs H Q E →
      ∃ t, PSs (cxOf CX0 P w K mg base N qual scope f cdv A outer s H E).nox body t ∧ t { nx := fun _ H' => Q .non H', rt := Q } (start N vs) H) : FnOk P w K mg base CX0 (k + 1) f fd ps sp :=
  F.ok S len fun cdv A outer s H vs Q E hr h => by
    obtain ⟨t, h1, h2⟩ := hbody cdv A outer s H vs Q E hr h
    exact ⟨t, h1.nox, h2⟩
def DefAtD (K : PySem.W.Frag) (x : Str) (st : Stmt) (d : Int) : Prop := ∃ (f : Addr) (oc : Value) (od : Option Addr) (kV dc pm : Value) (an : Option Addr) (cd ct : Value) (sl : Array (Option Value)) (T : Addr) (o : Obj) (its : List Value) (n : Nat),
  PySem.W.nsIn K mainGlobals x = some (some (.ref f)) ∧ K.lookup f = some ⟨oc, od, .func (PySem.W.fnOf x x (defArgs st) (defBody st) (defScope st) (.ref T) kV dc pm an cd ct), sl⟩ ∧ PySem.W.codeIn K cd x = true ∧ PySem.W.keepIn K (.ref f) = true ∧ K.lookup T = some o ∧ o.data = .seq its.toArray n ∧ Vals [V.int d] its
theorem DefAtD.mk {K : PySem.W.Frag} {x : Str} {st : Stmt} {d : Int} {f : Addr} {oc : Value} {od : Option Addr} {kV dc pm : Value} {an : Option Addr} {cd ct : Value} {sl : Array (Option Value)} {T : Addr} {c2 : Value} {d2 : Option Addr} {u : Value} {n : Nat} {s2 : Array (Option Value)}
    (a : PySem.W.nsIn K mainGlobals x = some (some (.ref f))) (l : K.lookup f = some ⟨oc, od, .func (PySem.W.fnOf x x (defArgs st) (defBody st) (defScope st) (.ref T) kV dc pm an cd ct), sl⟩) (c : PySem.W.codeIn K cd x = true) (k : PySem.W.keepIn K (.ref f) = true)
    (l2 : K.lookup T = some ⟨c2, d2, .seq #[u] n, s2⟩) (hv : RelV (.int d) u) : DefAtD K x st d := ⟨f, oc, od, kV, dc, pm, an, cd, ct, sl, T, _, [u], n, a, l, c, k, l2, rfl, .cons hv .nil⟩
theorem DefAtD.ent {K : PySem.W.Frag} {h : Heap} {mg : Str → Option Value} {x : Str} {st : Stmt} {d : Int} {ps : List Str} {n : Nat} (D : DefAtD K x st d) (X : K.In h) (G : h.Ns mainGlobals mg) (hn : n + 1 = ps.length)
    (h1 : ∀ (T : Addr) (kV doc pm : Value) (an : Option Addr) (cdv ct : Value) (us its : List Value), us.length = n + 1 → its.length = 1 → ∃ k, bindArgs (PySem.W.fnOf x x (defArgs st) (defBody st) (defScope st) (.ref T) kV doc pm an cdv ct) ⟨us, []⟩ = seqItems? (.ref T) >>= k ∧ k (some its.toArray) = pure (ps.zip (us ++ its.drop 1)))
    (h0 : ∀ (T : Addr) (kV doc pm : Value) (an : Option Addr) (cdv ct : Value) (us its : List Value), us.length = n → its.length = 1 → ∃ k, bindArgs (PySem.W.fnOf x x (defArgs st) (defBody st) (defScope st) (.ref T) kV doc pm an cdv ct) ⟨us, []⟩ = seqItems? (.ref T) >>= k ∧ k (some its.toArray) = pure (ps.zip (us ++ its.drop 0))) : EntD K mg x st ps d := by
  obtain ⟨f, oc, od, kV, dc, pm, an, cd, ct, sl, T, o, its, m, a, l, c, k, l2, e2, v2⟩ := D
  have F : FunD K x x (defArgs st) (defBody st) (defScope st) [.int d] [] f (PySem.W.fnOf x x (defArgs st) (defBody st) (defScope st) (.ref T) kV dc pm an cd ct) :=
    ⟨⟨oc, od, _, kV, dc, pm, an, cd, ct, sl, rfl, l, c, .inr ⟨by simp, T, o, its, m, rfl, l2, e2, v2⟩, .inl rfl⟩, k⟩
  obtain ⟨d1, r1, b1⟩ := F.binds1 (ps := ps) (n + 1) 1 (by simp) (by simpa using hn) h1
  obtain ⟨d0, r0, b0⟩ := F.binds1 (ps := ps) n 0 (by simp) (by simpa using hn) h0
  cases r1
  exact ⟨f, _, d0, F, PySem.W.mg_of X G a, b1, r0, b0⟩
/-! ### what evaluates to something that R tells; two names unpacked -/
def EvR (te : TE) (σ : L2.St) (H : Hp) (R : V → Hp → Prop) : Prop := ∀ H1, Ex H H1 → ∀ Q : VK, (∀ v H2, Ex H1 H2 → R v H2 → Q v H2) → te σ H1 Q
section
variable {K : PySem.W.Frag} {σ : L2.St} {H : Hp} {td ty tx te : TE} {D : Ends} {tz : TS}
theorem ev_dget {a : Addr} {kvs : List (Key × V)} {k : Key} {v : V} (h : Ev td σ H (.ref a)) (hk : Ev ty σ H (kV k)) (ha : H a = some (.dK kvs)) (hv : valV kvs k = some v) : Ev (tDGet td ty) σ H v := fun H1 e Q q =>
  h H1 e _ fun H2 e2 => hk H2 (e.trans e2) _ fun H3 e3 => ⟨a, v, rfl, by rw [← hv]; exact DGet.k (((e.trans e2).trans e3) _ _ ha), q H3 (e2.trans e3)⟩
theorem er_dget2 {a : Addr} {kvs : List (Key × V)} {k : Key} {ds : List V} (h : Ev td σ H (.ref a)) (hk : Ev ty σ H (kV k)) (hx : EvU tx σ H ds) (ha : H a = some (.dK kvs)) :
    EvR (tDGet2 td ty tx) σ H (fun v H2 => ∃ t, H2 t = some (.tup ds) ∧ v = (valV kvs k).getD (.ref t)) := fun H1 e Q q =>
  h H1 e _ fun H2 e2 => ⟨a, rfl, .inl ⟨kvs, .inl ((e.trans e2) _ _ ha)⟩, hk H2 (e.trans e2) _ fun H3 e3 => hx H3 ((e.trans e2).trans e3) _ fun t H4 nt e4 ht => ⟨_, DGet.k ((((e.trans e2).trans e3).trans e4) _ _ ha), q _ H4 ((e2.trans e3).trans e4) ⟨t, ht, rfl⟩⟩⟩
theorem er_of {v : V} {R : V → Hp → Prop} (h : Ev te σ H v) (hr : ∀ H1, Ex H H1 → R v H1) : EvR te σ H R := fun H1 e Q q => h H1 e Q fun H2 e2 => q v H2 e2 (hr H2 (e.trans e2))
theorem s_unp2 {i j : Nat} {R : V → Hp → Prop} {x y : V} (h : EvR te σ H R) (hr : ∀ v H1, Ex H H1 → R v H1 → ∃ t, v = .ref t ∧ SqT K H1 t [x, y]) (k : ∀ H1, Ex H H1 → D.nx ((σ.set i (some x)).set j (some y)) H1) :
    tAsg te (gTup K 2 (gCons (gName i) (gCons (gName j) gNil))) D σ H := h H (Ex.refl H) _ fun v H1 e r => by
  obtain ⟨t, rfl, ht⟩ := hr v H1 e r
  exact ⟨t, _, rfl, ht, rfl, _, _, rfl, _, _, rfl, rfl, k H1 e⟩
theorem q_unp2 {i j : Nat} {R : V → Hp → Prop} {x y : V} (h : EvR te σ H R) (hr : ∀ v H1, Ex H H1 → R v H1 → ∃ t, v = .ref t ∧ SqT K H1 t [x, y]) (k : ∀ H1, Ex H H1 → tz D ((σ.set i (some x)).set j (some y)) H1) :
    tSeq (tAsg te (gTup K 2 (gCons (gName i) (gCons (gName j) gNil)))) tz D σ H := s_unp2 (D := { D with nx := tz D }) h hr k
end
end Qt
/-! Steps by what R tells; pairs of a value and a new list. -/
namespace Qt
open PySem PySem.Spec PyProof.Rows L2 Evl
section
variable {K : PySem.W.Frag} {σ : L2.St} {H : Hp} {ta tb te : TE} {D : Ends} {tz : TS}
theorem s_asgR {i : Nat} {R : V → Hp → Prop} (h : EvR te σ H R) (k : ∀ v H1, Ex H H1 → R v H1 → D.nx (σ.set i (some v)) H1) : tAsg te (gName i) D σ H := h H (Ex.refl H) _ fun v H1 e r => k v H1 e r
theorem q_asgR {i : Nat} {R : V → Hp → Prop} (h : EvR te σ H R) (k : ∀ v H1, Ex H H1 → R v H1 → tz D (σ.set i (some v)) H1) : tSeq (tAsg te (gName i)) tz D σ H := s_asgR (D := { D with nx := tz D }) h k
theorem s_retR {R : V → Hp → Prop} (h : EvR te σ H R) (k : ∀ v H1, Ex H H1 → R v H1 → D.rt v H1) : tRet te D σ H := h H (Ex.refl H) _ fun v H1 e r => k v H1 e r
/-- (value, a new list) -/
theorem er_pairL {v : V} {xs : List V} (ha : Ev ta σ H v) (hb : ∀ H1, Ex H H1 → EvL tb σ H1 xs) : EvR (tTup (tCons ta (tCons tb tNil))) σ H (fun u H1 => ∃ t L, u = .ref t ∧ H1 t = some (.tup [v, .ref L]) ∧ H1 L = some (.lst xs) ∧ t ≠ L ∧ H t = none ∧ H L = none) := fun H1 e Q q =>
  ha H1 e _ fun H2 e2 => hb H2 (e.trans e2) H2 (Ex.refl _) _ fun L H3 nL e3 hL => ⟨by show 2 ≤ sizeLine; decide, fun t nt => by
    have tL : t ≠ L := fun z => by rw [z, hL] at nt; cases nt
    exact q _ _ ((e2.trans e3).trans (Ex.new nt)) ⟨t, L, rfl, upd_same, (Ex.new nt) _ _ hL, tL, fresh_back ((e.trans e2).trans e3) nt, fresh_back (e.trans e2) nL⟩⟩
/-- a comparison of data, from what R tells of the left -/
theorem er_eqD {R : V → Hp → Prop} {y : V} {d : PyData} (ha : EvR ta σ H R) (hx : ∀ v H1, Ex H H1 → R v H1 → ∀ H2, Ex H1 H2 → Dp K H2 v d) (hb : ∀ H1, Ex H H1 → Ev tb σ H1 y) (hy : ∀ H1, Ex H H1 → Dp K H1 y d) (s : SeqAt.shaped d = true) : Ev (tOp (rEqD K) ta tb) σ H (.bl true) := fun H1 e Q q =>
  ha H1 e _ fun v H2 e2 r => hb H2 (e.trans e2) H2 (Ex.refl _) _ fun H3 e3 => eq_same (hx v H2 (e.trans e2) r H3 e3) (hy H3 ((e.trans e2).trans e3)) s (q H3 (e2.trans e3))
theorem er_neD {R : V → Hp → Prop} {y : V} {d : PyData} (ha : EvR ta σ H R) (hx : ∀ v H1, Ex H H1 → R v H1 → ∀ H2, Ex H1 H2 → Dp K H2 v d) (hb : ∀ H1, Ex H H1 → Ev tb σ H1 y) (hy : ∀ H1, Ex H H1 → Dp K H1 y d) (s : SeqAt.shaped d = true) : Ev (tOp (rNeD K) ta tb) σ H (.bl false) := fun H1 e Q q =>
  ha H1 e _ fun v H2 e2 r => hb H2 (e.trans e2) H2 (Ex.refl _) _ fun H3 e3 => ne_same (hx v H2 (e.trans e2) r H3 e3) (hy H3 ((e.trans e2).trans e3)) s (q H3 (e2.trans e3))
/-- a call whose answer R tells -/
theorem er_call {sp : Sp} {dvs vs : List V} {E : XK} {t : TA} {R : V → Hp → Prop} (ha : EvA t σ H vs) (h : ∀ H1, Ex H H1 → ∀ (Q : VK) (E : XK), (∀ v H2, Ex H1 H2 → R v H2 → Q v H2) → sp (vs ++ dvs) H1 Q E) : EvR (tCall sp dvs E t) σ H R := fun H1 e Q q =>
  ha H1 e _ fun H2 e2 => h H2 (e.trans e2) Q E fun v H3 e3 r => q v H3 (e2.trans e3) r
theorem er_imp {R S : V → Hp → Prop} (h : EvR te σ H R) (k : ∀ v H1, Ex H H1 → R v H1 → S v H1) : EvR te σ H S := fun H1 e Q q => h H1 e Q fun v H2 e2 r => q v H2 e2 (k v H2 (e.trans e2) r)
end
/-! ### texts within a list; a list's truth -/
theorem inV_strs {z : Str} {l : List Str} : inV (.str z) (l.map V.str) = decide (z ∈ l) := by
  unfold inV
  rw [List.any_map, Bool.eq_iff_iff, List.any_eq_true, decide_eq_true_iff]
  constructor
  · rintro ⟨x, hx, e⟩
    have e' : (x == z) = true := e
    rw [← beq_iff_eq.mp e']
    exact hx
  · intro h
    exact ⟨z, h, by show (z == z) = true; exact beq_self_eq_true z⟩
theorem shaped_int (i : Int) : SeqAt.shaped (.int i) = true := by
  unfold SeqAt.shaped
  show ((PyData.int i).canLay0 && decide ((PyData.int i).depth ≤ 64)) = true
  rfl
section
variable {K : PySem.W.Frag} {σ : L2.St} {H : Hp} {ta tb te : TE} {D : Ends} {tz : TS}
theorem rv_eqNil {a b : Addr} {l : List Str} (ha : SqL K H a (l.map V.str)) (hb : SqL K H b []) (hl : ∀ z ∈ l, lowS z) : RV (rEqD K) (.ref a) (.ref b) H (.bl l.isEmpty) := fun H1 e Q q =>
  ⟨.list (l.map PyData.str), .list [], .lst (ex_l e ha) (dp_texts _), .lst (ex_l e hb) .nil, shaped_texts hl, by decide +kernel, by
    have z : PyData.eqv (.list (l.map PyData.str)) (.list []) = l.isEmpty := by
      cases l with
      | nil => exact SeqAt.eqv_refl _ rfl
      | cons x r => rfl
    rw [z]
    exact q H1 (Ex.refl H1)⟩
/-- xs.extend(a new list) -/
theorem s_extL {l : Addr} {xs ys : List V} (hl : H l = some (.lst xs)) (ha : Ev ta σ H (.ref l)) (h : EvL te σ H ys) (hz : xs.length + ys.length ≤ sizeLine) (k : ∀ H1, Ex H H1 → D.nx σ (upd H1 l (.lst (xs ++ ys)))) :
    tDrop (tBM K "list" rExtend ta (tCons te tNil)) D σ H := ha H (Ex.refl H) _ fun H1 e1 =>
  ⟨Or.inl ⟨rfl, xs, sq_of (e1 l _ hl)⟩, h H1 e1 _ fun p H2 hp e2 h2 => ⟨l, p, xs, ys, rfl, rfl, e2 l _ (e1 l _ hl), h2, hz, k H2 (e1.trans e2)⟩⟩
theorem cut_but {α : Type} {xs : List V} : cutV xs none (some (-1)) = xs.dropLast := by
  unfold cutV
  rw [HT.sIx_none, List.drop_zero, Nat.sub_zero, List.dropLast_eq_take]
  congr 1
  show (if ((-1 : Int)) < 0 then ((-1 : Int) + (xs.length : Int)).toNat else min (-1 : Int).toNat xs.length) = _
  rw [if_pos (by omega)]
  omega
theorem at_last1 {ls : List V} {v : V} (h : ls ≠ []) (hv : ls[ls.length - 1]? = some v) : atI ls (-1) = some v := by
  have := List.length_pos_iff.mpr h
  unfold atI
  unfold ixN
  rw [if_neg (by omega), if_pos (by omega)]
  simp only [Option.bind_some]
  rw [← hv]
  congr 1
  omega
end
end Qt
/-! Lists of tuples of flat values. -/
namespace Qt
open PySem PySem.Spec PyProof.Rows L2 Evl
/-- at p stands a list of tuples: their contents are xss -/
def LTup (H : Hp) (p : Addr) (xss : List (List V)) : Prop := ∃ ts : List Addr, H p = some (.lst (ts.map V.ref)) ∧ Paired (fun t x => H t = some (.tup x)) ts xss
theorem pr_imp {α β : Type} {R S : α → β → Prop} : ∀ {ts : List α} {ws : List β}, Paired R ts ws → (∀ t w, t ∈ ts → R t w → S t w) → Paired S ts ws
  | _, _, .nil, _ => .nil
  | _, _, .cons h r, k => .cons (k _ _ List.mem_cons_self h) (pr_imp r fun t w ht => k t w (List.mem_cons_of_mem _ ht))
theorem pr_put {α β : Type} {R : α → β → Prop} : ∀ {ts : List α} {ws : List β} {t : α} {w : β}, Paired R ts ws → R t w → Paired R (ts ++ [t]) (ws ++ [w])
  | _, _, _, _, .nil, h => .cons h .nil
  | _, _, _, _, .cons h r, h2 => .cons h (pr_put r h2)
theorem pr_len {α β : Type} {R : α → β → Prop} : ∀ {ts : List α} {ws : List β}, Paired R ts ws → ts.length = ws.length
  | _, _, .nil => rfl
  | _, _, .cons _ r => congrArg (· + 1) (pr_len r)
theorem LTup.ex {H H1 : Hp} {p : Addr} {xss : List (List V)} (h : LTup H p xss) (e : Ex H H1) : LTup H1 p xss := by
  obtain ⟨ts, a, b⟩ := h
  exact ⟨ts, e _ _ a, pr_imp b fun t x _ q => e _ _ q⟩
theorem LTup.nil {H : Hp} {p : Addr} (h : H p = some (.lst [])) : LTup H p [] := ⟨[], h, .nil⟩
/-- one more tuple behind: t is new and the list at p was as told in the heap before -/
theorem LTup.snoc {H H1 : Hp} {p t : Addr} {xss : List (List V)} {x : List V} {ts : List Addr} (hp : H p = some (.lst (ts.map V.ref))) (hq : Paired (fun t x => H t = some (.tup x)) ts xss) (e : Ex H H1) (ht : H1 t = some (.tup x)) :
    LTup (upd H1 p (.lst (ts.map V.ref ++ [.ref t]))) p (xss ++ [x]) := by
  have hp1 := e _ _ hp
  refine ⟨ts ++ [t], by rw [upd_same, List.map_append]; rfl, pr_put (pr_imp hq fun u x _ q => ?_) ?_⟩
  · have z := e _ _ q
    rw [upd_ne (fun y => by rw [y, hp1] at z; cases z)]
    exact z
  · rw [upd_ne (fun y => by rw [y, hp1] at ht; cases ht)]
    exact ht
def datV : V → PyData
  | .int i => .int i
  | .str z => .str z
  | .bl b => .bool b
  | _ => .none
def okV : V → Prop
  | .int _ => True
  | .str z => lowS z
  | .bl _ => True
  | .non => True
  | _ => False
theorem dp_flat {K : PySem.W.Frag} {H : Hp} {v : V} (h : okV v) : Dp K H v (datV v) := by
  cases v with
  | int i => exact .int i
  | str z => exact .str z
  | bl b => exact .bl b
  | non => exact .non
  | _ => exact h.elim
theorem dp_flats {K : PySem.W.Frag} {H : Hp} : ∀ {xs : List V}, (∀ v ∈ xs, okV v) → DpAll K H xs (xs.map datV)
  | [], _ => .nil
  | v :: r, h => .cons (dp_flat (h v List.mem_cons_self)) (dp_flats fun u hu => h u (List.mem_cons_of_mem _ hu))
theorem dp_ltup0 {K : PySem.W.Frag} {H : Hp} : ∀ {ts : List Addr} {xss : List (List V)}, Paired (fun t x => H t = some (.tup x)) ts xss → (∀ x ∈ xss, ∀ v ∈ x, okV v) → DpAll K H (ts.map V.ref) (xss.map fun x => .tuple (x.map datV))
  | _, _, .nil, _ => .nil
  | _, _, .cons h r, k => .cons (.tup (st_of h) (dp_flats (k _ List.mem_cons_self))) (dp_ltup0 r fun x hx => k x (List.mem_cons_of_mem _ hx))
def dTups (xss : List (List V)) : PyData := .list (xss.map fun x => .tuple (x.map datV))
theorem dp_ltup {K : PySem.W.Frag} {H : Hp} {p : Addr} {xss : List (List V)} (h : LTup H p xss) (k : ∀ x ∈ xss, ∀ v ∈ x, okV v) : Dp K H (.ref p) (dTups xss) := by
  obtain ⟨ts, a, b⟩ := h
  exact .lst (sq_of a) (dp_ltup0 b k)
theorem lay_flat {v : V} (h : okV v) : (datV v).canLay0 = true ∧ (datV v).depth ≤ 0 := by
  cases v with
  | int i => exact ⟨rfl, Nat.le_refl _⟩
  | str z => exact ⟨strOk_low h, Nat.le_refl _⟩
  | bl b => exact ⟨rfl, Nat.le_refl _⟩
  | non => exact ⟨rfl, Nat.le_refl _⟩
  | _ => exact h.elim
theorem shaped_ltup {xss : List (List V)} (k : ∀ x ∈ xss, ∀ v ∈ x, okV v) : SeqAt.shaped (dTups xss) = true := shaped_list fun d hd => by
  obtain ⟨x, hx, rfl⟩ := List.mem_map.mp hd
  refine ⟨lay_all (ds := x.map datV) fun d hd => ?_, ?_⟩
  · obtain ⟨v, hv, rfl⟩ := List.mem_map.mp hd
    exact (lay_flat (k x hx v hv)).1
  · show PyData.depthAll (x.map datV) + 1 ≤ 10
    have := depth_all (n := 0) (ds := x.map datV) fun d hd => by
      obtain ⟨v, hv, rfl⟩ := List.mem_map.mp hd
      exact (lay_flat (k x hx v hv)).2
    omega
def EvG (te : TE) (σ : L2.St) (H : Hp) (xss : List (List V)) : Prop := ∀ H1, Ex H H1 → ∀ Q : VK, (∀ p H2, H1 p = none → Ex H1 H2 → LTup H2 p xss → Q (.ref p) H2) → te σ H1 Q
section
variable {K : PySem.W.Frag} {σ : L2.St} {H : Hp} {te1 te2 til : TE} {tt : TT} {ta : TA} {D : Ends} {tz : TS}
/-- what two fors with a test give, up to the outer turn i -/
def givenF (n2 : Nat) (f : Nat → Nat → Bool) (v : Nat → Nat → List V) (i : Nat) : List (List V) := (List.range i).flatMap fun a => ((List.range n2).filter (f a)).map (v a)
theorem givenF_succ (n2 : Nat) (f : Nat → Nat → Bool) (v : Nat → Nat → List V) (i : Nat) : givenF n2 f v (i + 1) = givenF n2 f v i ++ ((List.range n2).filter (f i)).map (v i) := by
  unfold givenF
  rw [List.range_succ, List.flatMap_append, List.flatMap_singleton]
theorem givenF_len (n2 : Nat) (f : Nat → Nat → Bool) (v : Nat → Nat → List V) (i : Nat) : (givenF n2 f v i).length ≤ i * n2 := by
  induction i with
  | zero => simp [givenF]
  | succ i ih =>
    have z := List.length_filter_le (f i) (List.range n2)
    rw [List.length_range] at z
    rw [givenF_succ, List.length_append, List.length_map, Nat.succ_mul]
    omega
/-- [(a, b) for i in range(n) for s in a text if ..] -/
theorem eg_lc2RS {n : Int} {z : Str} {j l : Nat} {vs vs1 : List Nat} (f : Nat → Nat → Bool) (v1 v2 : Nat → Nat → V) (h : EvA ta σ H [.int n]) (hn : 0 ≤ n ∧ n ≤ 1000) (hy : z.length ≤ 10)
    (hw : ∀ x, wipe ((wipe σ vs).set j (some x)) vs = wipe σ vs)
    (hw1 : ∀ x s, wipe ((wipe ((wipe σ vs).set j (some x)) vs1).set l (some s)) vs1 = wipe ((wipe σ vs).set j (some x)) vs1)
    (hi : ∀ (i : Nat) H1, Ex H H1 → (i : Int) < n → Ev til ((wipe σ vs).set j (some (.int (i : Int)))) H1 (.str z))
    (ht : ∀ (i m : Nat) H1, Ex H H1 → (i : Int) < n → m < z.length → EvT tt ((wipe ((wipe σ vs).set j (some (.int (i : Int)))) vs1).set l (some (sg z m))) H1 (f i m))
    (he1 : ∀ (i m : Nat) H1, Ex H H1 → (i : Int) < n → m < z.length → Ev te1 ((wipe ((wipe σ vs).set j (some (.int (i : Int)))) vs1).set l (some (sg z m))) H1 (v1 i m))
    (he2 : ∀ (i m : Nat) H1, Ex H H1 → (i : Int) < n → m < z.length → Ev te2 ((wipe ((wipe σ vs).set j (some (.int (i : Int)))) vs1).set l (some (sg z m))) H1 (v2 i m)) :
    EvG (tLc2 (iRng1 ta) (gName j) tYes (iStr til) (gName l) tt (tTup (tCons te1 (tCons te2 tNil))) vs vs1) σ H (givenF z.length f (fun i m => [v1 i m, v2 i m]) n.toNat) := fun H0 e Q q => h H0 e _ fun H1 e1 => ⟨n, rfl, by omega, by omega, fun Dl hD => by
  refine lc2_out (walk_range (lo := 0) (n := n.toNat)) (fun i H' => Ex H1 H' ∧ LTup H' Dl (givenF z.length f (fun i m => [v1 i m, v2 i m]) i)) ⟨Ex.new hD, LTup.nil upd_same⟩ (fun _ _ _ p => trivial) (fun i y H2 H' hlt p y' => ?_) (fun H' p => q Dl H' (fresh_back e1 hD) (e1.trans p.1) p.2)
  obtain ⟨rfl, rfl⟩ := y'
  obtain ⟨p1, p2⟩ := p
  dsimp only
  rw [Int.zero_add]
  have hi' : (i : Int) < n := by omega
  refine ⟨hw _, ?_⟩
  refine yes_if ?_
  refine hi i H1 (e.trans e1) hi' _ p1 _ fun H3 e3 => ⟨z, rfl, ?_⟩
  refine lc2_in (walk_str (z := z)) (fun m H' => Ex H1 H' ∧ LTup H' Dl (givenF z.length f (fun i m => [v1 i m, v2 i m]) i ++ ((List.range m).filter (f i)).map fun m => [v1 i m, v2 i m])) ⟨p1.trans e3, by rw [List.range_zero, List.filter_nil, List.map_nil, List.append_nil]; exact p2.ex e3⟩ (fun _ _ _ p => trivial) (fun m s H4 H5 hmlt p y2 => ?_) (fun H' p => ?_)
  · obtain ⟨rfl, c, hc, rfl⟩ := y2
    obtain ⟨g1, ts, g2, g3⟩ := p
    have hml : m < z.length := hmlt
    refine ⟨hw1 _ _, ?_⟩
    rw [sg_of hc]
    refine ht i m H1 (e.trans e1) hi' hml _ g1 _ fun H6 e6 => ?_
    cases hf : f i m with
    | true =>
      refine iteT ?_
      refine he1 i m H1 (e.trans e1) hi' hml _ (g1.trans e6) _ fun H7 e7 => he2 i m H1 (e.trans e1) hi' hml _ ((g1.trans e6).trans e7) _ fun H8 e8 => ⟨by show 2 ≤ sizeLine; decide, fun t nt => ?_⟩
      have e68 := (e6.trans e7).trans e8
      refine ⟨_, (Ex.new nt) _ _ (e68 _ _ g2), ?_, Ex.mut ((g1.trans e68).trans (Ex.new nt)) hD, ?_⟩
      · have b0 := pr_len g3
        have b1 := givenF_len z.length f (fun i m => [v1 i m, v2 i m]) i
        have b2 := List.length_filter_le (f i) (List.range m)
        rw [List.length_range] at b2
        rw [List.length_append, List.length_map] at b0
        have b3 : i * z.length ≤ 1000 * 10 := Nat.mul_le_mul (by omega) hy
        rw [List.length_map, sizeLine_eq]
        omega
      · rw [List.range_succ, List.filter_append, List.filter_cons_of_pos hf, List.map_append, ← List.append_assoc]
        exact LTup.snoc g2 g3 (e68.trans (Ex.new nt)) upd_same
    | false =>
      refine iteF ⟨g1.trans e6, ?_⟩
      rw [List.range_succ, List.filter_append, List.filter_cons_of_neg (by rw [hf]; exact Bool.false_ne_true), List.filter_nil, List.append_nil]
      exact LTup.ex ⟨ts, g2, g3⟩ e6
  · refine ⟨p.1, ?_⟩
    rw [givenF_succ]
    exact p.2⟩
theorem s_retG {te : TE} {xss : List (List V)} (h : EvG te σ H xss) (k : ∀ p H1, H p = none → Ex H H1 → LTup H1 p xss → D.rt (.ref p) H1) : tRet te D σ H := h H (Ex.refl H) _ fun p H1 np e hp => k p H1 np e hp
/-- the promise of a list of tuples -/
def RetT (xss : List (List V)) (H : Hp) (Q : VK) : Prop := ∀ p H2, H p = none → Ex H H2 → LTup H2 p xss → Q (.ref p) H2
end
end Qt
/-! min, <, sorted of data of any depth. -/
namespace Qt
open PySem PySem.Spec PyProof.Rows L2 Evl PySem.W
theorem depthAll_mem {n : Nat} : ∀ {ds : List PyData}, (∀ d ∈ ds, d.depth ≤ n) → PyData.depthAll ds ≤ n
  | [], _ => by simp [PyData.depthAll]
  | d :: r, h => by
    have h1 := h d List.mem_cons_self
    have h2 := depthAll_mem fun x hx => h x (List.mem_cons_of_mem _ hx)
    simp only [PyData.depthAll]
    omega
theorem canLay_mem {d : PyData} : ∀ {ds : List PyData}, PyData.canLayAll0 ds = true → d ∈ ds → d.canLay0 = true
  | [], _, h => nomatch h
  | e :: r, hl, h => by
    simp only [PyData.canLayAll0, Bool.and_eq_true] at hl
    rcases List.mem_cons.mp h with rfl | h
    · exact hl.1
    · exact canLay_mem hl.2 h
theorem minD_mem (d : PyData) : ∀ ds : List PyData, minD d ds ∈ d :: ds := fun ds => by
  unfold minD
  induction ds generalizing d with
  | nil => exact List.mem_cons_self
  | cons e r ih =>
    rw [List.foldl_cons]
    have z := ih (if dataLt e d = true then e else d)
    rcases List.mem_cons.mp z with z | z
    · rw [z]
      split
      · exact List.mem_cons_of_mem _ List.mem_cons_self
      · exact List.mem_cons_self
    · exact List.mem_cons_of_mem _ (List.mem_cons_of_mem _ z)
section
variable {X : Cx}
/-- min(l) of alike data: the item that stands there -/
def rMinG (K : PySem.W.Frag) : List V → Hp → VK → Prop := fun xs H Q => ∃ (a : Addr) (ys : List V) (d : PyData) (ds : List PyData), xs = [.ref a] ∧ SqL K H a ys ∧ DpAll K H ys (d :: ds) ∧ AlikeAll (d :: ds) ∧ (∀ z ∈ d :: ds, z.depth ≤ 60) ∧ PyData.canLayAll0 (d :: ds) = true ∧
  ∀ (i : Nat) (y : V), ys[i]? = some y → (d :: ds)[i]? = some (minD d ds) → Q y H
theorem cr_minG (hc : X.calm = true) (hu : X.A.units + 64 < cLine) : CallR X (.builtin "min") (rMinG X.K) := by
  intro pins s σ H xs us Q I r h
  obtain ⟨a, ys, d, ds, rfl, hs, hd, hal, hdp, hlay, q⟩ := h
  obtain ⟨u, rfl, ru⟩ := vals1 r
  obtain rfl : u = Value.ref a := ru
  obtain ⟨its, rv, hl, hz⟩ := I.list hs
  obtain ⟨as, hr⟩ := Dp.readsAll I (d :: ds) ys its hd rv
  have hdd := depthAll_mem hdp
  refine min_list_data (I.ok.hd hc) hl.isList hr hal (by omega) fun i v h' tk bs hi hm k => ?_
  have hi' : its[i]? = some v := by simpa using hi
  have hil : i < its.length := (List.getElem?_eq_some_iff.mp hi').1
  have hyl : i < ys.length := by rw [rv.length]; exact hil
  have hdl : i < (d :: ds).length := by
    have := SeqAt.ReadsAll.length (d :: ds) its as hr
    omega
  obtain ⟨u, hu1, hu2⟩ := rv.get (List.getElem?_eq_getElem hyl)
  obtain rfl : v = u := Option.some.inj (hi'.symm.trans hu1)
  refine ⟨ys[i], H, I.kept k, hu2, q i _ (List.getElem?_eq_getElem hyl) ?_⟩
  obtain ⟨cs, r1, _, mem, _⟩ := readsAll_atA (vs := its.toArray) hr i v (by simpa using hi)
  have e1 := SeqAt.readOf_eq (canLay_mem hlay mem) (reads_keeps k r1)
  have e2 := SeqAt.readOf_eq (canLay_mem hlay (minD_mem d ds)) hm
  rw [List.getElem?_eq_getElem hdl]
  rw [e2, List.getD_eq_getElem?_getD, List.getElem?_eq_getElem hdl] at e1
  exact congrArg some e1.symm
/-- x < y of alike data -/
def rLtG (K : PySem.W.Frag) : R2 := fun x y H Q => ∃ d e, Dp K H x d ∧ Dp K H y e ∧ alike d e = true ∧ d ≠ .none ∧ d.depth ≤ 60 ∧ Q (.bl (dataLt d e)) H
theorem op_ltG (hu : X.A.units + 64 < cLine) : OpR X (compareOp .Lt) (rLtG X.K) := by
  intro pins s σ H x y v u Q I rx ry h
  obtain ⟨d, e, hd, he, ha, hn, hdp, q⟩ := h
  obtain ⟨as, r1⟩ := Dp.reads I d x v hd rx
  obtain ⟨bs, r2⟩ := Dp.reads I e y u he ry
  exact lt_data r1 r2 ha hn (by have := Nat.min_le_left d.depth e.depth; omega) ⟨.bl _, H, I, rfl, q⟩
theorem each_rel {β : Type} {f : β → V} : ∀ {bs : List β} {us : List Value}, Vals (bs.map f) us → EachIs (fun v b => RelV (f b) v) us bs
  | [], _, h => by cases h; exact .nil
  | b :: r, _, h => by
    cases h with
    | cons h1 h2 => exact .cons h1 (each_rel h2)
theorem each_vals {β : Type} {f : β → V} : ∀ {bs : List β} {us : List Value}, EachIs (fun v b => RelV (f b) v) us bs → Vals (bs.map f) us
  | _, _, .nil => .nil
  | _, _, .cons h1 h2 => .cons h1 (each_vals h2)
theorem each_reads {β : Type} {h : Heap} {enc : β → PyData} : ∀ {bs : List β} {us : List Value} {as : List Addr}, ReadsAll h us (bs.map enc) as → EachIs (fun v b => ∃ as, Reads h v (enc b) as) us bs := fun r => readsAll_each enc r
/-- sorted(l) of alike data: the items, each beside its data -/
def rSortedG (K : PySem.W.Frag) : List V → Hp → VK → Prop := fun xs H Q => ∃ (a : Addr) (zs : List (PyData × V)), xs = [.ref a] ∧ SqL K H a (zs.map Prod.snd) ∧ DpAll K H (zs.map Prod.snd) (zs.map Prod.fst) ∧ AllAlike (zs.map Prod.fst) ∧ Sortable (zs.map Prod.fst) ∧ (∀ z ∈ zs, z.1.depth ≤ 60) ∧
  ∀ p, H p = none → Q (.ref p) (upd H p (.lst ((zs.mergeSort (dataLe false Prod.fst)).map Prod.snd)))
theorem cr_sortedG (hu : X.A.units + 64 < cLine) : CallR X (.builtin "sorted") (rSortedG X.K) := by
  intro pins s σ H xs us Q I r h
  obtain ⟨a, zs, rfl, hs, hd, hal, hso, hdp, q⟩ := h
  obtain ⟨u, rfl, ru⟩ := vals1 r
  obtain rfl : u = Value.ref a := ru
  obtain ⟨its, rv, hl, hz⟩ := I.list hs
  obtain ⟨as, hr⟩ := Dp.readsAll I (zs.map Prod.fst) _ its hd rv
  refine sorted_data (vs := its) (bs := zs) (enc := Prod.fst) (R := fun v z => RelV z.2 v) hl.isList (each_rel rv) (readsAll_each _ hr) hal hso (by rw [← List.length_map (f := Prod.snd)]; exact hz) (fun b hb => by have := hdp b hb; omega) fun out hlen he => ?_
  have k : ∀ b o, s.heap.get? b = some o → (sortedAll s.heap its out.toArray).get? b = some o := fun b o e => sortedAll_old e
  obtain ⟨n, hn⟩ := sortedAll_at s.heap its out.toArray
  have hv : Vals ((zs.mergeSort (dataLe false Prod.fst)).map Prod.snd) out := each_vals he
  refine ⟨.ref (s.heap.objs.size + 1), upd H (s.heap.objs.size + 1) (.lst ((zs.mergeSort (dataLe false Prod.fst)).map Prod.snd)), I.laid (a := s.heap.objs.size + 1) (o := .lst ((zs.mergeSort (dataLe false Prod.fst)).map Prod.snd)) (t' := s.toks) k (Nat.le_succ _) ⟨?_, out, n, hv, hn⟩, rfl, q _ (I.hok.fresh (Nat.le_succ _))⟩
  rw [List.length_map, List.length_mergeSort, ← List.length_map (f := Prod.snd)]
  exact hz
end
end Qt
/-! Lists of pairs, made by one for; min of them; comparing answers that both are told. -/
namespace Qt
open PySem PySem.Spec PyProof.Rows L2 Evl PySem.W
theorem pr_at {α β : Type} {R : α → β → Prop} : ∀ {ts : List α} {ws : List β} {i : Nat} {t : α} {w : β}, Paired R ts ws → ts[i]? = some t → ws[i]? = some w → R t w
  | _, _, _, _, _, .nil, h, _ => by simp at h
  | _, _, 0, _, _, .cons h _, a, b => by
    simp at a b
    rw [← a, ← b]
    exact h
  | _, _, i + 1, _, _, .cons _ r, a, b => pr_at r (by simpa using a) (by simpa using b)
section
variable {K : PySem.W.Frag} {σ : L2.St} {H : Hp} {ta tb tl te te1 te2 : TE} {t : TT} {D : Ends} {tz : TS}
theorem eg_is {xss yss : List (List V)} (h : EvG te σ H xss) (e : xss = yss) : EvG te σ H yss := e ▸ h
theorem q_asgG {i : Nat} {xss : List (List V)} (h : EvG te σ H xss) (k : ∀ p H1, H p = none → Ex H H1 → LTup H1 p xss → tz D (σ.set i (some (.ref p))) H1) : tSeq (tAsg te (gName i)) tz D σ H :=
  h H (Ex.refl H) _ fun p H1 np e hp => k p H1 np e hp
/-- [(a, b) for x in a list if ..] -/
theorem eg_lcL {a : Addr} {xs : List V} {j : Nat} {vs : List Nat} (f : Nat → Bool) (v1 v2 : Nat → V) (h : Ev tl σ H (.ref a)) (hx : SqL K H a xs) (hz : xs.length ≤ 40000) (hw : ∀ x, wipe ((wipe σ vs).set j (some x)) vs = wipe σ vs)
    (ht : ∀ (i : Nat) (x : V) H1, Ex H H1 → xs[i]? = some x → EvT t ((wipe σ vs).set j (some x)) H1 (f i))
    (he1 : ∀ (i : Nat) (x : V) H1, Ex H H1 → xs[i]? = some x → Ev te1 ((wipe σ vs).set j (some x)) H1 (v1 i))
    (he2 : ∀ (i : Nat) (x : V) H1, Ex H H1 → xs[i]? = some x → Ev te2 ((wipe σ vs).set j (some x)) H1 (v2 i)) :
    EvG (tLc (iList K tl) (gName j) t (tTup (tCons te1 (tCons te2 tNil))) vs) σ H (((List.range xs.length).filter f).map fun i => [v1 i, v2 i]) := fun H0 e Q q => h H0 e _ fun H1 e1 => ⟨a, rfl, ⟨xs, ex_l (e.trans e1) hx⟩, fun Dl hD => by
  refine lc_list (xs := xs) (fun i H' => Ex H1 H' ∧ LTup H' Dl (((List.range i).filter f).map fun i => [v1 i, v2 i])) ⟨Ex.new hD, LTup.nil upd_same⟩ (fun i H' _ p => ex_l ((e.trans e1).trans p.1) hx) (fun i x H2 hi p => ⟨hw x, ?_⟩) (fun H' p => q Dl H' (fresh_back e1 hD) (e1.trans p.1) p.2)
  obtain ⟨g1, ts, g2, g3⟩ := p
  have hil := (List.getElem?_eq_some_iff.mp hi).1
  refine ht i x H1 (e.trans e1) hi _ g1 _ fun H6 e6 => ?_
  cases hf : f i with
  | true =>
    refine iteT ?_
    refine he1 i x H1 (e.trans e1) hi _ (g1.trans e6) _ fun H7 e7 => he2 i x H1 (e.trans e1) hi _ ((g1.trans e6).trans e7) _ fun H8 e8 => ⟨by show 2 ≤ sizeLine; decide, fun p np => ?_⟩
    have e68 := (e6.trans e7).trans e8
    refine ⟨_, (Ex.new np) _ _ (e68 _ _ g2), ?_, Ex.mut ((g1.trans e68).trans (Ex.new np)) hD, ?_⟩
    · have b0 := pr_len g3
      have b2 := List.length_filter_le f (List.range i)
      rw [List.length_range] at b2
      rw [List.length_map] at b0
      rw [List.length_map, sizeLine_eq]
      omega
    · rw [List.range_succ, List.filter_append, List.filter_cons_of_pos hf, List.map_append]
      exact LTup.snoc g2 g3 (e68.trans (Ex.new np)) upd_same
  | false =>
    refine iteF ⟨g1.trans e6, ?_⟩
    rw [List.range_succ, List.filter_append, List.filter_cons_of_neg (by rw [hf]; exact Bool.false_ne_true), List.filter_nil, List.append_nil]
    exact LTup.ex ⟨ts, g2, g3⟩ e6⟩
theorem rv_neNilG {a b : Addr} {xss : List (List V)} (ha : LTup H a xss) (hb : SqL K H b []) (k : ∀ x ∈ xss, ∀ v ∈ x, okV v) : RV (rNeD K) (.ref a) (.ref b) H (.bl (!xss.isEmpty)) := fun H1 e Q q =>
  ⟨dTups xss, .list [], dp_ltup (ha.ex e) k, .lst (ex_l e hb) .nil, shaped_ltup k, by decide +kernel, by
    have z : PyData.eqv (dTups xss) (.list []) = xss.isEmpty := by
      cases xss with
      | nil => exact SeqAt.eqv_refl _ rfl
      | cons x r => rfl
    rw [z]
    exact q H1 (Ex.refl H1)⟩
theorem er_neDD {R R2 : V → Hp → Prop} {d : PyData} (ha : EvR ta σ H R) (hx : ∀ v H1, Ex H H1 → R v H1 → ∀ H2, Ex H1 H2 → Dp K H2 v d) (hb : ∀ H1, Ex H H1 → EvR tb σ H1 R2) (hy : ∀ v H1, Ex H H1 → R2 v H1 → Dp K H1 v d) (s : SeqAt.shaped d = true) : Ev (tOp (rNeD K) ta tb) σ H (.bl false) := fun H1 e Q q =>
  ha H1 e _ fun v H2 e2 r => hb H2 (e.trans e2) H2 (Ex.refl _) _ fun y H3 e3 r3 => ne_same (hx v H2 (e.trans e2) r H3 e3) (hy y H3 ((e.trans e2).trans e3) r3) s (q H3 (e2.trans e3))
theorem er_if {b : Bool} {R : V → Hp → Prop} (h : EvT t σ H b) (h1 : b = true → EvR ta σ H R) (h2 : b = false → EvR tb σ H R) : EvR (tIf t ta tb) σ H R := fun H1 e Q q => h H1 e _ fun H2 e2 => by
  cases b with
  | true => exact iteT (h1 rfl H2 (e.trans e2) Q fun v H3 e3 => q v H3 (e2.trans e3))
  | false => exact iteF (h2 rfl H2 (e.trans e2) Q fun v H3 e3 => q v H3 (e2.trans e3))
theorem minD_is {x0 : PyData} : ∀ (ds : List PyData) (d : PyData), x0 ∈ d :: ds → (∀ e ∈ d :: ds, e = x0 ∨ (dataLt x0 e = true ∧ dataLt e x0 = false)) → minD d ds = x0
  | [], d, hm, _ => by
    have : x0 = d := by simpa using hm
    rw [this]
    rfl
  | e :: ds, d, hm, h => by
    show minD (if dataLt e d = true then e else d) ds = x0
    have hd := h d List.mem_cons_self
    have he := h e (List.mem_cons_of_mem _ List.mem_cons_self)
    have hr : ∀ y ∈ ds, y = x0 ∨ (dataLt x0 y = true ∧ dataLt y x0 = false) := fun y hy => h y (List.mem_cons_of_mem _ (List.mem_cons_of_mem _ hy))
    refine minD_is ds _ ?_ fun y hy => ?_
    · rcases List.mem_cons.mp hm with q | q
      · subst q
        rcases he with q | q
        · rw [q, ite_self]; exact List.mem_cons_self
        · rw [q.2, if_neg Bool.false_ne_true]; exact List.mem_cons_self
      · rcases List.mem_cons.mp q with q | q
        · subst q
          rcases hd with q | q
          · rw [q, ite_self]; exact List.mem_cons_self
          · rw [q.1, if_pos rfl]; exact List.mem_cons_self
        · exact List.mem_cons_of_mem _ q
    · rcases List.mem_cons.mp hy with q | q
      · rw [q]
        split
        · exact he
        · exact hd
      · exact hr y q
/-- min of a list of pairs: the one that is x0 -/
theorem er_minG {a : Addr} {xss : List (List V)} {x0 : List V} {ta : TA} (h : EvA ta σ H [.ref a]) (ha : LTup H a xss) (k : ∀ x ∈ xss, ∀ v ∈ x, okV v) (al : ∀ x ∈ xss, ∀ y ∈ xss, alikeAll (x.map datV) (y.map datV) = true) (hm : x0 ∈ xss) (inj : ∀ x ∈ xss, x.map datV = x0.map datV → x = x0)
    (lt : ∀ x ∈ xss, x = x0 ∨ (dataLt (.tuple (x0.map datV)) (.tuple (x.map datV)) = true ∧ dataLt (.tuple (x.map datV)) (.tuple (x0.map datV)) = false)) : EvR (tCB (rMinG K) ta) σ H (fun v G => ∃ p, v = .ref p ∧ G p = some (.tup x0)) := fun H1 e Q q => by
  refine h H1 e _ fun H2 e2 => ?_
  have ha2 := ha.ex (e.trans e2)
  cases xss with
  | nil => cases hm
  | cons y0 yss =>
    obtain ⟨ts, hl, hp⟩ := ha2
    have hdp := dp_ltup0 (K := K) hp k
    refine ⟨a, ts.map V.ref, .tuple (y0.map datV), List.map (fun x : List V => PyData.tuple (List.map datV x)) yss, rfl, sq_of hl, hdp, ⟨fun u hu v hv => ?_, fun u hu => ?_⟩, fun u hu => ?_, ?_, fun i y hy hd => ?_⟩
    · obtain ⟨x, hx, rfl⟩ := List.mem_map.mp (show u ∈ (y0 :: yss).map fun x => PyData.tuple (x.map datV) from hu)
      obtain ⟨z, hz, rfl⟩ := List.mem_map.mp (show v ∈ (y0 :: yss).map fun x => PyData.tuple (x.map datV) from hv)
      simp only [alike]
      exact al x hx z hz
    · obtain ⟨x, hx, rfl⟩ := List.mem_map.mp (show u ∈ (y0 :: yss).map fun x => PyData.tuple (x.map datV) from hu)
      exact fun z => by cases z
    · obtain ⟨x, hx, rfl⟩ := List.mem_map.mp (show u ∈ (y0 :: yss).map fun x => PyData.tuple (x.map datV) from hu)
      show PyData.depthAll (x.map datV) + 1 ≤ 60
      have := depth_all (n := 0) (ds := x.map datV) fun d hd => by
        obtain ⟨v, hv, rfl⟩ := List.mem_map.mp hd
        exact (lay_flat (k x hx v hv)).2
      omega
    · refine lay_all (ds := (y0 :: yss).map fun x => PyData.tuple (x.map datV)) fun d hd => ?_
      obtain ⟨x, hx, rfl⟩ := List.mem_map.mp hd
      exact lay_all (ds := x.map datV) fun d hd => by
        obtain ⟨v, hv, rfl⟩ := List.mem_map.mp hd
        exact (lay_flat (k x hx v hv)).1
    · have mn : minD (.tuple (y0.map datV)) (yss.map fun x => .tuple (x.map datV)) = .tuple (x0.map datV) := by
        refine minD_is _ _ (List.mem_map.mpr ⟨x0, hm, rfl⟩ : PyData.tuple (x0.map datV) ∈ (y0 :: yss).map fun x => PyData.tuple (x.map datV)) fun u hu => ?_
        obtain ⟨x, hx, rfl⟩ := List.mem_map.mp (show u ∈ (y0 :: yss).map fun x => PyData.tuple (x.map datV) from hu)
        rcases lt x hx with q | q
        · exact .inl (by rw [q])
        · exact .inr q
      rw [mn] at hd
      rw [List.getElem?_map] at hy
      obtain ⟨t, ht, rfl⟩ := Option.map_eq_some_iff.mp hy
      have hd' : ((y0 :: yss).map fun x => PyData.tuple (x.map datV))[i]? = some (PyData.tuple (x0.map datV)) := hd
      rw [List.getElem?_map] at hd'
      obtain ⟨x, hx, e3⟩ := Option.map_eq_some_iff.mp hd'
      injection e3 with e3
      obtain rfl := inj x (List.mem_of_getElem? hx) e3
      exact q _ H2 e2 ⟨t, rfl, pr_at (R := fun t x => H2 t = some (.tup x)) hp ht hx⟩
end
end Qt
/-! Counting down; min of a new list of texts. -/
namespace Qt
open PySem PySem.Spec PyProof.Rows L2 Evl PySem.W
section
variable {K : PySem.W.Frag} {σ : L2.St} {H : Hp} {te : TE} {ta : TA} {tu tz : TS} {D : Ends}
/-- for j in range(hi, lo, -1) -/
theorem s_forDn {j : Nat} {hi lo : Int} (h : EvA ta σ H [.int hi, .int lo, .int (-1)]) (hn : -100000 ≤ lo ∧ lo ≤ 100000 ∧ -100000 ≤ hi ∧ hi ≤ 100000) (Pv : Nat → L2.St → Hp → Prop) (h0 : ∀ H1, Ex H H1 → Pv 0 σ H1)
    (hs : ∀ (i : Nat) σ' H', lo < hi - (i : Int) → Pv i σ' H' → tu { D with nx := Pv (i + 1), ct := Pv (i + 1), bk := D.nx } (σ'.set j (some (.int (hi - (i : Int))))) H') (hd : ∀ σ' H', Pv (hi - lo).toNat σ' H' → D.nx σ' H') : tFor (iRng3 ta) (gName j) tu D σ H :=
  h H (Ex.refl H) _ fun H1 e => ⟨hi, lo, -1, (hi - lo).toNat, rfl, RgC.neg (by omega) (by omega) (by omega) (by omega), for_it (walk_rangeC (lo := hi) (c := -1) (n := (hi - lo).toNat)) Pv (h0 H1 e) (fun _ _ _ _ _ => trivial) (fun i x σ' H2 H3 hi' p y => by
    obtain ⟨rfl, rfl⟩ := y
    have := hs i σ' _ (by omega) p
    dsimp only
    rw [show hi + (i : Int) * (-1) = hi - (i : Int) by omega]
    exact this) hd⟩
theorem q_forDn {j : Nat} {hi lo : Int} (h : EvA ta σ H [.int hi, .int lo, .int (-1)]) (hn : -100000 ≤ lo ∧ lo ≤ 100000 ∧ -100000 ≤ hi ∧ hi ≤ 100000) (Pv : Nat → L2.St → Hp → Prop) (h0 : ∀ H1, Ex H H1 → Pv 0 σ H1)
    (hs : ∀ (i : Nat) σ' H', lo < hi - (i : Int) → Pv i σ' H' → tu { D with nx := Pv (i + 1), ct := Pv (i + 1), bk := tz D } (σ'.set j (some (.int (hi - (i : Int))))) H') (hd : ∀ σ' H', Pv (hi - lo).toNat σ' H' → tz D σ' H') : tSeq (tFor (iRng3 ta) (gName j) tu) tz D σ H :=
  s_forDn (D := { D with nx := tz D }) h hn Pv h0 hs hd
end
/-- the least of some texts, as lists of numbers -/
def minL : List (List Nat) → List Nat
  | [] => []
  | x :: xs => xs.foldl (fun a y => if y < a then y else a) x
theorem minL_is {x0 : List Nat} : ∀ (ds : List (List Nat)) (d : List Nat), x0 ∈ d :: ds → (∀ e ∈ d :: ds, e = x0 ∨ x0 < e) → minL (d :: ds) = x0
  | [], d, hm, _ => by
    have : x0 = d := by simpa using hm
    rw [this]
    rfl
  | e :: ds, d, hm, h => by
    show minL ((if e < d then e else d) :: ds) = x0
    have hd := h d List.mem_cons_self
    have he := h e (List.mem_cons_of_mem _ List.mem_cons_self)
    have hr : ∀ y ∈ ds, y = x0 ∨ x0 < y := fun y hy => h y (List.mem_cons_of_mem _ (List.mem_cons_of_mem _ hy))
    refine minL_is ds _ ?_ fun y hy => ?_
    · rcases List.mem_cons.mp hm with q | q
      · subst q
        rcases he with q | q
        · rw [q, ite_self]; exact List.mem_cons_self
        · rw [if_neg fun z => List.lt_irrefl _ (List.lt_trans q z)]; exact List.mem_cons_self
      · rcases List.mem_cons.mp q with q | q
        · subst q
          rcases hd with q | q
          · rw [q, ite_self]; exact List.mem_cons_self
          · rw [if_pos q]; exact List.mem_cons_self
        · exact List.mem_cons_of_mem _ q
    · rcases List.mem_cons.mp hy with q | q
      · rw [q]
        split
        · exact he
        · exact hd
      · exact hr y q
theorem minD_txt : ∀ (xs : List (List Nat)) (x : List Nat), minD (.str (txt x)) (xs.map fun u => PyData.str (txt u)) = .str (txt (minL (x :: xs)))
  | [], x => rfl
  | y :: xs, x => by
    show minD (if dataLt (.str (txt y)) (.str (txt x)) = true then .str (txt y) else .str (txt x)) (xs.map fun u => PyData.str (txt u)) = .str (txt (minL ((if y < x then y else x) :: xs)))
    rw [dataLt_str, txt_l, txt_l]
    by_cases h : y < x
    · rw [decide_eq_true h, if_pos rfl, if_pos h]
      exact minD_txt xs y
    · rw [decide_eq_false h, if_neg Bool.false_ne_true, if_neg h]
      exact minD_txt xs x
theorem ev_minS {K : PySem.W.Frag} {σ : L2.St} {H : Hp} {te : TE} {l : List (List Nat)} (hne : l ≠ []) (low : ∀ u ∈ l, lowS (txt u)) (h : EvL te σ H (l.map fun u => V.str (txt u))) : Ev (tCB (rMinG K) (tCons te tNil)) σ H (.str (txt (minL l))) := fun H1 e Q q =>
  h H1 e _ fun p H2 np e2 hp => by
  cases l with
  | nil => exact absurd rfl hne
  | cons x xs =>
    have lay : ∀ u ∈ x :: xs, PyData.canLay0 (.str (txt u)) = true := fun u hu => strOk_low (low u hu)
    refine ⟨p, (x :: xs).map fun u => V.str (txt u), .str (txt x), xs.map fun u => PyData.str (txt u), rfl, sq_of hp, ?_, ⟨fun a ha b hb => ?_, fun a ha => ?_⟩, fun a ha => ?_, ?_, fun i y hy hd => ?_⟩
    · have z : ∀ l : List (List Nat), DpAll K H2 (l.map fun u => V.str (txt u)) (l.map fun u => PyData.str (txt u)) := fun l => by
        induction l with
        | nil => exact .nil
        | cons a r ih => exact .cons (.str _) ih
      exact z (x :: xs)
    · obtain ⟨u, _, rfl⟩ := List.mem_map.mp (show a ∈ (x :: xs).map fun u => PyData.str (txt u) from ha)
      obtain ⟨v, _, rfl⟩ := List.mem_map.mp (show b ∈ (x :: xs).map fun u => PyData.str (txt u) from hb)
      simp only [alike]
    · obtain ⟨u, _, rfl⟩ := List.mem_map.mp (show a ∈ (x :: xs).map fun u => PyData.str (txt u) from ha)
      exact fun z => by cases z
    · obtain ⟨u, _, rfl⟩ := List.mem_map.mp (show a ∈ (x :: xs).map fun u => PyData.str (txt u) from ha)
      exact Nat.zero_le _
    · refine lay_all (ds := (x :: xs).map fun u => PyData.str (txt u)) fun d hd => ?_
      obtain ⟨u, hu, rfl⟩ := List.mem_map.mp hd
      exact lay u hu
    · rw [minD_txt] at hd
      have hd' : ((x :: xs).map fun u => PyData.str (txt u))[i]? = some (PyData.str (txt (minL (x :: xs)))) := hd
      rw [List.getElem?_map] at hd' hy
      obtain ⟨u, hu, e3⟩ := Option.map_eq_some_iff.mp hd'
      rw [hu] at hy
      injection e3 with e3
      have e4 : V.str (txt u) = y := Option.some.inj hy
      rw [← e4, e3]
      exact q H2 e2
end Qt
/-! text[::-1]; text.find(sign); text.index(sign). -/
namespace Qt
open PySem PySem.Spec PyProof.Rows L2 Evl
section
variable {X : Cx}
def revT (z : Str) : Str := ⟨z.cps.toList.reverse.toArray⟩
def tRevS (te : TE) : TE := fun σ H Q => te σ H fun x H1 => ∃ z : Str, x = .str z ∧ z.length ≤ sizeLine ∧ Q (.str (revT z)) H1
theorem rev_list (x : Str) (u : Tok) : PySem.sliceMade x u none none (some ((-1 : Int), u)) = .str (revT x) := by
  have h1 : ¬ (((((some ((-1 : Int), u)).map (·.1)).getD 1 == 1) && (slicePicked x none none (some ((-1 : Int), u))).length == x.length) = true) := by
    have : ((((some ((-1 : Int), u)).map (·.1)).getD 1 == 1)) = false := rfl
    rw [this]
    simp
  unfold sliceMade
  rw [if_neg h1]
  congr 1
  unfold revT
  congr 2
  show (Builtin.Str.strSliceIndices none none (-1) x.length).filterMap (x.cps[·]?) = _
  rw [picked_rev, PySem.W.krv_range, List.filterMap_reverse]
  congr 1
  exact PySem.W.krv_all x.cps
theorem made_rev (x : Str) (t u : Tok) : PySem.sliceMade x t none none (some ((-1 : Int), u)) = .str (revT x) := rev_list x u
theorem pe_revS {e : Expr} {te : TE} {k : Nat} {p1 p2 p3 pos : Pos} (he : PE X e te) : PE X (.Subscript e (.Slice none none (some (.UnaryOp .USub (.Constant (.int 1) k p1) p2)) p3) pos) (tRevS te) := by
  refine ⟨fun pins s σ H Q I h => ?_⟩
  refine Subscript_ (thn (he.run pins s σ H _ I h) fun v s1 ⟨x, H1, I1, r1, q1⟩ => ?_)
  obtain ⟨z, ex, hz, q⟩ := q1
  subst ex
  obtain ⟨t, rfl⟩ := r1
  have hst : PO X (some (.UnaryOp .USub (.Constant (.int 1) k p1) p2)) (tPart (tUn (rU fun i => .int (-i)) (tC (.int 1)))) := po_some (pe_un un_neg pe_int)
  refine wpAny_Slice (thn (po_none.run pins s1 σ H1 (fun o H2 => o = none ∧ H2 = H1) I1 ⟨rfl, rfl⟩) fun vl s2 ⟨l, H2, I2, pl, el, e2⟩ => ?_)
  subst el e2
  refine thn (po_none.run pins s2 σ H2 (fun o H3 => o = none ∧ H3 = H2) I2 ⟨rfl, rfl⟩) fun vu s3 ⟨u, H3, I3, pu, eu, e3⟩ => ?_
  subst eu e3
  refine thn (hst.run pins s3 σ H3 (fun o H4 => o = some (-1) ∧ H4 = H3) I3 ⟨1, rfl, -1, rfl, rfl, rfl⟩) fun vs s4 ⟨o, H4, I4, ps, eo, e4⟩ => ?_
  subst eo e4
  have I5 : Inv X pins σ H4 { s4 with heap := s4.heap.push { cls := .type "slice", data := .fields #[vl, vu, vs] } } := I4.kept (t' := s4.toks) fun b ob q => Heap.get?_push_of_some _ q
  obtain ⟨l1, rfl, e5⟩ := IsPart.raw pl
  obtain ⟨l2, rfl, e6⟩ := IsPart.raw pu
  obtain ⟨l3, rfl, e7⟩ := IsPart.raw ps
  show wpAny (model X.prog X.w) X.A (subscriptTail e (.Slice none none (some (.UnaryOp .USub (.Constant (.int 1) k p1) p2)) p3) (.str z t) (.ref s4.heap.objs.size)) (EP X pins σ Q) X.xe { s4 with heap := s4.heap.push { cls := .type "slice", data := .fields #[partValue l1, partValue l2, partValue l3] } }
  refine tail_any (ops := [.str z t, .ref s4.heap.objs.size]) (typeIs_str _ _ _) (PySem.F.slot_str_getitem.lookup) ?_ (by with_unfolding_all rfl)
  have h3 : ((l3.map (·.1)).getD 1 == 0) = false := by rw [e7]; rfl
  refine wpAny_getItem_str_slice (l := l1) (u := l2) (st := l3) ⟨_, Heap.get?_push_size _ rfl, rfl, rfl⟩ h3 ?_
  cases l1 with
  | some y => cases e5
  | none =>
    cases l2 with
    | some y => cases e6
    | none =>
      cases l3 with
      | none => cases e7
      | some y =>
        obtain ⟨i, w⟩ := y
        have hi : i = -1 := by
          have : some i = some (-1 : Int) := e7
          injection this with this
        subst hi
        rw [made_rev]
        refine ⟨?_, .str _, H4, I5.tok _, ⟨_, rfl⟩, q⟩
        show z.cps.toList.reverse.toArray.size ≤ sizeLine
        rw [List.size_toArray, List.length_reverse, Array.length_toList]
        exact hz
end
end Qt
/-! sorted(set(xs)) of a list of texts. -/
namespace Qt
open PySem PySem.Spec PyProof.Rows L2 Evl PySem.W
def txtOf (e : Int × Value) : Str := match e.2 with
  | .str k _ => k
  | _ => PySem.Str.empty
def OkT (P : Program) (w : World) (e : Int × Value) : Prop := ∃ k t, e.2 = Value.str k t ∧ e.1 = (PySem.strKind P w).hash k
/-- the set of texts at a: M its members; its table can be walked -/
def SetT (P : Program) (w : World) (h : Heap) (a : Addr) (M : Str → Bool) : Prop :=
  ∃ ob xs ep tb, h.get? a = some ob ∧ ob.ExactSet ∧ ob.data = .set xs ep tb ∧ (∀ x ∈ xs.toList, OkT P w x) ∧ (xs.toList.map txtOf).Nodup ∧ (∀ k, M k = true ↔ k ∈ xs.toList.map txtOf) ∧
    xs.size < scanBound ∧ tb.fits xs.size = true ∧ Ris tb.place.toList ∧ (w.params.followText "set-order" = true ∨ tb.led = true)
section
variable {P : Program} {w : World} {A : Around} {E : Value → Shared → Prop} {s : Shared} {a : Addr} {M : Str → Bool}
theorem okT_elems {l : List (Int × Value)} (g : ∀ x ∈ l, OkT P w x) : ElemsOf (PySem.strKind P w) l := fun x hx => by
  obtain ⟨k, t, e1, e2⟩ := g x hx
  exact ⟨⟨k, by rw [e1]; exact strKind_is _ _ _ _, e2⟩, by rw [e1] <;> rfl⟩
theorem okT_is {x : Int × Value} (g : OkT P w x) (k : Str) : (PySem.strKind P w).is k x.2 = true ↔ txtOf x = k := by
  obtain ⟨k0, t, e1, _⟩ := g
  unfold txtOf
  rw [e1]
  constructor
  · intro h
    obtain ⟨u, hu⟩ := Value.isStrOf_shape (show Value.isStrOf k (.str k0 t) = true from h)
    injection hu
  · intro h
    show Value.isStrOf k (.str k0 t) = true
    rw [← h]
    exact strKind_is P w k0 t
theorem okT_mem {l : List (Int × Value)} (g : ∀ x ∈ l, OkT P w x) (k : Str) : k ∈ l.map txtOf ↔ ∃ x ∈ l, (PySem.strKind P w).is k x.2 = true :=
  ⟨fun h => by
    obtain ⟨x, hx, e⟩ := List.mem_map.mp h
    exact ⟨x, hx, (okT_is (g x hx) k).mpr e⟩, fun ⟨x, hx, e⟩ => List.mem_map.mpr ⟨x, hx, (okT_is (g x hx) k).mp e⟩⟩
/-- the new table, stored; made wider where it is too full -/
theorem setT_stored {gv : Bool → Sem Unit} (hgv : ∀ (b : Bool) (s₁ : Shared) (Q' : Unit → Shared → Prop), Q' () s₁ → wpAny (model P w) A (gv b) Q' E s₁)
    {ob : Obj} {xs xs1 : Array (Int × Value)} {ep : Nat} {tb tb2 : SetTable} {M' : Str → Bool} (h0 : s.heap.get? a = some ob) (hex : ob.ExactSet) (hd : ob.data = .set xs ep tb)
    (g1 : ∀ x ∈ xs1.toList, OkT P w x) (nd1 : (xs1.toList.map txtOf).Nodup) (m1 : ∀ k, M' k = true ↔ k ∈ xs1.toList.map txtOf) (hb1 : xs1.size < scanBound) (hf2 : tb2.fits xs1.size = true) (hr : Ris tb2.place.toList)
    (hl : w.params.followText "set-order" = true ∨ tb2.led = true) {dm : Bool} {R : Option Bool → Shared → Prop} (hR : ∀ h', Heap.SameBut a s.heap h' → SetT P w h' a M' → R (some true) { s with heap := h' }) :
    wpAny (model P w) A (do
        storeSet a xs1 tb2
        if (!dm && tb2.tooFull) = true then do
            gv (relayAll tb2 xs1 (SetTable.grown xs1.size)).2.2
            storeSet a (relayAll tb2 xs1 (SetTable.grown xs1.size)).1 (relayAll tb2 xs1 (SetTable.grown xs1.size)).2.1
            pure (some true)
          else pure (some true)) R E s := by
  refine wpAny_bind (wpAny_storeSet_of h0 hd ?_ (fits_of_scanBound hb1))
  have k1 := store_at (es' := xs1) (t' := tb2) h0 hd
  have same := Heap.SameBut.update s.heap a (Obj.putSet xs1 tb2)
  split
  · have p1 := relayAll_perm tb2 xs1 (SetTable.grown xs1.size)
    have p2 := relayAll_fits tb2 xs1 (SetTable.grown xs1.size)
    have p3 := relayAll_ris tb2 xs1 (SetTable.grown xs1.size)
    have p4 := relayAll_led tb2 xs1 (SetTable.grown xs1.size)
    generalize relayAll tb2 xs1 (SetTable.grown xs1.size) = Y at p1 p2 p3 p4 ⊢
    obtain ⟨xs2, tb3, ga⟩ := Y
    dsimp only at p1 p2 p3 p4 ⊢
    have sz2 : xs2.size = xs1.size := by rw [← Array.length_toList, p1.length_eq, Array.length_toList]
    refine wpAny_bind (hgv _ _ _ ?_)
    refine wpAny_bind (wpAny_storeSet_of k1 rfl ?_ (fits_of_scanBound (by rw [sz2]; exact hb1)))
    have k2 := store_at (es' := xs2) (t' := tb3) k1 rfl
    refine wpAny_pure (hR _ (same.trans (Heap.SameBut.update _ a _)) ?_)
    refine ⟨_, xs2, _, tb3, k2, hex, rfl, fun x hx => g1 x (p1.mem_iff.mp hx), (p1.map txtOf).nodup_iff.mpr nd1, fun k => (m1 k).trans (p1.map txtOf).mem_iff.symm, by rw [sz2]; exact hb1, by rw [sz2]; rw [sz2] at p2; exact p2, p3, hl.imp id fun z => ?_⟩
    rw [p4]
    exact z
  · exact wpAny_pure (hR _ same ⟨_, xs1, _, tb2, k1, hex, rfl, g1, nd1, m1, hb1, hf2, hr, hl⟩)
theorem setT_add {z : Str} {t : Tok} {Q : Bool → Shared → Prop} (R : SetT P w s.heap a M) (room : ∀ ob xs ep tb, s.heap.get? a = some ob → ob.data = .set xs ep tb → xs.size + 1 < scanBound)
    (hQ : ∀ h' b, Heap.SameBut a s.heap h' → SetT P w h' a (fun j => M j || decide (j = z)) → Q b { s with heap := h' }) : wpAny (model P w) A (setAddHashed a (.str z t) ((PySem.strKind P w).hash z)) Q E s := by
  obtain ⟨ob, xs, ep, tb, h0, hex, hd, g, nd, hm, hb, hf, hr, hl⟩ := R
  have room1 := room ob xs ep tb h0 hd
  have isz : (PySem.strKind P w).is z (.str z t) = true := strKind_is P w z t
  have scz : (Value.str z t).scannable = true := rfl
  have els := okT_elems g
  unfold setAddHashed setAddHashedIn
  refine wpAny_holding (wpAny_bind (wpAny_setState_of h0 hd hf ?_))
  dsimp only
  rw [byScan_of scz hb els]
  simp only [↓reduceIte]
  unfold setAddByScan
  refine wpAny_bind ?_
  refine wpAny_bind (wpAny_rule ?_)
  refine wpAny_bind (wpAny_setScan_of isz h0 hd hf els ?_)
  cases sc : List.findIdx? (fun x => (PySem.strKind P w).is z x.2) xs.toList with
  | some j =>
    dsimp only
    obtain ⟨hj, pj, _⟩ := List.findIdx?_eq_some_iff_getElem.mp sc
    have inM : M z = true := (hm z).2 ((okT_mem g z).2 ⟨xs.toList[j], List.getElem_mem hj, pj⟩)
    refine wpAny_pure (wpAny_pure (hQ s.heap _ (Heap.SameBut.refl a s.heap) ⟨ob, xs, ep, tb, h0, hex, hd, g, nd, fun i => ?_, hb, hf, hr, hl⟩))
    rw [Bool.or_eq_true, decide_eq_true_eq, ← hm i]
    exact ⟨fun c => c.elim id (fun e => e ▸ inM), .inl⟩
  | none =>
    dsimp only
    have notin : z ∉ xs.toList.map txtOf := fun c => by
      obtain ⟨x, hx, e⟩ := (okT_mem g z).1 c
      have d := List.findIdx?_eq_none_iff.mp sc x hx
      rw [e] at d
      cases d
    have told : ∀ (b : Bool) {s₁ : Shared} {Q' : Unit → Shared → Prop}, Q' () s₁ → wpAny (model P w) A (match b with | true => rule "set.scan.the-table-gave-way" | false => pure ()) Q' E s₁ :=
      fun b s₁ Q' c => by cases b <;> first | exact wpAny_pure c | exact wpAny_rule c
    have q1 := layNew_perm tb xs ((PySem.strKind P w).hash z) (.str z t)
    have q2 := layNew_fits tb xs ((PySem.strKind P w).hash z) (.str z t)
    have q3 := layNew_ris tb xs ((PySem.strKind P w).hash z) (.str z t) hr
    have q4 := layNew_led tb xs ((PySem.strKind P w).hash z) (.str z t)
    generalize layNew tb xs ((PySem.strKind P w).hash z) (.str z t) = Y at q1 q2 q3 q4 ⊢
    obtain ⟨xs1, tb1, dm, ga⟩ := Y
    dsimp only at q1 q2 q3 q4 ⊢
    rw [Array.toList_push] at q1
    have qc : xs1.toList.Perm (((PySem.strKind P w).hash z, Value.str z t) :: xs.toList) := q1.trans (List.perm_append_singleton _ _)
    have qk : (xs1.toList.map txtOf).Perm (z :: xs.toList.map txtOf) := qc.map txtOf
    have g1 : ∀ x ∈ xs1.toList, OkT P w x := fun x hx => by
      rcases List.mem_cons.mp (qc.mem_iff.mp hx) with c | c
      · rw [c]; exact ⟨z, t, rfl, rfl⟩
      · exact g x c
    have nd1 : (xs1.toList.map txtOf).Nodup := qk.nodup_iff.mpr (List.nodup_cons.mpr ⟨notin, nd⟩)
    have m1 : ∀ i, (M i || decide (i = z)) = true ↔ i ∈ xs1.toList.map txtOf := fun i => by
      rw [Bool.or_eq_true, decide_eq_true_eq, hm i, qk.mem_iff, List.mem_cons]
      exact or_comm
    have sz1 : xs1.size = xs.size + 1 := by rw [← Array.length_toList, qc.length_eq, List.length_cons, Array.length_toList]
    have hb1 : xs1.size < scanBound := by rw [sz1]; exact room1
    have led1 : w.params.followText "set-order" = true ∨ tb1.led = true := hl.imp id fun c => by rw [q4]; exact c
    refine wpAny_bind (told _ ?_)
    split
    · refine wpAny_bind ?_
      rw [hashByValue_scannable 8 scz]
      refine wpAny_pure ?_
      refine setT_stored ?_ h0 hex hd g1 nd1 m1 hb1 ?_ ?_ ?_ ?_
      · exact fun b s₁ Q' c => by cases b <;> first | exact wpAny_pure c | exact wpAny_rule c
      · first | (split <;> first | exact q2 | exact SetTable.fits_plain_off q2) | exact q2
      · first | (split <;> exact q3) | exact q3
      · first | (split <;> exact led1) | exact led1
      · exact fun h' sb r => by dsimp only; exact wpAny_pure (hQ h' _ sb r)
    · refine wpAny_bind (wpAny_pure ?_)
      simp only [↓reduceIte]
      refine setT_stored ?_ h0 hex hd g1 nd1 m1 hb1 q2 q3 led1 ?_
      · exact fun b s₁ Q' c => by cases b <;> first | exact wpAny_pure c | exact wpAny_rule c
      · exact fun h' sb r => by dsimp only; exact wpAny_pure (hQ h' _ sb r)
end
end Qt
/-! sorted(set(xs)) of a list of texts: filling, sorting, the rule. -/
namespace Qt
open PySem PySem.Spec PyProof.Rows L2 Evl PySem.W
section
variable {P : Program} {w : World} {A : Around} {E : Value → Shared → Prop} {s : Shared} {a : Addr} {M : Str → Bool}
def SetU (P : Program) (w : World) (n : Nat) (xs : List Str) (S : Addr) (h : Heap) : Prop := SetT P w h S (fun k => decide (k ∈ xs)) ∧ ∀ ob es ep tb, h.get? S = some ob → ob.data = .set es ep tb → es.size ≤ n
theorem setT_mono {h h' : Heap} (R : SetT P w h a M) (k : ∀ o, h.get? a = some o → h'.get? a = some o) : SetT P w h' a M := by
  obtain ⟨ob, xs, ep, tb, h0, r⟩ := R
  exact ⟨ob, xs, ep, tb, k ob h0, r⟩
theorem setT_congr {h : Heap} {M' : Str → Bool} (R : SetT P w h a M) (e : ∀ k, M' k = M k) : SetT P w h a M' := by
  rw [show M' = M from funext e]
  exact R
/-- how many there are at most: the members are told apart by the list that holds them all -/
theorem setT_size {h : Heap} {xs : List Str} (R : SetT P w h a (fun k => decide (k ∈ xs))) : ∀ ob es ep tb, h.get? a = some ob → ob.data = .set es ep tb → es.size ≤ xs.length := fun ob es ep tb h0 hd => by
  obtain ⟨ob', es', ep', tb', h0', _, hd', _, nd, hm, _⟩ := R
  rw [h0] at h0'
  cases h0'
  rw [hd] at hd'
  cases hd'
  have sub : ∀ k ∈ es.toList.map txtOf, k ∈ xs := fun k hk => of_decide_eq_true ((hm k).2 hk)
  have len : ∀ (l m : List Str), l.Nodup → (∀ k ∈ l, k ∈ m) → l.length ≤ m.length := fun l => by
    induction l with
    | nil => exact fun m _ _ => Nat.zero_le _
    | cons x r ih =>
      intro m hn hs
      obtain ⟨h1, h2⟩ := List.nodup_cons.mp hn
      have hx := hs x List.mem_cons_self
      have z := ih (m.erase x) h2 fun k hk => by
        have hne : k ≠ x := fun e => h1 (e ▸ hk)
        exact (List.mem_erase_of_ne hne).mpr (hs k (List.mem_cons_of_mem _ hk))
      rw [List.length_erase_of_mem hx] at z
      have := List.length_pos_of_mem hx
      rw [List.length_cons]
      omega
  have := len _ xs nd sub
  rw [List.length_map, Array.length_toList] at this
  exact this
theorem fill_setT {I : Addr} {fp wr : List Addr} {G : Array GenState → Array GenState → Prop} {m : Nat} {Pv : Nat → Value → Prop} {St : Nat → Shared → Prop} {R : Result → Shared → Prop}
    (W : WalksS P w A.in1 I fp wr G m Pv St) (S : Addr) (hSf : S ∉ fp) (xs : List Str) (hn : m = xs.length) (hb : xs.length + 1 < scanBound) (hval : ∀ i v, Pv i v → ∃ k t, xs[i]? = some k ∧ v = .str k t) :
    ∀ (k i : Nat) (s : Shared), m - i = k → i ≤ m → St i s → SetT P w s.heap S (fun k => decide (k ∈ xs.take i)) → (∀ s', Moved (S :: wr) G s s' → SetT P w s'.heap S (fun k => decide (k ∈ xs)) → R (.ok (.ret .none)) s') →
      codeAny (model P w) A (.builtin "set.update.loop" ⟨[.ref S, .ref I], []⟩) R s := by
  have out : S ∉ wr := fun h => hSf (W.sub _ h)
  have into : ∀ b ∈ wr, b ∈ S :: wr := fun b hb => List.mem_cons_of_mem _ hb
  intro k
  induction k with
  | zero =>
    intro i s hk' hi hst hS hR
    obtain rfl : i = m := by omega
    refine codeAny_builtin F.entry_set_update_loop ?_
    rw [Around.under_plainId F.plain_set_update_loop _]
    show wpAny _ A.in1 (pyNext (.ref I) >>= _) _ _ s
    refine wpAny_bind (W.done s _ _ hst fun s' hm => ?_)
    show wpAny _ A.in1 (ret Value.none) _ _ s'
    rw [List.take_of_length_le (by omega)] at hS
    exact wpAny_pure (hR s' (hm.mono into) (setT_mono hS (fun o e => hm.heap S o out e)))
  | succ k ih =>
    intro i s hk' hi hst hS hR
    have hlt : i < m := by omega
    refine codeAny_builtin F.entry_set_update_loop ?_
    rw [Around.under_plainId F.plain_set_update_loop _]
    show wpAny _ A.in1 (pyNext (.ref I) >>= _) _ _ s
    refine wpAny_bind (W.item i s _ _ hlt hst fun v s' hP hst' hm => ?_)
    obtain ⟨z, t, hz, rfl⟩ := hval i v hP
    have hS' := setT_mono (h' := s'.heap) hS (fun o e => hm.heap S o out e)
    show wpAny _ A.in1 (holding [Value.str z t] (setAdd S (.str z t)) >>= _) _ _ s'
    refine wpAny_bind (wpAny_holding ?_)
    unfold setAdd
    refine wpAny_holding ?_
    refine wpAny_bind ((PySem.strKind P w).pyHash (k := z) (strKind_is _ _ _ _) ?_)
    refine setT_add (s := { s' with toks := s'.toks + 1 }) hS' (fun ob es ep tb h0 hd => ?_) fun h' b hsb hS2 => ?_
    · have := setT_size hS' ob es ep tb h0 hd
      rw [List.length_take] at this
      omega
    have eT : xs.take (i + 1) = xs.take i ++ [z] := by rw [List.take_add_one, hz]; rfl
    have hS3 : SetT P w h' S (fun k => decide (k ∈ xs.take (i + 1))) := setT_congr hS2 fun j => by
      rw [eT]
      simp [List.mem_append]
    refine wpAny_pure ⟨plainId_quiet F.plain_set_update_loop _, ih (i + 1) _ (by omega) hlt (W.frame _ s' _ _ hst' (Nat.le_succ _) fun b hb o e => ?_) hS3 fun s'' hm'' hS'' => ?_⟩
    · rw [hsb.2 b (fun h : b = S => hSf (by rw [← h]; exact hb))]; exact e
    · refine hR s'' (Moved.trans W.gtrans ((hm.mono into).then_heap (Nat.le_succ _) fun b o hb e => ?_) hm'') hS''
      rw [hsb.2 b (fun h : b = S => hb (by rw [h]; exact List.mem_cons_self))]; exact e
theorem fills_setT {items : Array Value} {xs : List Str} (hit : StrsAre items.toList xs) (hb : xs.length + 1 < scanBound) : Fills P w items (fun S h => SetT P w h S (fun k => decide (k ∈ xs))) := by
  have hn : items.size = xs.length := by
    have q : ∀ {us : List Value} {ys : List Str}, StrsAre us ys → us.length = ys.length := by
      intro us ys h
      induction h with
      | nil => rfl
      | cons _ _ _ ih => rw [List.length_cons, List.length_cons, ih]
    have q := q hit
    rwa [Array.length_toList] at q
  have at_ : ∀ {us : List Value} {ys : List Str}, StrsAre us ys → ∀ (i : Nat) (v : Value), us[i]? = some v → ∃ k t, ys[i]? = some k ∧ v = .str k t := by
    intro us ys h
    induction h with
    | nil => intro i v e; simp at e
    | cons y t _ ih =>
      intro i v e
      cases i with
      | zero =>
        have e' := Option.some.inj e
        exact ⟨y, t, rfl, e'.symm⟩
      | succ i => exact ih i v e
  intro A' I fp wr G St R W S hS s0 hst h0 hR
  refine fill_setT W S hS xs hn hb (fun i v hv => at_ hit i v (by rw [Array.getElem?_toList]; exact hv)) (items.size - 0) 0 s0 rfl (Nat.zero_le _) hst
    ⟨_, #[], 0, _, h0, ⟨rfl, rfl, rfl⟩, rfl, (fun e he => by simp at he), (by simp), (fun k => by simp), (by decide), (by rfl), List.Pairwise.nil, ?_⟩ fun s' hm hs => hR s' hm hs
  cases hw : w.params.followText "set-order"
  · right
    simp [hw]
    rfl
  · exact .inl rfl
def strOf (v : Value) : Str := match v with
  | .str k _ => k
  | _ => PySem.Str.empty
theorem lt_strict : ∀ {l : List Str}, l.Pairwise (fun x y => x.cps.toList ≤ y.cps.toList) → l.Nodup → l.Pairwise fun x y => x.cps.toList < y.cps.toList := fun {l} h d => by
  refine (h.and d).imp fun {x y} c => ?_
  rcases List.le_iff_lt_or_eq.mp c.1 with q | q
  · exact q
  · exact absurd (str_ext q) c.2
theorem sorted_setT {Q : Value → Shared → Prop} (R : SetT P w s.heap a M) (hh : A.handled = none) (hu : A.units + 64 < cLine)
    (hQ : ∀ s' p (out : List Value) (c : Nat) (ys : List Str), (∀ b o, s.heap.get? b = some o → s'.heap.get? b = some o) → s'.gens = s.gens → s'.os = s.os → s.heap.objs.size ≤ p → s'.heap.get? p = some (seqObj "list" out.toArray c) →
      EachIs (fun v y => ∃ t, v = Value.str y t) out ys → ys.Pairwise (fun x y => x.cps.toList < y.cps.toList) → (∀ k, k ∈ ys ↔ M k = true) → ys.length ≤ sizeLine → Q (.ref p) s') : wpAny (model P w) A (call (.builtin "sorted") [.ref a]) Q E s := by
  obtain ⟨ob, xs, ep, tb, h0, hex, hd, g, nd, hm, hb, hf, hr, hl⟩ := R
  refine Calls.call_function_entry kind_sorted plain_sorted entry_sorted (args_sorted1 _) ?_
  unfold Builtin.«sorted»
  refine wpAny_bind (m := checkCount "sorted" 1 1 _) (wpAny_pure ?_)
  refine wpAny_bind (collect_set (A := A.in1) hh ⟨ob, h0, hex.1, hd⟩ hf hb hr hl fun s1 vs k1 hz g1 o1 pm => ?_)
  have hvl : vs.length ≤ sizeLine := by
    rw [pm.length_eq, List.length_map, Array.length_toList]
    exact fits_of_scanBound hb
  have each : ∀ v ∈ vs, ∃ t, v = Value.str (strOf v) t := fun v hv => by
    obtain ⟨x, hx, q⟩ := List.mem_map.mp (pm.mem_iff.mp hv)
    obtain ⟨k, t, e1, _⟩ := g x hx
    rw [← q, e1]
    exact ⟨t, rfl⟩
  have eachL : ∀ l : List Value, (∀ v ∈ l, ∃ t, v = Value.str (strOf v) t) → EachIs (fun v y => ∃ t, v = Value.str y t) l (l.map strOf) := fun l => by
    induction l with
    | nil => exact fun _ => .nil
    | cons v r ih => exact fun h => .cons (h v List.mem_cons_self) (ih fun u hu => h u (List.mem_cons_of_mem _ hu))
  have pk : (vs.map strOf).Perm (xs.toList.map txtOf) := by
    have q := pm.map strOf
    rw [List.map_map] at q
    exact q
  refine wpAny_bind (wpAny_newList ?_ hvl)
  have hoL : (s1.heap.push (seqObj "list" vs.toArray 0)).get? s1.heap.objs.size = some (seqObj "list" vs.toArray 0) := Heap.get?_push_size _ rfl
  refine wpAny_bind (wpAny_holding (list_sort_data (R := fun v y => ∃ t, v = Value.str y t) (enc := PyData.str) (bs := vs.map strOf) hoL (eachL vs each) ?_ (AllAlike.of fun x y => by simp only [alike]) (Sortable.others fun x => ⟨fun z => (by cases z), fun _ z => (by cases z)⟩) (by rw [List.length_map]; exact hvl) (fun x _ => ?_) fun out hlen hout => ?_))
  · refine (eachL vs each).mono fun v y ⟨t, e⟩ => ⟨[], ?_, by simp⟩
    rw [e]
    exact .str _ _
  · show A.units + 1 + 1 + 0 < cLine
    omega
  · rw [dataLe_str] at hout
    obtain ⟨c, hc⟩ := sortedHeap_at (vs := vs) (out := out.toArray) hoL
    have pn := (List.mergeSort_perm (vs.map strOf) (fun x y : Str => decide (x.cps.toList ≤ y.cps.toList))).trans pk
    have sorted := List.pairwise_mergeSort (le := fun x y : Str => decide (x.cps.toList ≤ y.cps.toList)) (fun x y z h1 h2 => decide_eq_true (List.le_trans (of_decide_eq_true h1) (of_decide_eq_true h2))) (fun x y => by
      rw [Bool.or_eq_true, decide_eq_true_eq, decide_eq_true_eq]
      exact List.le_total _ _) (vs.map strOf)
    refine wpAny_pure ⟨_, rfl, hQ _ s1.heap.objs.size out c _ (fun b u e => ?_) g1 o1 hz hc hout (lt_strict (sorted.imp fun h => of_decide_eq_true h) (pn.nodup_iff.mpr nd)) (fun k => by rw [pn.mem_iff, ← hm k]) ?_⟩
    · have q := k1 b u e
      have hlt := Heap.lt_size q
      show (sortedHeap (s1.heap.push (seqObj "list" vs.toArray 0)) s1.heap.objs.size vs out.toArray).get? b = some u
      rw [sortedHeap_old (Nat.ne_of_lt hlt) (by rw [size_push']; exact Nat.lt_succ_of_lt hlt)]
      exact Heap.get?_push_of_some _ q
    · rw [List.length_mergeSort, List.length_map]
      exact hvl
end
section
variable {X : Cx}
/-- sorted(set(xs)), xs texts: they in their order, each once -/
def tSortedSetS (K : PySem.W.Frag) (ta : TE) : TE := fun σ H Q => ta σ H fun x H1 => ∃ (l : Addr) (xs : List Str), x = .ref l ∧ SqL K H1 l (xs.map V.str) ∧ xs.length ≤ 4090 ∧
  ∀ ys : List Str, ys.Pairwise (fun x y => x.cps.toList < y.cps.toList) → (∀ k, k ∈ ys ↔ k ∈ xs) → ∀ p, H1 p = none → Q (.ref p) (upd H1 p (.lst (ys.map V.str)))
theorem pe_sortedSetS {a : Expr} {ta : TE} {p p2 q pos : Pos} (hc : X.calm = true) (hu : X.A.units + 64 < cLine) (hg : Gl X "sorted") (hm : X.mg "sorted" = none) (hg2 : Gl X "set") (hm2 : X.mg "set" = none) (ha : PE X a ta)
    (na : starEach [a] X.env = (false, eval a X.env) :: starEach [] X.env := by rfl) : PE X (.Call (.Name "sorted" p) [.Call (.Name "set" p2) [a] [] q] [] pos) (tSortedSetS X.K ta) := by
  refine ⟨fun pins s σ H Q I h => Call_ (ld_blt I hg hm PyProof.Rows.boot_sorted (PyProof.Rows.callWith_builtin1 (PyProof.Rows.args_cons (Call_ (ld_blt I hg2 hm2 PyProof.Rows.boot_set ?_)) rfl) rfl rfl))⟩
  refine PyProof.Rows.callWith_type1 (PyProof.Rows.args_cons (thn (ha.run pins s σ H _ I h) fun v s1 hh => PyProof.Rows.args_nil ?_) na) na rfl
  obtain ⟨x, H1, I1, r1, l, xs, rfl, hq, hl, q1⟩ := hh
  cases r1
  obtain ⟨its, r, pl, hz⟩ := I1.list hq
  refine set_of_list (I1.ok.hd hc) pl.isList (fills_setT (xs := xs) (by simpa using strsAre_of r) (by unfold scanBound; omega)) fun h' tk hS hk => PyProof.Rows.args_nil ?_
  have I2 : Inv X pins σ H1 { s1 with heap := h', toks := tk } := I1.kept hk
  refine sorted_setT hS (I2.ok.hd hc) hu fun s' p out c ys k g o hp hget hev hlt hmem hlen => ?_
  have hn : H1 p = none := I2.hok.fresh hp
  have hv : Vals (ys.map V.str) out := each_vals (f := V.str) (hev.mono fun v y e => e)
  have J : Inv X pins σ (upd H1 p (.lst (ys.map V.str))) { ({ s1 with heap := h', toks := tk } : Shared) with heap := s'.heap, gens := s'.gens, drawn := s'.drawn, toks := s'.toks } :=
    I2.call (ch := []) (Un.laid k hp hn) (I2.hok.laid k hp ⟨by rw [List.length_map]; exact hlen, out, c, hv, hget⟩) (by rw [g]; exact I2.bare) (fun _ z => nomatch z)
  have e : s' = { ({ s1 with heap := h', toks := tk } : Shared) with heap := s'.heap, gens := s'.gens, drawn := s'.drawn, toks := s'.toks } := by
    cases s'
    cases s1
    cases o
    rfl
  rw [e]
  exact ⟨.ref p, _, J, rfl, q1 ys hlt (fun y => (hmem y).trans decide_eq_true_iff) p hn⟩
end
end Qt
/-! min within a block; comprehensions over very long lists. -/
namespace Qt
open PySem PySem.Spec PyProof.Rows L2 Evl
section
variable {X : Cx}
theorem cr_minGK (K : PySem.W.Frag) (hK : X.K = K) (hc : X.calm = true) (hu : X.A.units + 64 < cLine) : CallR X (.builtin "min") (rMinG K) := hK ▸ cr_minG hc hu
end
section
variable {K : PySem.W.Frag} {σ : L2.St} {H : Hp} {tl te : TE} {t : TT}
/-- over a list of any length that can stand -/
theorem el_lcLB {a : Addr} {xs : List V} {j : Nat} {vs : List Nat} (f : Nat → Bool) (v : Nat → V) (h : Ev tl σ H (.ref a)) (hx : SqL K H a xs) (hz : xs.length ≤ sizeLine) (hw : ∀ x, wipe ((wipe σ vs).set j (some x)) vs = wipe σ vs)
    (ht : ∀ (i : Nat) (x : V) H1, Ex H H1 → xs[i]? = some x → EvT t ((wipe σ vs).set j (some x)) H1 (f i)) (he : ∀ (i : Nat) (x : V) H1, Ex H H1 → xs[i]? = some x → f i = true → Ev te ((wipe σ vs).set j (some x)) H1 (v i)) :
    EvL (tLc (iList K tl) (gName j) t te vs) σ H (given xs.length f v) := fun H0 e Q q => h H0 e _ fun H1 e1 => ⟨a, rfl, ⟨xs, ex_l (e.trans e1) hx⟩, fun Dl hD => by
  refine lc_list (xs := xs) (fun i H' => Ex H1 H' ∧ H' Dl = some (.lst (given i f v))) ⟨Ex.new hD, upd_same⟩ (fun i H' _ p => ex_l ((e.trans e1).trans p.1) hx) (fun i x H2 hi p => ⟨hw x, ?_⟩) (fun H' p => q Dl H' (fresh_back e1 hD) (e1.trans p.1) p.2)
  obtain ⟨g1, g2⟩ := p
  have hil := (List.getElem?_eq_some_iff.mp hi).1
  refine ht i x H1 (e.trans e1) hi _ g1 _ fun H6 e6 => ?_
  cases hf : f i with
  | true =>
    refine iteT ?_
    refine he i x H1 (e.trans e1) hi hf _ (g1.trans e6) _ fun H7 e7 => ⟨given i f v, e7 _ _ (e6 _ _ g2), ?_, Ex.mut ((g1.trans e6).trans e7) hD, ?_⟩
    · unfold given
      have b2 := List.length_filter_le f (List.range i)
      rw [List.length_range] at b2
      rw [List.length_map]
      omega
    · rw [upd_same, given_yes hf]
  | false =>
    refine iteF ⟨g1.trans e6, ?_⟩
    have : given (i + 1) f v = given i f v := by
      unfold given
      rw [List.range_succ, List.filter_append, List.filter_cons_of_neg (by rw [hf]; exact Bool.false_ne_true), List.filter_nil, List.append_nil]
    rw [this]
    exact e6 _ _ g2⟩
end
end Qt
namespace K13
open PySem PySem.Spec PyProof.Rows L2 Evl Qt
def topS (i : Nat) : Stmt := PySem.Challenge.pw_holedwindows_k13_greater_rings.main.body.getD i (.Pass ⟨0, 0, 0, 0⟩)
abbrev s_made_of : Stmt := topS 13
abbrev n_made_of : List Str := ["value", "signs", "sign"]
abbrev p_made_of : List Str := ["value", "signs"]
theorem sc_made_of : FnScope n_made_of p_made_of (defScope s_made_of) := ⟨rfl, rfl, rfl, by decide +kernel, rfl, by decide +kernel, by decide +kernel⟩
abbrev s_is_mask : Stmt := topS 14
abbrev n_is_mask : List Str := ["value"]
abbrev p_is_mask : List Str := ["value"]
theorem sc_is_mask : FnScope n_is_mask p_is_mask (defScope s_is_mask) := ⟨rfl, rfl, rfl, by decide +kernel, rfl, by decide +kernel, by decide +kernel⟩
abbrev s_check_mask : Stmt := topS 15
abbrev n_check_mask : List Str := ["mask"]
abbrev p_check_mask : List Str := ["mask"]
theorem sc_check_mask : FnScope n_check_mask p_check_mask (defScope s_check_mask) := ⟨rfl, rfl, rfl, by decide +kernel, rfl, by decide +kernel, by decide +kernel⟩
abbrev s_is_row : Stmt := topS 16
abbrev n_is_row : List Str := ["value"]
abbrev p_is_row : List Str := ["value"]
theorem sc_is_row : FnScope n_is_row p_is_row (defScope s_is_row) := ⟨rfl, rfl, rfl, by decide +kernel, rfl, by decide +kernel, by decide +kernel⟩
abbrev s_check_row : Stmt := topS 17
abbrev n_check_row : List Str := ["row"]
abbrev p_check_row : List Str := ["row"]
theorem sc_check_row : FnScope n_check_row p_check_row (defScope s_check_row) := ⟨rfl, rfl, rfl, by decide +kernel, rfl, by decide +kernel, by decide +kernel⟩
abbrev s_check_ring : Stmt := topS 18
abbrev n_check_ring : List Str := ["row"]
abbrev p_check_ring : List Str := ["row"]
theorem sc_check_ring : FnScope n_check_ring p_check_ring (defScope s_check_ring) := ⟨rfl, rfl, rfl, by decide +kernel, rfl, by decide +kernel, by decide +kernel⟩
abbrev s_is_number : Stmt := topS 19
abbrev n_is_number : List Str := ["n", "least", "most"]
abbrev p_is_number : List Str := ["n", "least", "most"]
theorem sc_is_number : FnScope n_is_number p_is_number (defScope s_is_number) := ⟨rfl, rfl, rfl, by decide +kernel, rfl, by decide +kernel, by decide +kernel⟩
abbrev s_check_letters : Stmt := topS 20
abbrev n_check_letters : List Str := ["letters"]
abbrev p_check_letters : List Str := ["letters"]
theorem sc_check_letters : FnScope n_check_letters p_check_letters (defScope s_check_letters) := ⟨rfl, rfl, rfl, by decide +kernel, rfl, by decide +kernel, by decide +kernel⟩
abbrev s_check_great : Stmt := topS 21
abbrev n_check_great : List Str := ["width", "many", "letters"]
abbrev p_check_great : List Str := ["width", "many", "letters"]
theorem sc_check_great : FnScope n_check_great p_check_great (defScope s_check_great) := ⟨rfl, rfl, rfl, by decide +kernel, rfl, by decide +kernel, by decide +kernel⟩
abbrev s_check_small : Stmt := topS 22
abbrev n_check_small : List Str := ["mask", "letters"]
abbrev p_check_small : List Str := ["mask", "letters"]
theorem sc_check_small : FnScope n_check_small p_check_small (defScope s_check_small) := ⟨rfl, rfl, rfl, by decide +kernel, rfl, by decide +kernel, by decide +kernel⟩
abbrev s_seen : Stmt := topS 24
abbrev n_seen : List Str := ["mask", "place", "sign"]
abbrev p_seen : List Str := ["mask"]
theorem sc_seen : FnScope n_seen p_seen (defScope s_seen) := ⟨rfl, rfl, rfl, by decide +kernel, rfl, by decide +kernel, by decide +kernel⟩
abbrev s_view_at : Stmt := topS 26
abbrev n_view_at : List Str := ["row", "places", "start", "place"]
abbrev p_view_at : List Str := ["row", "places", "start"]
theorem sc_view_at : FnScope n_view_at p_view_at (defScope s_view_at) := ⟨rfl, rfl, rfl, by decide +kernel, rfl, by decide +kernel, by decide +kernel⟩
abbrev s_others : Stmt := topS 27
abbrev n_others : List Str := ["view", "look", "letter", "sign"]
abbrev p_others : List Str := ["view", "look"]
theorem sc_others : FnScope n_others p_others (defScope s_others) := ⟨rfl, rfl, rfl, by decide +kernel, rfl, by decide +kernel, by decide +kernel⟩
abbrev s_all_unlike : Stmt := topS 28
abbrev n_all_unlike : List Str := ["found"]
abbrev p_all_unlike : List Str := ["found"]
theorem sc_all_unlike : FnScope n_all_unlike p_all_unlike (defScope s_all_unlike) := ⟨rfl, rfl, rfl, by decide +kernel, rfl, by decide +kernel, by decide +kernel⟩
abbrev s_words : Stmt := topS 30
abbrev n_words : List Str := ["signs", "many", "found", "_", "word", "sign"]
abbrev p_words : List Str := ["signs", "many"]
theorem sc_words : FnScope n_words p_words (defScope s_words) := ⟨rfl, rfl, rfl, by decide +kernel, rfl, by decide +kernel, by decide +kernel⟩
abbrev s_near_bits : Stmt := topS 32
abbrev n_near_bits : List Str := ["bits", "view", "far", "other"]
abbrev p_near_bits : List Str := ["bits", "view", "far"]
theorem sc_near_bits : FnScope n_near_bits p_near_bits (defScope s_near_bits) := ⟨rfl, rfl, rfl, by decide +kernel, rfl, by decide +kernel, by decide +kernel⟩
abbrev s_window_bits : Stmt := topS 33
abbrev n_window_bits : List Str := ["mask", "signs", "far", "places", "bits", "barred", "shown", "at", "view", "window"]
abbrev p_window_bits : List Str := ["mask", "signs", "far"]
theorem sc_window_bits : FnScope n_window_bits p_window_bits (defScope s_window_bits) := ⟨rfl, rfl, rfl, by decide +kernel, rfl, by decide +kernel, by decide +kernel⟩
abbrev s_Growth___init__ : Stmt := inClass (topS 34) 0
abbrev n_Growth___init__ : List Str := ["self", "mask", "letters", "far"]
abbrev p_Growth___init__ : List Str := ["self", "mask", "letters", "far"]
theorem sc_Growth___init__ : FnScope n_Growth___init__ p_Growth___init__ (defScope s_Growth___init__) := ⟨rfl, rfl, rfl, by decide +kernel, rfl, by decide +kernel, by decide +kernel⟩
abbrev s_Growth_begun : Stmt := inClass (topS 34) 1
abbrev n_Growth_begun : List Str := ["self", "row", "barred", "start", "_", "near"]
abbrev p_Growth_begun : List Str := ["self", "row"]
theorem sc_Growth_begun : FnScope n_Growth_begun p_Growth_begun (defScope s_Growth_begun) := ⟨rfl, rfl, rfl, by decide +kernel, rfl, by decide +kernel, by decide +kernel⟩
abbrev s_Growth_longer : Stmt := inClass (topS 34) 2
abbrev n_Growth_longer : List Str := ["self", "told", "found", "row", "barred", "sign", "more", "bit", "near"]
abbrev p_Growth_longer : List Str := ["self", "told"]
theorem sc_Growth_longer : FnScope n_Growth_longer p_Growth_longer (defScope s_Growth_longer) := ⟨rfl, rfl, rfl, by decide +kernel, rfl, by decide +kernel, by decide +kernel⟩
abbrev s_told_rows : Stmt := topS 35
abbrev n_told_rows : List Str := ["mask", "letters", "length", "growth", "told", "_", "row"]
abbrev p_told_rows : List Str := ["mask", "letters", "length"]
theorem sc_told_rows : FnScope n_told_rows p_told_rows (defScope s_told_rows) := ⟨rfl, rfl, rfl, by decide +kernel, rfl, by decide +kernel, by decide +kernel⟩
abbrev s_ring_view : Stmt := topS 37
abbrev n_ring_view : List Str := ["row", "places", "start", "place"]
abbrev p_ring_view : List Str := ["row", "places", "start"]
theorem sc_ring_view : FnScope n_ring_view p_ring_view (defScope s_ring_view) := ⟨rfl, rfl, rfl, by decide +kernel, rfl, by decide +kernel, by decide +kernel⟩
abbrev s_ring_views : Stmt := topS 38
abbrev n_ring_views : List Str := ["row", "mask", "places", "start"]
abbrev p_ring_views : List Str := ["row", "mask"]
theorem sc_ring_views : FnScope n_ring_views p_ring_views (defScope s_ring_views) := ⟨rfl, rfl, rfl, by decide +kernel, rfl, by decide +kernel, by decide +kernel⟩
abbrev s_ring_tells : Stmt := topS 39
abbrev n_ring_tells : List Str := ["row", "mask"]
abbrev p_ring_tells : List Str := ["row", "mask"]
theorem sc_ring_tells : FnScope n_ring_tells p_ring_tells (defScope s_ring_tells) := ⟨rfl, rfl, rfl, by decide +kernel, rfl, by decide +kernel, by decide +kernel⟩
abbrev s_count_views : Stmt := topS 40
abbrev n_count_views : List Str := ["mask", "letters"]
abbrev p_count_views : List Str := ["mask", "letters"]
theorem sc_count_views : FnScope n_count_views p_count_views (defScope s_count_views) := ⟨rfl, rfl, rfl, by decide +kernel, rfl, by decide +kernel, by decide +kernel⟩
abbrev s_is_least : Stmt := topS 41
abbrev n_is_least : List Str := ["row", "start"]
abbrev p_is_least : List Str := ["row"]
theorem sc_is_least : FnScope n_is_least p_is_least (defScope s_is_least) := ⟨rfl, rfl, rfl, by decide +kernel, rfl, by decide +kernel, by decide +kernel⟩
abbrev s_longest_ring : Stmt := topS 42
abbrev n_longest_ring : List Str := ["mask", "letters", "length", "row"]
abbrev p_longest_ring : List Str := ["mask", "letters"]
theorem sc_longest_ring : FnScope n_longest_ring p_longest_ring (defScope s_longest_ring) := ⟨rfl, rfl, rfl, by decide +kernel, rfl, by decide +kernel, by decide +kernel⟩
abbrev s_full_rings : Stmt := topS 43
abbrev n_full_rings : List Str := ["mask", "letters", "rows", "row"]
abbrev p_full_rings : List Str := ["mask", "letters"]
theorem sc_full_rings : FnScope n_full_rings p_full_rings (defScope s_full_rings) := ⟨rfl, rfl, rfl, by decide +kernel, rfl, by decide +kernel, by decide +kernel⟩
abbrev s__law_taken : Stmt := topS 45
abbrev n__law_taken : List Str := ["_law_row", "_law_many", "_law_found", "_law_cell"]
abbrev p__law_taken : List Str := ["_law_row", "_law_many"]
theorem sc__law_taken : FnScope n__law_taken p__law_taken (defScope s__law_taken) := ⟨rfl, rfl, rfl, by decide +kernel, rfl, by decide +kernel, by decide +kernel⟩
abbrev s__law_open : Stmt := topS 46
abbrev n__law_open : List Str := ["_law_mask", "_law_at"]
abbrev p__law_open : List Str := ["_law_mask"]
theorem sc__law_open : FnScope n__law_open p__law_open (defScope s__law_open) := ⟨rfl, rfl, rfl, by decide +kernel, rfl, by decide +kernel, by decide +kernel⟩
abbrev s_law : Stmt := topS 47
abbrev n_law : List Str := ["_law_script", "_law_row", "_law_kind", "_law_mask", "_law_letters", "_law_line", "_law_some", "_law_most", "_law_at", "_law_ring", "_law_turned", "_law_back"]
abbrev p_law : List Str := ["_law_script"]
theorem sc_law : FnScope n_law p_law (defScope s_law) := ⟨rfl, rfl, rfl, by decide +kernel, rfl, by decide +kernel, by decide +kernel⟩
structure Top (K : PySem.W.Frag) (mg : Str → Option Value) (CM CG fG a_SMALL_WIDTH a_SMALL_SEEN : Addr) : Prop where
  m_isinstance : mg "isinstance" = none
  m_str : mg "str" = none
  m_int : mg "int" = none
  m_bool : mg "bool" = none
  m_all : mg "all" = none
  m_len : mg "len" = none
  m_enumerate : mg "enumerate" = none
  m_range : mg "range" = none
  m_zip : mg "zip" = none
  m_set : mg "set" = none
  m_min : mg "min" = none
  m_sorted : mg "sorted" = none
  m_sum : mg "sum" = none
  g_LETTERS : ∃ t, mg "LETTERS" = some (.str (PySem.Str.ofString "abcd") t)
  g_UNREAD : ∃ t, mg "UNREAD" = some (.str (PySem.Str.ofString "?") t)
  g_WIDEST : ∃ t, mg "WIDEST" = some (.int 12 t)
  g_LONGEST : ∃ t, mg "LONGEST" = some (.int 60 t)
  g_SMALL_WIDTH : mg "SMALL_WIDTH" = some (.ref a_SMALL_WIDTH) ∧ TabI K a_SMALL_WIDTH [(1, 12), (2, 8), (3, 5), (4, 4)]
  g_SMALL_SEEN : mg "SMALL_SEEN" = some (.ref a_SMALL_SEEN) ∧ TabI K a_SMALL_SEEN [(1, 12), (2, 4), (3, 2), (4, 1)]
  c_Growth : OwnC K mg "Growth" CG fG ["signs", "width", "bits"]
  t_Growth_init : ∃ fd, Fun K "__init__" "Growth.__init__" s_Growth___init__ fG fd ∧ Binds K fd p_Growth___init__ []
  t_Growth_begun : MethC K CG "begun" "Growth.begun" s_Growth_begun p_Growth_begun
  t_Growth_longer : MethC K CG "longer" "Growth.longer" s_Growth_longer p_Growth_longer
  e_BadMask : ExcC K mg "BadMask" CM
end K13
namespace K13
open PySem PySem.Spec PyProof.Rows L2 Evl Qt
def isStr : V → Bool
  | .str _ => true
  | _ => false
def madeOf (v : V) (z : Str) : Bool := match v with
  | .str m => m.cps.toList.all fun c => decide (c ∈ z.cps.toList)
  | _ => false
def spMade (K : PySem.W.Frag) : Sp := fun vs H Q _ => ∃ (v : V) (z : Str) (t : String), vs = [v, .str z] ∧ Kind K H v t ∧ kitB t "str" = some (isStr v) ∧ (∀ m, v = .str m → m.length ≤ 1000) ∧ RetV (.bl (madeOf v z)) H Q
section
variable {P : Program} {w : World} {K : PySem.W.Frag} {mg : Str → Option Value} {base : Heap} {CM CG fG a_SMALL_WIDTH a_SMALL_SEEN : Addr}
theorem ok_made_of (e : Ent K mg "made_of" s_made_of p_made_of) (T : Top K mg CM CG fG a_SMALL_WIDTH a_SMALL_SEEN) : Cal P w K mg base CX0 1 "made_of" p_made_of (spMade K) := by
  obtain ⟨f, fd, F, m_, b_⟩ := e
  refine ⟨f, fd, F.ok sc_made_of (fun vs H Q E h => ?_) (fun cdv A outer s H vs Q E hr h => ?_), m_, F.kp, b_⟩
  · obtain ⟨v, z, t, rfl, _⟩ := h
    rfl
  · obtain ⟨v, z, t, rfl, hk, hb, hl, q⟩ := h
    refine ⟨_, (pss_one (ps_ret (pe_and (pe_callB call_isi (by rfl) T.m_isinstance (by decide +kernel) (pa_cons (pv 0) (pa_cons (pe_bltn (v := .ty "str") (by rfl) T.m_str (by decide +kernel) rfl) pa_nil))) (pe_one (pe_callB (cr_all rfl) (by rfl) T.m_all (by decide +kernel) (pa_cons (pe_lc (own := [("sign", 2)]) (g := gName 2) (by rfl) sc_made_of.nd (pi_str (pv 0)) (blkOk_by (own := [("sign", 2)]) (N := n_made_of) (sc := (defScope s_made_of)) (by decide +kernel)) (fun _ _ _ _ _ => pg_name (i := 2) sc_made_of.nd rfl (Or.inl rfl)) (fun _ _ _ _ _ => pts_nil) (fun _ _ _ _ _ => (pe_cmpR op_in_sign (pv 2) (pv 1) (by rfl)))) pa_nil)))))), ?_⟩
    refine ⟨v, rfl, v, .ty "str", .type t, .type "str", isStr v, rfl, .ty "str", hk, kit_ty hb, _, rfl, ?_⟩
    cases v with
    | str m =>
      refine iteT ?_
      have hm := hl m rfl
      have L : EvL (tLc (iStr (tVar 0)) (gName 2) tYes (tOp (fun x y H Q => ∃ (c : Nat) (z : Str), x = .str ⟨#[c]⟩ ∧ y = .str z ∧ Q (.bl (decide (c ∈ z.cps.toList))) H) (tVar 2) (tVar 1)) [2])
          (start n_made_of [V.str m, V.str z]) H (given m.length (fun _ => true) fun i => .bl (decide (m.cps.toList.getD i 0 ∈ z.cps.toList))) :=
        el_lcS (z := m) (fun _ => true) _ (ev_var rfl) (by omega) (fun _ => rfl) (fun _ _ _ _ => et_yes) (fun i H1 _ hi _ => ev_inSign (ev_var rfl) (ev_var rfl))
      rw [given_all] at L
      have e := Qt.all_range m.cps.toList fun c => decide (c ∈ z.cps.toList)
      rw [show m.cps.toList.length = m.length from by simp [Str.length]] at e
      refine (ev_cbL L fun p H1 h1 _ => ?_ : Ev _ _ H (.bl (madeOf (.str m) z))) H (Ex.refl H) _ q
      show RC _ _ _ (.bl (m.cps.toList.all fun c => decide (c ∈ z.cps.toList)))
      rw [← e]
      refine rc_all ?_
      rw [h1, List.map_map]
      rfl
    | _ => exact iteF (q H (Ex.refl H))
end
end K13
namespace K13
open PySem PySem.Spec PyProof.Rows L2 Evl Qt
theorem ev_chain {σ : L2.St} {H : Hp} {ta tb tc : TE} {r r' : R2} {x y z : V} {k1 k2 : Bool} (ha : Ev ta σ H x) (hb : Ev tb σ H y) (hr : RV r x y H (.bl k1)) (hc : Ev tc σ H z) (hr' : k1 = true → RV r' y z H (.bl k2)) :
    Ev (tChain r r' ta tb tc) σ H (.bl (k1 && k2)) := fun H1 e Q q =>
  ha H1 e _ fun H2 e2 => hb H2 (e.trans e2) _ fun H3 e3 => hr H3 ((e.trans e2).trans e3) _ fun H4 e4 => ⟨k1, rfl, by
    cases k1 with
    | true => exact iteT (hc H4 (((e.trans e2).trans e3).trans e4) _ fun H5 e5 => hr' rfl H5 ((((e.trans e2).trans e3).trans e4).trans e5) _ fun H6 e6 => q H6 ((((e2.trans e3).trans e4).trans e5).trans e6))
    | false => exact iteF (q H4 ((e2.trans e3).trans e4))⟩
def VOk (K : PySem.W.Frag) (H : Hp) (v : V) : Prop := ∃ t, Qt.Kind K H v t ∧ kitB t "str" = some (isStr v) ∧ ∀ m, v = .str m → m.length ≤ 1000
theorem VOk.ex {K : PySem.W.Frag} {H H1 : Hp} {v : V} (h : VOk K H v) (e : Ex H H1) : VOk K H1 v := by
  obtain ⟨t, h1, h2, h3⟩ := h
  exact ⟨t, h1.ex e, h2, h3⟩
theorem VOk.str {K : PySem.W.Frag} {H : Hp} {m : Str} (h : m.length ≤ 1000) : VOk K H (.str m) := ⟨"str", .base (.str m), (by decide +kernel : kitB "str" "str" = some true), fun x e => by cases e; exact h⟩
def sx : Str := PySem.Str.ofString "x."
theorem sx_l : sx.cps.toList = [120, 46] := by decide +kernel
theorem x_eq : PySem.Str.ofString "x" = ⟨#[120]⟩ := by decide +kernel
def lenOf : V → Int
  | .str m => (m.length : Int)
  | _ => 0
def fst (m : Str) : Nat := m.cps.toList.getD 0 0
def lst (m : Str) : Nat := m.cps.toList.getD (m.length - 1) 0
def isMask (m : Str) : Bool := !((!madeOf (.str m) sx || !(decide ((1 : Int) ≤ (m.length : Int)) && decide ((m.length : Int) ≤ 12)))) && !(!decide (fst m = 120) || !decide (lst m = 120))
theorem at_last (l : List Nat) (h : l ≠ []) : atI l (-1) = some (l.getD (l.length - 1) 0) := by
  have h0 : 0 < l.length := List.length_pos_iff.mpr h
  unfold atI ixN
  rw [if_neg (by decide), if_pos (by omega)]
  have e : ((-1 : Int) + (l.length : Int)).toNat = l.length - 1 := by omega
  rw [e, Option.bind_some, List.getD_eq_getElem?_getD, List.getElem?_eq_getElem (by omega)]
  rfl
def isMaskV : V → Bool
  | .str m => isMask m
  | _ => false
def spCheckMask (K : PySem.W.Frag) (CM : Addr) : Sp := fun vs H Q E => ∃ v, vs = [v] ∧ VOk K H v ∧ (isMaskV v = true → RetV .non H Q) ∧ (isMaskV v = false → ∀ H', Ex H H' → E (.ref CM) none H')
section
variable {P : Program} {w : World} {K : PySem.W.Frag} {mg : Str → Option Value} {base : Heap} {CM CG fG a_SMALL_WIDTH a_SMALL_SEEN : Addr}
theorem made_val {H : Hp} {v : V} {z : Str} (h : VOk K H v) : SpV (spMade K) ([v, .str z] ++ []) H (.bl (madeOf v z)) := fun H1 e Q q E => by
  obtain ⟨t, h1, h2, h3⟩ := h.ex e
  exact ⟨v, z, t, rfl, h1, h2, h3, q⟩
theorem rv_chr {H : Hp} {c : Nat} {d : Str} (hd : d = ⟨#[120]⟩) : RV rNe (.str ⟨#[c]⟩) (.str d) H (.bl (!decide (c = 120))) := by
  subst hd
  have e : decide (V.str (⟨#[c]⟩ : Str) = V.str ⟨#[120]⟩) = decide (c = 120) := by
    by_cases h : c = 120
    · subst h; simp
    · simp [h]
  rw [← e]
  exact rv_ne rfl
def spIsMask (K : PySem.W.Frag) : Sp := fun vs H Q _ => ∃ v, vs = [v] ∧ VOk K H v ∧ RetV (.bl (isMaskV v)) H Q
theorem rv_chrE {H : Hp} {c : Nat} {d : Str} (hd : d = ⟨#[120]⟩) : RV rEq (.str ⟨#[c]⟩) (.str d) H (.bl (decide (c = 120))) := by
  subst hd
  have e : decide (V.str (⟨#[c]⟩ : Str) = V.str ⟨#[120]⟩) = decide (c = 120) := by
    by_cases h : c = 120
    · subst h; simp
    · simp [h]
  rw [← e]
  exact rv_eq rfl
theorem ok_is_mask (e : Ent K mg "is_mask" s_is_mask p_is_mask) (T : Top K mg CM CG fG a_SMALL_WIDTH a_SMALL_SEEN) (c1 : Cal P w K mg base CX0 1 "made_of" p_made_of (spMade K)) : Cal P w K mg base CX0 2 "is_mask" p_is_mask (spIsMask K) := by
  obtain ⟨f, fd, F, m_, b_⟩ := e
  obtain ⟨f_made_of, fd_made_of, G_made_of, m_made_of, k_made_of, b_made_of⟩ := c1
  refine ⟨f, fd, F.ok sc_is_mask (fun vs H Q E h => ?_) (fun cdv A outer s H vs Q E hr h => ?_), m_, F.kp, b_⟩
  · obtain ⟨v, rfl, _⟩ := h
    rfl
  · obtain ⟨v, rfl, hv, q⟩ := h
    refine ⟨_, (pss_cons (ps_if (PW.pt (pw_or (pt_not (pt_val (pe_call G_made_of (hr.mono (by decide)) (by rfl) m_made_of k_made_of b_made_of .nil pass0 (pa_cons (pv 0) (pa_cons pe_str pa_nil))))) (pw_or1 (pt_not (pt_chain op_le op_le pe_int (pe_callB call_len_str (by rfl) T.m_len (by decide +kernel) (pa_cons (pv 0) pa_nil)) (pe_glob (v := .int 12) (by rfl) T.g_WIDEST.choose_spec ⟨_, rfl⟩)))))) (pss_one (ps_ret pe_bl)) pss_nil)
      (pss_one (ps_ret (pe_and (pe_cmpR op_eq (pe_ix ix_str (pv 0) pe_int (fun _ _ => rfl)) pe_str (nomark _)) (pe_one (pe_cmpR op_eq (pe_ix ix_str (pv 0) (pe_un un_neg pe_int) (fun _ _ => rfl)) pe_str (nomark _))))))), ?_⟩
    have t1 : Ev (tCall (spMade K) [] E0 (tCons (tVar 0) (tCons (tC (.str sx)) tNil))) (start n_is_mask [v]) H (.bl (madeOf v sx)) := ev_call (ea_cons (ev_var rfl) (ea_cons ev_c ea_nil)) (made_val hv)
    refine q_when (b := !madeOf v sx || !(decide ((1 : Int) ≤ lenOf v) && decide (lenOf v ≤ 12))) (et_or (et_not (et_B t1)) fun h => et_not (et_test (ev_chain ev_c (y := .int (lenOf v)) ?_ rv_I0 ev_c fun _ => rv_I0))) (fun h H1 e1 => ?_) (fun h H1 e1 => ?_)
    · cases v with
      | str m =>
        obtain ⟨t, _, _, h3⟩ := hv
        exact ev_cb (ea_cons (ev_var rfl) ea_nil) fun H2 _ _ q => ⟨m, rfl, by have := h3 m rfl; rw [sizeLine_eq]; omega, q H2 (Ex.refl H2)⟩
      | _ => exact Bool.noConfusion (show true = false from h)
    · have hf : isMaskV v = false := by
        cases v with
        | str m =>
          have h' : (!madeOf (.str m) sx || !(decide ((1 : Int) ≤ (m.length : Int)) && decide ((m.length : Int) ≤ 12))) = true := h
          show isMask m = false
          unfold isMask
          rw [h']
          rfl
        | _ => rfl
      refine s_ret ev_c fun H2 e2 => ?_
      have z := q H2 (e1.trans e2)
      rw [hf] at z
      exact z
    · cases v with
      | str m =>
        have h' : (!madeOf (.str m) sx || !(decide ((1 : Int) ≤ (m.length : Int)) && decide ((m.length : Int) ≤ 12))) = false := h
        have hl : 1 ≤ m.length ∧ m.length ≤ 12 := by
          simp only [Bool.or_eq_false_iff, Bool.not_eq_false', Bool.and_eq_true, decide_eq_true_eq] at h'
          omega
        have hln : m.cps.toList.length = m.length := by simp [Str.length]
        have hne : m.cps.toList ≠ [] := fun z => by
          rw [z] at hln
          simp at hln
          omega
        have a0 : atI m.cps.toList ((0 : Nat) : Int) = some (fst m) := by
          refine atI_nat ?_
          unfold fst
          rw [List.getD_eq_getElem?_getD, List.getElem?_eq_getElem (by omega)]
          rfl
        have a1 : atI m.cps.toList (-1) = some (lst m) := by
          have z := at_last m.cps.toList hne
          rw [hln] at z
          exact z
        have hs : m.length ≤ 100000 := by omega
        have key : isMask m = (decide (fst m = 120) && decide (lst m = 120)) := by
          unfold isMask
          rw [h']
          simp
        refine s_ret (v := .bl (isMaskV (.str m))) (ev_is (ev_andV (ev_op (ev_op (ev_var rfl) ev_c (rv_ixS hs a0)) ev_c (rv_chrE x_eq))
          fun _ => ev_op (ev_op (ev_var rfl) (ev_un ev_c ru_neg) (rv_ixS hs a1)) ev_c (rv_chrE x_eq)) ?_) fun H2 e2 => q H2 (e1.trans e2)
        show V.bl _ = V.bl (isMask m)
        rw [key]
      | _ => exact Bool.noConfusion (show true = false from h)
theorem ok_check_mask (e : Ent K mg "check_mask" s_check_mask p_check_mask) (T : Top K mg CM CG fG a_SMALL_WIDTH a_SMALL_SEEN) (c1 : Cal P w K mg base CX0 2 "is_mask" p_is_mask (spIsMask K)) : Cal P w K mg base (L2.CX P w) 3 "check_mask" p_check_mask (spCheckMask K CM) := by
  obtain ⟨f, fd, F, m_, b_⟩ := e
  obtain ⟨f_is_mask, fd_is_mask, G_is_mask, m_is_mask, k_is_mask, b_is_mask⟩ := c1
  refine ⟨f, fd, F.okX sc_check_mask (fun vs H Q E h => ?_) (fun cdv A outer s H vs Q E hr h => ?_), m_, F.kp, b_⟩
  · obtain ⟨v, rfl, _⟩ := h
    rfl
  · obtain ⟨v, rfl, hv, q1, q2⟩ := h
    refine ⟨_, (pss_one (ps_if (pt_not (pt_val (pe_call G_is_mask (hr.mono (by decide)) (by rfl) m_is_mask k_is_mask b_is_mask .nil pass0 (pa_cons (pv 0) pa_nil)))) (pss_one (ps_raise rfl (takes_of rfl rfl rfl rfl) (pmk_own PySem.F.excBase_ValueError T.e_BadMask.x T.e_BadMask.g T.e_BadMask.k (raises_own T.e_BadMask.b T.e_BadMask.t) (by rfl)))) pss_nil)), ?_⟩
    exact s_when (b := !isMaskV v) (et_not (et_B (ev_call (ea_cons (ev_var rfl) ea_nil) fun H1 e1 Q q E => ⟨v, rfl, hv.ex e1, q⟩))) (fun h H1 e1 => q2 (by simpa using h) H1 e1) (fun h H1 e1 => q1 (by simpa using h) H1 e1)
end
end K13
namespace K13
open PySem PySem.Spec PyProof.Rows L2 Evl Qt
def isI : V → Bool
  | .int _ => true
  | .bl _ => true
  | _ => false
def isB : V → Bool
  | .bl _ => true
  | _ => false
def NOk (K : PySem.W.Frag) (H : Hp) (v : V) : Prop := ∃ t, Qt.Kind K H v t ∧ kitB t "int" = some (isI v) ∧ kitB t "bool" = some (isB v)
theorem NOk.ex {K : PySem.W.Frag} {H H1 : Hp} {v : V} (h : NOk K H v) (e : Ex H H1) : NOk K H1 v := by
  obtain ⟨t, h1, h2⟩ := h
  exact ⟨t, h1.ex e, h2⟩
def isNum (lo hi : Int) : V → Bool
  | .int i => decide (lo ≤ i) && decide (i ≤ hi)
  | _ => false
theorem rc_isi {K : PySem.W.Frag} {H : Hp} {v : V} {t T : String} {b : Bool} (k : Qt.Kind K H v t) (hb : kitB t T = some b) : RC (rIsi K) [v, .ty T] H (.bl b) := fun H1 e Q q =>
  ⟨v, .ty T, .type t, .type T, b, rfl, .ty T, k.ex e, kit_ty hb, q H1 (Ex.refl H1)⟩
theorem NOk.int {K : PySem.W.Frag} {H : Hp} {i : Int} : NOk K H (.int i) := ⟨"int", .base (.int _), (by decide +kernel : kitB "int" "int" = some true), (by decide +kernel : kitB "int" "bool" = some false)⟩
theorem isNum_of {lo hi : Int} {n : Nat} (h1 : lo ≤ (n : Int)) (h2 : (n : Int) ≤ hi) : isNum lo hi (.int (n : Int)) = true := by
  show (decide (lo ≤ (n : Int)) && decide ((n : Int) ≤ hi)) = true
  rw [decide_eq_true h1, decide_eq_true h2]
  rfl
theorem isNum_is {lo hi : Int} {v : V} (h0 : 0 ≤ lo) (h : isNum lo hi v = true) : ∃ n : Nat, v = .int (n : Int) ∧ lo ≤ (n : Int) ∧ (n : Int) ≤ hi := by
  cases v with
  | int i =>
    have z : (decide (lo ≤ i) && decide (i ≤ hi)) = true := h
    simp only [Bool.and_eq_true, decide_eq_true_eq] at z
    obtain ⟨n, rfl⟩ := Int.eq_ofNat_of_zero_le (by omega : 0 ≤ i)
    exact ⟨n, rfl, z.1, z.2⟩
  | _ => exact Bool.noConfusion (show false = true from h)
def spLetters : Sp := fun vs H Q _ => ∃ n : Nat, vs = [.int (n : Int)] ∧ 1 ≤ n ∧ n ≤ 4 ∧ RetV .non H Q
def spLettersX (K : PySem.W.Frag) (CLt : Addr) : Sp := fun vs H Q E => ∃ v, vs = [v] ∧ NOk K H v ∧ (isNum 1 4 v = true → RetV .non H Q) ∧ (isNum 1 4 v = false → ∀ H', Ex H H' → E (.ref CLt) none H')
def spNumC : Sp := fun vs H Q _ => ∃ (v lo hi : Int), vs = [.int v, .int lo, .int hi] ∧ lo ≤ v ∧ v ≤ hi ∧ RetV .non H Q
section
variable {P : Program} {w : World} {K : PySem.W.Frag} {mg : Str → Option Value} {base : Heap} {CM CG fG a_SMALL_WIDTH a_SMALL_SEEN : Addr}
def spIsNumber (K : PySem.W.Frag) : Sp := fun vs H Q _ => ∃ v lo hi, vs = [v, .int lo, .int hi] ∧ NOk K H v ∧ RetV (.bl (isNum lo hi v)) H Q
theorem ok_is_number (e : Ent K mg "is_number" s_is_number p_is_number) (T : Top K mg CM CG fG a_SMALL_WIDTH a_SMALL_SEEN) : Cal P w K mg base CX0 1 "is_number" p_is_number (spIsNumber K) := by
  obtain ⟨f, fd, F, m_, b_⟩ := e
  refine ⟨f, fd, F.ok sc_is_number (fun vs H Q E h => ?_) (fun cdv A outer s H vs Q E hr h => ?_), m_, F.kp, b_⟩
  · obtain ⟨v, lo, hi, rfl, _⟩ := h
    rfl
  · obtain ⟨v, lo, hi, rfl, ⟨t, k1, k2, k3⟩, q⟩ := h
    refine ⟨_, (pss_one (ps_ret (pe_and (pe_callB call_isi (by rfl) T.m_isinstance (by decide +kernel) (pa_cons (pv 0) (pa_cons (pe_bltn (v := .ty "int") (by rfl) T.m_int (by decide +kernel) rfl) pa_nil))) (pe_and (pe_not (pe_callB call_isi (by rfl) T.m_isinstance (by decide +kernel) (pa_cons (pv 0) (pa_cons (pe_bltn (v := .ty "bool") (by rfl) T.m_bool (by decide +kernel) rfl) pa_nil)))) (pe_one (pe_chain op_le op_le (pv 1) (pv 0) (pv 2))))))), ?_⟩
    refine s_ret (ev_is (ev_andV (a := isI v) (b := !isB v && isNum lo hi v) (ev_cb (ea_cons (ev_var rfl) (ea_cons ev_c ea_nil)) (rc_isi k1 k2)) fun h1 => ev_andV (ev_notV (ev_cb (ea_cons (ev_var rfl) (ea_cons ev_c ea_nil)) (rc_isi k1 k3))) fun h2 => ?_) ?_) q
    · cases v with
      | int i => exact ev_chain (ev_var rfl) (ev_var rfl) rv_I0 (ev_var rfl) fun _ => rv_I0
      | bl b => exact Bool.noConfusion (show false = true from h2)
      | _ => exact Bool.noConfusion (show false = true from h1)
    · cases v <;> rfl
theorem ok_letters (e : Ent K mg "check_letters" s_check_letters p_check_letters) (T : Top K mg CM CG fG a_SMALL_WIDTH a_SMALL_SEEN) (c1 : Cal P w K mg base CX0 1 "is_number" p_is_number (spIsNumber K)) : Cal P w K mg base CX0 2 "check_letters" p_check_letters spLetters := by
  obtain ⟨f, fd, F, m_, b_⟩ := e
  obtain ⟨f_is_number, fd_is_number, G_is_number, m_is_number, k_is_number, b_is_number⟩ := c1
  refine ⟨f, fd, F.ok sc_check_letters (fun vs H Q E h => ?_) (fun cdv A outer s H vs Q E hr h => ?_), m_, F.kp, b_⟩
  · obtain ⟨n, rfl, _⟩ := h
    rfl
  · obtain ⟨n, rfl, h1, h4, q⟩ := h
    refine ⟨_, (pss_one (ps_if (pt_not (pt_val (pe_call G_is_number (hr.mono (by decide)) (by rfl) m_is_number k_is_number b_is_number .nil pass0 (pa_cons (pv 0) (pa_cons pe_int (pa_cons (pe_callB call_len_str (by rfl) T.m_len (by decide +kernel) (pa_cons (pe_glob (v := .str (PySem.Str.ofString "abcd")) (by rfl) T.g_LETTERS.choose_spec ⟨_, rfl⟩) pa_nil)) pa_nil)))))) (pss_one ps_never) pss_nil)), ?_⟩
    refine s_when (b := !isNum 1 4 (.int (n : Int))) (et_not (et_B (ev_call (vs := [.int (n : Int), .int 1, .int 4]) (ea_cons (ev_var rfl) (ea_cons ev_c (ea_cons (ev_is (ev_cb (ea_cons ev_c ea_nil) (rc_lenS (z := PySem.Str.ofString "abcd") (by decide +kernel))) (by rw [show (PySem.Str.ofString "abcd").length = 4 by decide +kernel]; rfl)) ea_nil))) fun H1 e1 Q q E => ⟨.int (n : Int), 1, 4, rfl, ⟨"int", .base (.int _), (by decide +kernel : kitB "int" "int" = some true), (by decide +kernel : kitB "int" "bool" = some false)⟩, q⟩))) (fun hh => ?_) (fun _ H1 e1 => q H1 e1)
    have z : isNum 1 4 (.int (n : Int)) = true := by
      show (decide ((1 : Int) ≤ (n : Int)) && decide ((n : Int) ≤ 4)) = true
      rw [decide_eq_true (by omega), decide_eq_true (by omega)]
      rfl
    rw [z] at hh
    cases hh
end
end K13
namespace K13
open PySem PySem.Spec PyProof.Rows L2 Evl Qt
/-- the places of the x of a mask -/
def openM (m : Str) : List Nat := (List.range m.length).filter fun i => decide (m.cps.toList.getD i 0 = 120)
def natsV (l : List Nat) : List V := l.map fun (i : Nat) => V.int (i : Int)
def spSeen (K : PySem.W.Frag) (CM : Addr) : Sp := fun vs H Q E => ∃ v, vs = [v] ∧ VOk K H v ∧ (∀ m, v = .str m → isMask m = true → RetL (natsV (openM m)) H Q) ∧ (isMaskV v = false → ∀ H', Ex H H' → E (.ref CM) none H')
def spSeen0 (K : PySem.W.Frag) : Sp := fun vs H Q _ => ∃ m, vs = [.str m] ∧ isMask m = true ∧ RetL (natsV (openM m)) H Q
theorem isMask_len {m : Str} (h : isMask m = true) : 1 ≤ m.length ∧ m.length ≤ 12 := by
  unfold isMask at h
  simp only [Bool.and_eq_true, Bool.not_eq_true', Bool.or_eq_false_iff, Bool.not_eq_false', decide_eq_true_eq] at h
  omega
theorem isMask_ends {m : Str} (h : isMask m = true) : fst m = 120 ∧ lst m = 120 := by
  unfold isMask at h
  simp only [Bool.and_eq_true, Bool.not_eq_true', Bool.or_eq_false_iff, Bool.not_eq_false', decide_eq_true_eq] at h
  exact h.2
section
variable {P : Program} {w : World} {K : PySem.W.Frag} {mg : Str → Option Value} {base : Heap} {CM CG fG a_SMALL_WIDTH a_SMALL_SEEN : Addr}
theorem given_open (m : Str) : given m.length (fun i => decide (m.cps.toList.getD i 0 = 120)) (fun i => V.int (i : Int)) = natsV (openM m) := rfl
theorem et_x {σ : L2.St} {H : Hp} {ta tb : TE} {c : Nat} {d : Str} (hd : d = ⟨#[120]⟩) (ha : Ev ta σ H (.str ⟨#[c]⟩)) (hb : Ev tb σ H (.str d)) : EvT (tTest (tOp rEq ta tb)) σ H (decide (c = 120)) := by
  refine et_test (ev_op ha hb ?_)
  subst hd
  have e : decide (V.str (⟨#[c]⟩ : Str) = V.str ⟨#[120]⟩) = decide (c = 120) := by
    by_cases h : c = 120
    · subst h; simp
    · simp [h]
  rw [← e]
  exact rv_eq rfl
theorem ok_seen (e : Ent K mg "seen" s_seen p_seen) (T : Top K mg CM CG fG a_SMALL_WIDTH a_SMALL_SEEN) (c1 : Cal P w K mg base (L2.CX P w) 3 "check_mask" p_check_mask (spCheckMask K CM)) : Cal P w K mg base (L2.CX P w) 4 "seen" p_seen (spSeen K CM) := by
  obtain ⟨f, fd, F, m_, b_⟩ := e
  obtain ⟨f_check_mask, fd_check_mask, G_check_mask, m_check_mask, k_check_mask, b_check_mask⟩ := c1
  refine ⟨f, fd, F.okX sc_seen (fun vs H Q E h => ?_) (fun cdv A outer s H vs Q E hr h => ?_), m_, F.kp, b_⟩
  · obtain ⟨v, rfl, _⟩ := h
    rfl
  · obtain ⟨v, rfl, hv, q1, q2⟩ := h
    refine ⟨_, (pss_cons (ps_expr (pe_call G_check_mask (hr.mono (by decide)) (by rfl) m_check_mask k_check_mask b_check_mask .nil (passes_call (takes_of rfl rfl rfl rfl) (fun _ _ _ _ h => h)) (pa_cons (pv 0) pa_nil)))
      (pss_one (ps_ret (pe_lc (own := [("place", 1), ("sign", 2)]) (g := gTup K 2 (gCons (gName 1) (gCons (gName 2) gNil))) (by rfl) sc_seen.nd (pi_enumS (by rfl) T.m_enumerate (pa_cons (pv 0) pa_nil)) (blkOk_by (own := [("place", 1), ("sign", 2)]) (N := n_seen) (sc := (defScope s_seen)) (by decide +kernel)) (fun _ _ _ _ _ => by exact (pg_tup rfl (pgs_cons (by exact pg_name (i := 1) sc_seen.nd rfl (Or.inl rfl)) (pgs_cons (by exact pg_name (i := 2) sc_seen.nd rfl (Or.inl rfl)) pgs_nil)))) (fun _ _ _ _ _ => pts_one (pt_cmpR op_eq (pv 2) pe_str (nomark _))) (fun _ _ _ _ _ => (pv 1)))))), ?_⟩
    refine ⟨_, rfl, v, rfl, hv, fun hm H1 e1 => ?_, fun hm H' e' => q2 hm H' e'⟩
    cases v with
    | str m =>
      have hl := isMask_len hm
      refine s_retL (el_lcSE (z := m) (fun i => decide (m.cps.toList.getD i 0 = 120)) (fun i => V.int (i : Int)) (ea_cons (ev_var rfl) ea_nil) (by omega) (fun _ _ => rfl)
        (fun i H2 _ _ => et_x x_eq (ev_var rfl) ev_c) (fun i H2 _ _ _ => ev_var rfl)) fun p H2 np e2 h2 => ?_
      exact q1 m rfl hm p H2 (fresh_back e1 np) (e1.trans e2) h2
    | _ => exact Bool.noConfusion (show false = true from hm)
theorem seen0 (c : Cal P w K mg base (L2.CX P w) 4 "seen" p_seen (spSeen K CM)) : Cal P w K mg base CX0 4 "seen" p_seen (spSeen0 K) :=
  c.calm fun vs H Q E h => by
    obtain ⟨m, rfl, hm, q⟩ := h
    have hl := isMask_len hm
    exact ⟨.str m, rfl, .str (by omega), fun m' e _ => by cases e; exact q, fun z => by
      have z' : isMask m = false := z
      rw [hm] at z'
      cases z'⟩
end
end K13
namespace K13
open PySem PySem.Spec PyProof.Rows L2 Evl Qt
section
variable {P : Program} {w : World} {K : PySem.W.Frag} {mg : Str → Option Value} {base : Heap} {CM CG fG a_SMALL_WIDTH a_SMALL_SEEN : Addr}
theorem seen_val {H : Hp} {m : Str} (h : isMask m = true) : SpL (spSeen K CM) ([.str m] ++ []) H (natsV (openM m)) := fun H1 e Q q E => by
  have hl := isMask_len h
  exact ⟨.str m, rfl, .str (by omega), fun m' e' _ => by cases e'; exact q, fun z => by
    have z' : isMask m = false := z
    rw [h] at z'
    cases z'⟩
theorem open_len (m : Str) : (openM m).length ≤ m.length := by
  unfold openM
  have h := List.length_filter_le (fun i => decide (m.cps.toList.getD i 0 = 120)) (List.range m.length)
  rw [List.length_range] at h
  exact h
theorem range_getD {β : Type} (l : List Nat) (g : Nat → β) : (List.range l.length).map (fun i => g (l.getD i 0)) = l.map g := by
  apply List.ext_getElem
  · simp
  · intro i h1 h2
    simp only [List.length_map] at h2
    simp [List.getD_eq_getElem?_getD, List.getElem?_eq_getElem h2]
theorem natsV_get {l : List Nat} {i : Nat} {x : V} (h : (natsV l)[i]? = some x) : i < l.length ∧ x = .int ((l.getD i 0 : Nat) : Int) := by
  unfold natsV at h
  rw [List.getElem?_map] at h
  cases e : l[i]? with
  | none => rw [e] at h; cases h
  | some c =>
    rw [e] at h
    refine ⟨(List.getElem?_eq_some_iff.mp e).1, ?_⟩
    rw [List.getD_eq_getElem?_getD, e]
    exact (Option.some.inj h).symm
theorem natsV_len (l : List Nat) : (natsV l).length = l.length := List.length_map ..
theorem nil_l : (PySem.Str.ofString "").cps.toList = [] := by decide +kernel
end
end K13
namespace K13
open PySem PySem.Spec PyProof.Rows L2 Evl Qt
section
variable {P : Program} {w : World} {K : PySem.W.Frag} {mg : Str → Option Value} {base : Heap} {CM CG fG a_SMALL_WIDTH a_SMALL_SEEN : Addr}
theorem rc_int {H : Hp} {i : Int} : RC (fun xs H Q => (∃ i, xs = [V.int i] ∧ Q (.int i) H) ∨ ∃ k, xs = [V.bl k] ∧ Q (.int (if k then 1 else 0)) H) [.int i] H (.int i) := fun H1 _ _ q => .inl ⟨i, rfl, q H1 (Ex.refl H1)⟩
theorem evr {σ : L2.St} {H : Hp} {r : Addr} {xs : List V} {j : Int} {v : V} (hr : H r = some (.lst xs)) (h0 : σ[0]? = some (some (.ref r))) (ha : atI xs j = some v) : Ev (tOp (rIxL K) (tVar 0) (tC (.int j))) σ H v :=
  ev_op (ev_var h0) ev_c (rv_ixL (sq_of hr) ha)
theorem rc_lenL {H : Hp} {a : Addr} {xs : List V} (h : SqL K H a xs) : RC (fun xs H Q => ∃ x n, xs = [x] ∧ LenV K x H n ∧ Q (.int (n : Int)) H) [.ref a] H (.int (xs.length : Int)) := fun H1 e _ q =>
  ⟨.ref a, xs.length, rfl, .inl ⟨xs, ex_l e h, rfl⟩, q H1 (Ex.refl H1)⟩
theorem xr_upd {r : Addr} {H : Hp} {o : HO} : Xr K r H (upd H r o) := fun a u ne h => by rw [upd_ne ne]; exact h
theorem ok_taken (e : Ent K mg "_law_taken" s__law_taken p__law_taken) (T : Top K mg CM CG fG a_SMALL_WIDTH a_SMALL_SEEN) : Cal P w K mg base CX0 1 "_law_taken" p__law_taken (spTaken K) := by
  obtain ⟨f, fd, F, m_, b_⟩ := e
  refine ⟨f, fd, F.ok sc__law_taken (fun vs H Q E h => ?_) (fun cdv A outer s H vs Q E hr h => ?_), m_, F.kp, b_⟩
  · obtain ⟨r, sc, ns, m, rfl, _⟩ := h
    rfl
  · obtain ⟨r, sc, ns, m, rfl, h1, h2, hR, q⟩ := h
    obtain ⟨i, sd, x, hr1, hs, hl, i0, s0, s1⟩ := id hR
    refine ⟨_, (pss_cons (ps_if (pt_cmpR op_gt (pe_ix ix_list (pv 0) pe_int (fun _ _ => rfl)) pe_int (nomark _)) (pss_cons (ps_set (i := 2) sc__law_taken.nd rfl (Or.inl rfl) (pe_op op_mod (pe_callTy call_int1 (by rfl) T.m_int (by decide +kernel) (pa_cons (pe_ix ix_list (pv 0) pe_int (fun _ _ => rfl)) pa_nil)) (pv 1)))
      (pss_cons (ps_asg (pe_op op_fdiv (pe_ix ix_list (pv 0) pe_int (fun _ _ => rfl)) (pv 1)) (pg_sub (pv 0) pe_int set_list))
      (pss_one (ps_ret (pv 2))))) pss_nil)
      (pss_cons (ps_asg (pe_op op_add (pe_ix ix_list (pv 0) pe_int (fun _ _ => rfl)) pe_int) (pg_sub (pv 0) pe_int set_list))
      (pss_cons (ps_if (pt_cmpR op_gt (pe_ix ix_list (pv 0) pe_int (fun _ _ => rfl)) (pe_callB call_len (by rfl) T.m_len (by decide +kernel) (pa_cons (pe_ix ix_list (pv 0) pe_int (fun _ _ => rfl)) pa_nil)) (nomark _)) (pss_cons (ps_asg (pe_op op_mod (pe_callTy call_int1 (by rfl) T.m_int (by decide +kernel) (pa_cons (pe_op op_add (pe_op op_mul (pe_ix ix_list (pv 0) pe_int (fun _ _ => rfl)) pe_int) pe_int) pa_nil)) pe_int) (pg_sub (pv 0) pe_int set_list))
      (pss_one (ps_ret (pe_op op_mod (pe_callTy call_int1 (by rfl) T.m_int (by decide +kernel) (pa_cons (pe_op op_fdiv (pe_ix ix_list (pv 0) pe_int (fun _ _ => rfl)) pe_int) pa_nil)) (pv 1))))) pss_nil)
      (pss_cons (ps_set (i := 3) sc__law_taken.nd rfl (Or.inl rfl) (pe_ix ix_list (pe_ix ix_list (pv 0) pe_int (fun _ _ => rfl)) (pe_op op_sub (pe_ix ix_list (pv 0) pe_int (fun _ _ => rfl)) pe_int) (fun _ _ => rfl)))
      (pss_cons (ps_asg (pe_op op_mod (pe_callTy call_int1 (by rfl) T.m_int (by decide +kernel) (pa_cons (pe_op op_add (pe_op op_add (pe_op op_mul (pe_ix ix_list (pv 0) pe_int (fun _ _ => rfl)) pe_int) (pv 3)) pe_int) pa_nil)) pe_int) (pg_sub (pv 0) pe_int set_list))
      (pss_cons (ps_if (pt_cmpR op_ge (pv 3) (pe_op op_pow pe_int pe_int) (nomark _)) (pss_one (ps_asg (pe_op op_fdiv (pv 3) (pv 1)) (pg_sub (pv 0) pe_int set_list))) pss_nil)
      (pss_one (ps_ret (pe_op op_mod (pe_callTy call_int1 (by rfl) T.m_int (by decide +kernel) (pa_cons (pv 3) pa_nil)) (pv 1)))))))))), ?_⟩
    have fin : ∀ {H' : Hp} {i' s' x' : Int}, Xr K r H H' → H' r = some (.lst [.ref sc, .int i', .int s', .int x']) → 0 ≤ i' → 0 ≤ s' → s' < 2147483647 → Qt.Row K r sc ns H' := fun X hr a b c => ⟨_, _, _, hr, hR.sq X, hl, a, b, c⟩
    have md : ∀ z : Int, 0 ≤ z % m ∧ z % m < m := fun z => ⟨Int.emod_nonneg z (by omega), Int.emod_lt_of_pos z (by omega)⟩
    have mg_ : ∀ z : Int, 0 ≤ z % 2147483647 ∧ z % 2147483647 < 2147483647 := fun z => ⟨Int.emod_nonneg z (by omega), Int.emod_lt_of_pos z (by omega)⟩
    refine q_when (b := decide (0 < x)) (et_test (ev_op (evr hr1 rfl (atI_nat (j := 3) rfl)) ev_c rv_I0)) (fun hb H1 e1 => ?_) (fun hb H1 e1 => ?_)
    · -- the rest of a great cell
      have r1 := e1 _ _ hr1
      refine q_asg (ev_op (ev_cb (ea_cons (evr r1 rfl (atI_nat (j := 3) rfl)) ea_nil) rc_int) (ev_var rfl) (rv_I (show 0 < m by omega))) fun H2 e2 => ?_
      have r2 := e2 _ _ r1
      refine q_setL (j := 3) r2 (ev_op (evr r2 rfl (atI_nat (j := 3) rfl)) (ev_var rfl) (rv_I ⟨by omega, by omega⟩)) (ev_var rfl) ev_c (by simp) fun H3 e3 => ?_
      refine s_ret (ev_var rfl) fun H4 e4 => ?_
      have X : Xr K r H H4 := (((Xr.of e1).trans (Xr.of e2)).trans (Xr.of e3)).trans (xr_upd.trans (Xr.of e4))
      exact q _ H4 (md x).1 (md x).2 X (fin X (e4 _ _ upd_same) i0 s0 s1)
    · have r1 := e1 _ _ hr1
      refine q_setL (j := 1) r1 (ev_op (evr r1 rfl (atI_nat (j := 1) rfl)) ev_c rv_I0) (ev_var rfl) ev_c (by simp) fun H2 e2 => ?_
      have X2 : Xr K r H (upd H2 r (.lst [.ref sc, .int (i + 1), .int sd, .int x])) := ((Xr.of e1).trans (Xr.of e2)).trans xr_upd
      have r2 : (upd H2 r (.lst [.ref sc, .int (i + 1), .int sd, .int x])) r = some (.lst [.ref sc, .int (i + 1), .int sd, .int x]) := upd_same
      generalize hG : upd H2 r (.lst [.ref sc, .int (i + 1), .int sd, .int x]) = G at X2 r2
      have hs2 : SqL K G sc (ns.map V.int) := hR.sq X2
      show tSeq _ _ _ _ (upd H2 r (.lst [.ref sc, .int (i + 1), .int sd, .int x]))
      rw [hG]
      refine q_when (b := decide (((ns.map V.int).length : Int) < i + 1)) (et_test (ev_op (evr r2 rfl (atI_nat (j := 1) rfl)) (ev_cb (ea_cons (evr r2 rfl (atI_nat (j := 0) rfl)) ea_nil) (rc_lenL hs2)) rv_I0)) (fun hc H3 e3 => ?_) (fun hc H3 e3 => ?_)
      · -- mixed numbers
        have r3 := e3 _ _ r2
        refine q_setL (j := 2) r3 (ev_op (ev_cb (ea_cons (ev_op (ev_op (evr r3 rfl (atI_nat (j := 2) rfl)) ev_c (rv_I (.inl ⟨by omega, by omega⟩))) ev_c rv_I0) ea_nil) rc_int) ev_c (rv_I (by decide))) (ev_var rfl) ev_c (by simp) fun H4 e4 => ?_
        have X4 := (X2.trans (Xr.of e3)).trans ((Xr.of e4).trans (xr_upd (o := .lst [.ref sc, .int (i + 1), .int ((sd * 48271 + 11) % 2147483647), .int x])))
        refine s_ret (ev_op (ev_cb (ea_cons (ev_op (evr (xs := [.ref sc, .int (i + 1), .int ((sd * 48271 + 11) % 2147483647), .int x]) upd_same rfl (atI_nat (j := 2) rfl)) ev_c (rv_I ⟨by decide, by decide⟩)) ea_nil) rc_int) (ev_var rfl) (rv_I (show 0 < m by omega))) fun H5 e5 => ?_
        have X5 := X4.trans (Xr.of e5)
        exact q _ H5 (md _).1 (md _).2 X5 (fin X5 (e5 _ _ upd_same) (by omega) (mg_ _).1 (mg_ _).2)
      · have hi : i < (ns.length : Int) := by
          have z := of_decide_eq_false hc
          rw [List.length_map] at z
          omega
        have r3 := e3 _ _ r2
        have X3 := X2.trans (Xr.of e3)
        obtain ⟨n, rfl⟩ := Int.eq_ofNat_of_zero_le i0
        have hcell : atI (ns.map V.int) ((n : Int) + 1 - 1) = some (.int (ns.getD n 0)) := by
          have e0 : (n : Int) + 1 - 1 = (n : Int) := by omega
          rw [e0]
          refine atI_nat ?_
          rw [List.getElem?_map, List.getD_eq_getElem?_getD, List.getElem?_eq_getElem (by omega)]
          rfl
        refine q_asg (ev_op (evr r3 rfl (atI_nat (j := 0) rfl)) (ev_op (evr r3 rfl (atI_nat (j := 1) rfl)) ev_c rv_I0) (rv_ixL (ex_l e3 hs2) hcell)) fun H4 e4 => ?_
        have r4 := e4 _ _ r3
        refine q_setL (j := 2) r4 (ev_op (ev_cb (ea_cons (ev_op (ev_op (ev_op (evr r4 rfl (atI_nat (j := 2) rfl)) ev_c (rv_I (.inl ⟨by omega, by omega⟩))) (ev_var rfl) rv_I0) ev_c rv_I0) ea_nil) rc_int) ev_c (rv_I (by decide))) (ev_var rfl) ev_c (by simp) fun H5 e5 => ?_
        have X5 := (X3.trans (Xr.of e4)).trans ((Xr.of e5).trans (xr_upd (o := .lst [.ref sc, .int ((n : Int) + 1), .int ((sd * 48271 + ns.getD n 0 + 11) % 2147483647), .int x])))
        have r5 : (upd H5 r (.lst [.ref sc, .int ((n : Int) + 1), .int ((sd * 48271 + ns.getD n 0 + 11) % 2147483647), .int x])) r = some (.lst [.ref sc, .int ((n : Int) + 1), .int ((sd * 48271 + ns.getD n 0 + 11) % 2147483647), .int x]) := upd_same
        generalize hG5 : upd H5 r (.lst [.ref sc, .int ((n : Int) + 1), .int ((sd * 48271 + ns.getD n 0 + 11) % 2147483647), .int x]) = G5 at X5 r5
        show tSeq _ _ _ _ (upd H5 r (.lst [.ref sc, .int ((n : Int) + 1), .int ((sd * 48271 + ns.getD n 0 + 11) % 2147483647), .int x]))
        rw [hG5]
        refine q_when (b := decide (((10 : Int) ^ (18 : Int).toNat) ≤ ns.getD n 0)) (et_test (ev_op (ev_var rfl) (ev_op ev_c ev_c (rv_I ⟨by decide, by decide, by decide⟩)) rv_I0)) (fun hd H6 e6 => ?_) (fun hd H6 e6 => ?_)
        · have r6 := e6 _ _ r5
          refine s_setL (j := 3) r6 (ev_op (ev_var rfl) (ev_var rfl) (rv_I ⟨by omega, by omega⟩)) (ev_var rfl) ev_c (by simp) fun H7 e7 => ?_
          dsimp only
          refine s_ret (ev_op (ev_cb (ea_cons (ev_var rfl) ea_nil) rc_int) (ev_var rfl) (rv_I (show 0 < m by omega))) fun H8 e8 => ?_
          have X8 := ((X5.trans (Xr.of e6)).trans (Xr.of e7)).trans (xr_upd.trans (Xr.of e8))
          exact q _ H8 (md _).1 (md _).2 X8 (fin X8 (e8 _ _ upd_same) (by omega) (mg_ _).1 (mg_ _).2)
        · refine s_ret (ev_op (ev_cb (ea_cons (ev_var rfl) ea_nil) rc_int) (ev_var rfl) (rv_I (show 0 < m by omega))) fun H7 e7 => ?_
          have X7 := (X5.trans (Xr.of e6)).trans (Xr.of e7)
          exact q _ H7 (md _).1 (md _).2 X7 (fin X7 (e7 _ _ (e6 _ _ r5)) (by omega) (mg_ _).1 (mg_ _).2)
end
end K13
namespace K13
open PySem PySem.Spec PyProof.Rows L2 Evl Qt
def spMaskDraw (K : PySem.W.Frag) : Sp := fun vs H Q _ => ∃ (r sc : Addr) (ns : List Int) (wd : Int), vs = [.ref r, .int wd] ∧ 1 ≤ wd ∧ wd ≤ 12 ∧ Qt.Row K r sc ns H ∧
  ∀ (z : Str) (H' : Hp), isMask z = true → (z.length : Int) ≤ wd → Xr K r H H' → Qt.Row K r sc ns H' → Q (.str z) H'
def spOpen : Sp := fun vs H Q _ => ∃ m : Str, vs = [.str m] ∧ m.length ≤ 1000 ∧ RetL (natsV (openM m)) H Q
theorem madeOf_of {z : Str} (h : ∀ c ∈ z.cps.toList, c = 120 ∨ c = 46) : madeOf (.str z) sx = true := by
  show (z.cps.toList.all fun c => decide (c ∈ sx.cps.toList)) = true
  rw [sx_l, List.all_eq_true]
  intro c hc
  rcases h c hc with rfl | rfl <;> decide
theorem isMask_of {z : Str} (h : ∀ c ∈ z.cps.toList, c = 120 ∨ c = 46) (h1 : 1 ≤ z.length) (h2 : z.length ≤ 12) (a : fst z = 120) (b : lst z = 120) : isMask z = true := by
  unfold isMask
  rw [madeOf_of h, a, b, decide_eq_true (show (1 : Int) ≤ (z.length : Int) by omega), decide_eq_true (show (z.length : Int) ≤ 12 by omega)]
  rfl
section
variable {P : Program} {w : World} {K : PySem.W.Frag} {mg : Str → Option Value} {base : Heap} {CM CG fG a_SMALL_WIDTH a_SMALL_SEEN : Addr}
theorem ok_open (e : Ent K mg "_law_open" s__law_open p__law_open) (T : Top K mg CM CG fG a_SMALL_WIDTH a_SMALL_SEEN) : Cal P w K mg base CX0 1 "_law_open" p__law_open spOpen := by
  obtain ⟨f, fd, F, m_, b_⟩ := e
  refine ⟨f, fd, F.ok sc__law_open (fun vs H Q E h => ?_) (fun cdv A outer s H vs Q E hr h => ?_), m_, F.kp, b_⟩
  · obtain ⟨m, rfl, _⟩ := h
    rfl
  · obtain ⟨m, rfl, hm, q⟩ := h
    refine ⟨_, (pss_one (ps_ret (pe_lc (own := [("_law_at", 1)]) (g := gName 1) (by rfl) sc__law_open.nd (pi_range1 (by rfl) T.m_range (pa_cons (pe_callB call_len_str (by rfl) T.m_len (by decide +kernel) (pa_cons (pv 0) pa_nil)) pa_nil)) (blkOk_by (own := [("_law_at", 1)]) (N := n__law_open) (sc := (defScope s__law_open)) (by decide +kernel)) (fun _ _ _ _ _ => pg_name (i := 1) sc__law_open.nd rfl (Or.inl rfl)) (fun _ _ _ _ _ => pts_one (pt_cmpR op_eq (pe_ix ix_str (pv 0) (pv 1) (fun _ _ => rfl)) pe_str (nomark _))) (fun _ _ _ _ _ => (pv 1))))), ?_⟩
    have z := el_lcR1 (te := tVar 1) (t := tTest (tOp rEq (tOp rIxS (tVar 0) (tVar 1)) (tC (.str (PySem.Str.ofString "x"))))) (ta := tCons (tCB (fun xs H Q => ∃ z : Str, xs = [.str z] ∧ z.length ≤ sizeLine ∧ Q (.int (z.length : Int)) H) (tCons (tVar 0) tNil)) tNil) (j := 1) (vs := [1])
      (σ := start n__law_open [.str m]) (H := H) (n := (m.length : Int)) (fun i => decide (m.cps.toList.getD i 0 = 120)) (fun i => V.int (i : Int)) (ea_cons (ev_cb (ea_cons (ev_var rfl) ea_nil) (rc_lenS (by omega))) ea_nil) (by omega) (fun _ => rfl)
      (fun i H1 e1 hi => et_x x_eq (ev_op (ev_var rfl) (ev_var rfl) (rv_ixS (by omega) (atI_nat (by
        have hl := len_l m
        rw [List.getElem?_eq_getElem (by omega), List.getD_eq_getElem?_getD, List.getElem?_eq_getElem (by omega)]
        rfl)))) ev_c) (fun i H1 e1 hi _ => ev_var rfl)
    rw [Int.toNat_natCast] at z
    exact s_retL z q
theorem dx_l : (PySem.Str.ofString ".x").cps.toList = [46, 120] := by decide +kernel
theorem xone : (PySem.Str.ofString "x").cps.toList = [120] := by decide +kernel
theorem x_mask : isMask (PySem.Str.ofString "x") = true := by decide +kernel
theorem x_len : (PySem.Str.ofString "x").length = 1 := by decide +kernel
end
end K13
namespace K13
open PySem PySem.Spec PyProof.Rows L2 Evl Qt
def sl : Str := PySem.Str.ofString "abcd"
def isRow (m : Str) : Bool := madeOf (.str m) sl && decide (m.length ≤ 60)
def isRowV : V → Bool
  | .str m => isRow m
  | _ => false
def spIsRow (K : PySem.W.Frag) : Sp := fun vs H Q _ => ∃ v, vs = [v] ∧ VOk K H v ∧ RetV (.bl (isRowV v)) H Q
def viewM (row : Str) (l : List Nat) (st : Nat) : Str := txt (l.map fun p => row.cps.toList.getD (st + p) 0)
def viewsM (row m : Str) : List Str := (List.range (row.length + 1 - m.length)).map (viewM row (openM m))
def missB (x y : Str) (i : Nat) : Bool := !decide (y.cps.toList.getD i 0 = 63) && !decide (y.cps.toList.getD i 0 = x.cps.toList.getD i 0)
def missM (x y : Str) : Nat := ((List.range x.length).filter (missB x y)).length
def spCheckRow : Sp := fun vs H Q _ => ∃ m, vs = [.str m] ∧ isRow m = true ∧ RetV .non H Q
def spViewAt (K : PySem.W.Frag) : Sp := fun vs H Q _ => ∃ (row : Str) (a : Addr) (l : List Nat) (st : Nat), vs = [.str row, .ref a, .int (st : Int)] ∧ SqL K H a (natsV l) ∧ (∀ p ∈ l, st + p < row.length) ∧ l.length ≤ 1000 ∧ row.length ≤ 1000 ∧ RetV (.str (viewM row l st)) H Q
def spOthers : Sp := fun vs H Q _ => ∃ x y : Str, vs = [.str x, .str y] ∧ y.length = x.length ∧ x.length ≤ 1000 ∧ RetV (.int (missM x y : Int)) H Q
def spViews : Sp := fun vs H Q _ => ∃ row m : Str, vs = [.str row, .str m] ∧ isRow row = true ∧ isMask m = true ∧ RetL ((viewsM row m).map V.str) H Q
theorem q_eq : PySem.Str.ofString "?" = ⟨#[63]⟩ := by decide +kernel
theorem row_len {m : Str} (h : isRow m = true) : m.length ≤ 60 := by
  unfold isRow at h
  simp only [Bool.and_eq_true, decide_eq_true_eq] at h
  exact h.2
theorem open_lt {m : Str} {p : Nat} (h : p ∈ openM m) : p < m.length := List.mem_range.mp (List.mem_filter.mp h).1
theorem rv_chrs {H : Hp} {c d : Nat} : RV rNe (.str ⟨#[c]⟩) (.str ⟨#[d]⟩) H (.bl (!decide (c = d))) := by
  have e : decide (V.str (⟨#[c]⟩ : Str) = V.str ⟨#[d]⟩) = decide (c = d) := by
    by_cases h : c = d
    · subst h; simp
    · simp [h]
  rw [← e]
  exact rv_ne rfl
section
variable {P : Program} {w : World} {K : PySem.W.Frag} {mg : Str → Option Value} {base : Heap} {CM CG fG a_SMALL_WIDTH a_SMALL_SEEN : Addr}
theorem ok_is_row (e : Ent K mg "is_row" s_is_row p_is_row) (T : Top K mg CM CG fG a_SMALL_WIDTH a_SMALL_SEEN) (c1 : Cal P w K mg base CX0 1 "made_of" p_made_of (spMade K)) : Cal P w K mg base CX0 2 "is_row" p_is_row (spIsRow K) := by
  obtain ⟨f, fd, F, m_, b_⟩ := e
  obtain ⟨f_made_of, fd_made_of, G_made_of, m_made_of, k_made_of, b_made_of⟩ := c1
  refine ⟨f, fd, F.ok sc_is_row (fun vs H Q E h => ?_) (fun cdv A outer s H vs Q E hr h => ?_), m_, F.kp, b_⟩
  · obtain ⟨v, rfl, _⟩ := h
    rfl
  · obtain ⟨v, rfl, hv, q⟩ := h
    refine ⟨_, (pss_one (ps_ret (pe_and (pe_call G_made_of (hr.mono (by decide)) (by rfl) m_made_of k_made_of b_made_of .nil pass0 (pa_cons (pv 0) (pa_cons (pe_glob (v := .str (PySem.Str.ofString "abcd")) (by rfl) T.g_LETTERS.choose_spec ⟨_, rfl⟩) pa_nil))) (pe_one (pe_cmpR op_le (pe_callB call_len_str (by rfl) T.m_len (by decide +kernel) (pa_cons (pv 0) pa_nil)) (pe_glob (v := .int 60) (by rfl) T.g_LONGEST.choose_spec ⟨_, rfl⟩) (nomark _)))))), ?_⟩
    refine s_ret (v := .bl (isRowV v)) (ev_is (ev_andV (a := madeOf v sl) (b := decide (lenOf v ≤ 60)) (ev_call (ea_cons (ev_var rfl) (ea_cons ev_c ea_nil)) (made_val hv)) fun h => ev_op (x := .int (lenOf v)) ?_ ev_c rv_I0) ?_) q
    · cases v with
      | str m =>
        obtain ⟨t, _, _, h3⟩ := hv
        exact ev_cb (ea_cons (ev_var rfl) ea_nil) fun H2 _ _ q => ⟨m, rfl, by have := h3 m rfl; rw [sizeLine_eq]; omega, q H2 (Ex.refl H2)⟩
      | _ => exact Bool.noConfusion (show false = true from h)
    · cases v with
      | str m =>
        show V.bl (madeOf (.str m) sl && decide ((m.length : Int) ≤ 60)) = V.bl (madeOf (.str m) sl && decide (m.length ≤ 60))
        rw [decide_eq_decide.mpr (show (m.length : Int) ≤ 60 ↔ m.length ≤ 60 by omega)]
      | _ => rfl
theorem ok_check_row (e : Ent K mg "check_row" s_check_row p_check_row) (T : Top K mg CM CG fG a_SMALL_WIDTH a_SMALL_SEEN) (c1 : Cal P w K mg base CX0 2 "is_row" p_is_row (spIsRow K)) : Cal P w K mg base CX0 3 "check_row" p_check_row spCheckRow := by
  obtain ⟨f, fd, F, m_, b_⟩ := e
  obtain ⟨f_is_row, fd_is_row, G_is_row, m_is_row, k_is_row, b_is_row⟩ := c1
  refine ⟨f, fd, F.ok sc_check_row (fun vs H Q E h => ?_) (fun cdv A outer s H vs Q E hr h => ?_), m_, F.kp, b_⟩
  · obtain ⟨m, rfl, _⟩ := h
    rfl
  · obtain ⟨m, rfl, hm, q⟩ := h
    have hl := row_len hm
    refine ⟨_, (pss_one (ps_if (pt_not (pt_val (pe_call G_is_row (hr.mono (by decide)) (by rfl) m_is_row k_is_row b_is_row .nil pass0 (pa_cons (pv 0) pa_nil)))) (pss_one ps_never) pss_nil)), ?_⟩
    refine s_when (b := !isRowV (.str m)) (et_not (et_B (ev_call (ea_cons (ev_var rfl) ea_nil) fun H1 e1 Q q E => ⟨.str m, rfl, .str (by omega), q⟩))) (fun h H1 e1 => ?_) (fun h H1 e1 => q H1 e1)
    rw [show isRowV (.str m) = true from hm] at h
    cases h
theorem sum_nat (a b : Nat) : (a : Int) + (b : Int) = ((a + b : Nat) : Int) := by omega
theorem at_sign {z : Str} {i : Nat} (h : i < z.length) : atI z.cps.toList (i : Int) = some (z.cps.toList.getD i 0) := atI_nat (by
  have hl := len_l z
  rw [List.getElem?_eq_getElem (by omega), List.getD_eq_getElem?_getD, List.getElem?_eq_getElem (by omega)]
  rfl)
theorem view_list (row : Str) (l : List Nat) (st : Nat) : (List.range l.length).map (fun i => V.str ⟨#[row.cps.toList.getD (st + l.getD i 0) 0]⟩) = (l.map fun p => row.cps.toList.getD (st + p) 0).map fun c => V.str ⟨#[c]⟩ := by
  rw [range_getD l fun c => V.str ⟨#[row.cps.toList.getD (st + c) 0]⟩, List.map_map]
  rfl
theorem mem_getD {l : List Nat} {i : Nat} (h : i < l.length) : l.getD i 0 ∈ l := by
  rw [List.getD_eq_getElem?_getD, List.getElem?_eq_getElem h]
  exact List.getElem_mem h
theorem ok_view_at (e : Ent K mg "view_at" s_view_at p_view_at) (T : Top K mg CM CG fG a_SMALL_WIDTH a_SMALL_SEEN) : Cal P w K mg base CX0 1 "view_at" p_view_at (spViewAt K) := by
  obtain ⟨f, fd, F, m_, b_⟩ := e
  refine ⟨f, fd, F.ok sc_view_at (fun vs H Q E h => ?_) (fun cdv A outer s H vs Q E hr h => ?_), m_, F.kp, b_⟩
  · obtain ⟨row, a, l, st, rfl, _⟩ := h
    rfl
  · obtain ⟨row, a, l, st, rfl, ha, hp, hl, hr', q⟩ := h
    refine ⟨_, (pss_one (ps_ret (pe_join pe_str (pe_lc (own := [("place", 3)]) (g := gName 3) (by rfl) sc_view_at.nd (pi_list (pv 1)) (blkOk_by (own := [("place", 3)]) (N := n_view_at) (sc := (defScope s_view_at)) (by decide +kernel)) (fun _ _ _ _ _ => pg_name (i := 3) sc_view_at.nd rfl (Or.inl rfl)) (fun _ _ _ _ _ => pts_nil) (fun _ _ _ _ _ => (pe_ix ix_str (pv 0) (pe_op op_add (pv 2) (pv 3)) (fun _ _ => rfl))))))), ?_⟩
    have z : EvL (tLc (iList K (tVar 1)) (gName 3) tYes (tOp rIxS (tVar 0) (tOp (rI0 fun i j => V.int (i + j)) (tVar 2) (tVar 3))) [3]) (start n_view_at [.str row, .ref a, .int (st : Int)]) H _ :=
      el_lcL (fun _ => true) (fun i => V.str ⟨#[row.cps.toList.getD (st + l.getD i 0) 0]⟩) (ev_var rfl) ha (by rw [natsV_len]; omega) (fun _ => rfl) (fun _ _ _ _ _ => et_yes) (fun i x H1 e1 hx _ => by
        obtain ⟨hi, rfl⟩ := natsV_get hx
        refine ev_op (ev_var rfl) (ev_op (ev_var rfl) (ev_var rfl) rv_I0) ?_
        rw [sum_nat]
        exact rv_ixS (by omega) (at_sign (hp _ (mem_getD hi))))
    rw [given_all, natsV_len, view_list] at z
    exact s_ret (ev_join nil_l z (by rw [List.length_map]; omega)) q
theorem ok_others (e : Ent K mg "others" s_others p_others) (T : Top K mg CM CG fG a_SMALL_WIDTH a_SMALL_SEEN) : Cal P w K mg base CX0 1 "others" p_others spOthers := by
  obtain ⟨f, fd, F, m_, b_⟩ := e
  refine ⟨f, fd, F.ok sc_others (fun vs H Q E h => ?_) (fun cdv A outer s H vs Q E hr h => ?_), m_, F.kp, b_⟩
  · obtain ⟨x, y, rfl, _⟩ := h
    rfl
  · obtain ⟨x, y, rfl, hl, hx, q⟩ := h
    refine ⟨_, (pss_one (ps_ret (pe_callB call_len (by rfl) T.m_len (by decide +kernel) (pa_cons (pe_lc (own := [("letter", 2), ("sign", 3)]) (g := gTup K 2 (gCons (gName 2) (gCons (gName 3) gNil))) (by rfl) sc_others.nd (pi_zipS (by rfl) T.m_zip (pa_cons (pv 0) (pa_cons (pv 1) pa_nil))) (blkOk_by (own := [("letter", 2), ("sign", 3)]) (N := n_others) (sc := (defScope s_others)) (by decide +kernel)) (fun _ _ _ _ _ => by exact (pg_tup rfl (pgs_cons (by exact pg_name (i := 2) sc_others.nd rfl (Or.inl rfl)) (pgs_cons (by exact pg_name (i := 3) sc_others.nd rfl (Or.inl rfl)) pgs_nil)))) (fun _ _ _ _ _ => pts_one (PW.pt (pw_and (pt_cmpR op_ne (pv 3) (pe_glob (v := .str (PySem.Str.ofString "?")) (by rfl) T.g_UNREAD.choose_spec ⟨_, rfl⟩) (nomark _)) (pw_and1 (pt_cmpR op_ne (pv 3) (pv 2) (nomark _)))))) (fun _ _ _ _ _ => (pv 3))) pa_nil)))), ?_⟩
    refine s_ret (v := .int (missM x y : Int)) (ev_is (ev_lenL (el_lcZS (x := x) (y := y) (missB x y) (fun i => sg y i) (ea_cons (ev_var rfl) (ea_cons (ev_var rfl) ea_nil)) (by omega) hl (fun _ _ => rfl)
      (fun i H1 _ hi => et_and (et_test (ev_op (ev_var rfl) ev_c ?_)) fun _ => et_test (ev_op (ev_var rfl) (ev_var rfl) rv_chrs)) (fun i H1 _ hi _ => ev_var rfl))) ?_) q
    · rw [q_eq]
      exact rv_chrs
    · congr 2
      unfold given missM
      rw [List.length_map]
end
end K13
namespace K13
open PySem PySem.Spec PyProof.Rows L2 Evl Qt
def spLine (K : PySem.W.Frag) : Sp := fun vs H Q _ => ∃ (r sc : Addr) (ns : List Int) (most lt : Int), vs = [.ref r, .int most, .int lt] ∧ 0 ≤ most ∧ most ≤ 60 ∧ 1 ≤ lt ∧ lt ≤ 4 ∧ Qt.Row K r sc ns H ∧
  ∀ (z : Str) (H' : Hp), isRow z = true → (z.length : Int) ≤ most → Xr K r H H' → Qt.Row K r sc ns H' → Q (.str z) H'
/-- the same: which letters were drawn is told, too -/
def spLineL (K : PySem.W.Frag) : Sp := fun vs H Q _ => ∃ (r sc : Addr) (ns : List Int) (most lt : Int), vs = [.ref r, .int most, .int lt] ∧ 0 ≤ most ∧ most ≤ 60 ∧ 1 ≤ lt ∧ lt ≤ 4 ∧ Qt.Row K r sc ns H ∧
  ∀ (z : Str) (H' : Hp), (∀ c ∈ z.cps.toList, 97 ≤ c ∧ (c : Int) < 97 + lt) → (z.length : Int) ≤ most → Xr K r H H' → Qt.Row K r sc ns H' → Q (.str z) H'
def spLViews : Sp := fun vs H Q _ => ∃ row m : Str, vs = [.str row, .str m] ∧ row.length ≤ 1000 ∧ m.length ≤ 1000 ∧ RetL ((viewsM row m).map V.str) H Q
theorem sl_l : sl.cps.toList = [97, 98, 99, 100] := by decide +kernel
theorem isRow_of {z : Str} (h : ∀ c ∈ z.cps.toList, c ∈ [97, 98, 99, 100]) (hl : z.length ≤ 60) : isRow z = true := by
  unfold isRow
  rw [decide_eq_true hl, Bool.and_true]
  show (z.cps.toList.all fun c => decide (c ∈ sl.cps.toList)) = true
  rw [sl_l, List.all_eq_true]
  intro c hc
  exact decide_eq_true (h c hc)
section
variable {P : Program} {w : World} {K : PySem.W.Frag} {mg : Str → Option Value} {base : Heap} {CM CG fG a_SMALL_WIDTH a_SMALL_SEEN : Addr}
end
end K13
namespace K13
open PySem PySem.Spec PyProof.Rows L2 Evl Qt
def spTells : Sp := fun vs H Q _ => ∃ row m : Str, vs = [.str row, .str m] ∧ isRow row = true ∧ isMask m = true ∧ RetV (.bl (decide (viewsM row m).Nodup)) H Q
def spLTells : Sp := fun vs H Q _ => ∃ row m : Str, vs = [.str row, .str m] ∧ row.length ≤ 1000 ∧ m.length ≤ 1000 ∧ RetV (.bl (decide (viewsM row m).Nodup)) H Q
section
variable {P : Program} {w : World} {K : PySem.W.Frag} {mg : Str → Option Value} {base : Heap} {CM CG fG a_SMALL_WIDTH a_SMALL_SEEN : Addr}
/-- len(set(xs)) == len(xs) -/
theorem ev_distinct {σ : L2.St} {H : Hp} {ta tb : TE} {l : Addr} {xs : List Str} (ha : Ev ta σ H (.ref l)) (hb : Ev tb σ H (.ref l)) (hx : SqL K H l (xs.map V.str)) (hz : xs.length ≤ 2000) :
    Ev (tOp rEq (tLenSetS K ta) (tCB (fun xs H Q => ∃ x n, xs = [x] ∧ LenV K x H n ∧ Q (.int (n : Int)) H) (tCons tb tNil))) σ H (.bl (decide xs.Nodup)) := fun H1 e Q q =>
  ha H1 e _ fun H2 e2 => ⟨l, xs, rfl, ex_l (e.trans e2) hx, hz, fun n _ hn => hb H2 (e.trans e2) _ fun H3 e3 => ⟨.ref l, xs.length, rfl, .inl ⟨_, ex_l ((e.trans e2).trans e3) hx, by rw [List.length_map]⟩, rfl, by
    have z : decide (V.int (n : Int) = V.int (xs.length : Int)) = decide xs.Nodup := by
      refine decide_eq_decide.mpr (Iff.trans ⟨fun h => ?_, fun h => ?_⟩ hn)
      · injection h with h
        omega
      · rw [h]
    rw [z]
    exact q H3 (e2.trans e3)⟩⟩
theorem viewsM_len (row m : Str) : (viewsM row m).length = row.length + 1 - m.length := by
  unfold viewsM
  rw [List.length_map, List.length_range]
def spUnlike (K : PySem.W.Frag) : Sp := fun vs H Q _ => ∃ (a : Addr) (xs : List Str), vs = [.ref a] ∧ SqL K H a (xs.map V.str) ∧ xs.length ≤ 2000 ∧ RetV (.bl (decide xs.Nodup)) H Q
theorem ok_all_unlike (e : Ent K mg "all_unlike" s_all_unlike p_all_unlike) (T : Top K mg CM CG fG a_SMALL_WIDTH a_SMALL_SEEN) : Cal P w K mg base CX0 1 "all_unlike" p_all_unlike (spUnlike K) := by
  obtain ⟨f, fd, F, m_, b_⟩ := e
  refine ⟨f, fd, F.ok sc_all_unlike (fun vs H Q E h => ?_) (fun cdv A outer s H vs Q E hr h => ?_), m_, F.kp, b_⟩
  · obtain ⟨a, xs, rfl, _⟩ := h
    rfl
  · obtain ⟨a, xs, rfl, ha, hl, q⟩ := h
    refine ⟨_, (pss_one (ps_ret (pe_cmpR op_eq (pe_lenSetS rfl (by rfl) T.m_len (by rfl) T.m_set (pv 0)) (pe_callB call_len (by rfl) T.m_len (by decide +kernel) (pa_cons (pv 0) pa_nil)) (nomark _)))), ?_⟩
    exact s_ret (ev_distinct (ev_var rfl) (ev_var rfl) ha hl) q
/-- all_unlike of a new list -/
theorem ev_unlikeN {E : XK} {σ : L2.St} {H : Hp} {te : TE} {xs : List Str} (h : EvL te σ H (xs.map V.str)) (hz : xs.length ≤ 2000) : Ev (tCall (spUnlike K) [] E (tCons te tNil)) σ H (.bl (decide xs.Nodup)) := fun H1 e Q q =>
  h H1 e _ fun p H2 np e2 hp => ⟨p, xs, rfl, sq_of hp, hz, fun H3 e3 => q H3 (e2.trans e3)⟩
end
end K13
namespace K13
open PySem PySem.Spec PyProof.Rows L2 Evl Qt
def ringV (row : Str) (l : List Nat) (st : Nat) : Str := txt (l.map fun p => row.cps.toList.getD ((st + p) % row.length) 0)
def ringM (row m : Str) : List Str := (List.range row.length).map (ringV row (openM m))
def spCheckRing : Sp := fun vs H Q _ => ∃ m, vs = [.str m] ∧ isRow m = true ∧ 1 ≤ m.length ∧ RetV .non H Q
def spRingView (K : PySem.W.Frag) : Sp := fun vs H Q _ => ∃ (row : Str) (a : Addr) (l : List Nat) (i : Nat), vs = [.str row, .ref a, .int (i : Int)] ∧ SqL K H a (natsV l) ∧ l.length ≤ 1000 ∧ 1 ≤ row.length ∧ row.length ≤ 1000 ∧ RetV (.str (ringV row l i)) H Q
def spRing : Sp := fun vs H Q _ => ∃ row m : Str, vs = [.str row, .str m] ∧ isRow row = true ∧ 1 ≤ row.length ∧ isMask m = true ∧ RetL ((ringM row m).map V.str) H Q
def spRingTells : Sp := fun vs H Q _ => ∃ row m : Str, vs = [.str row, .str m] ∧ isRow row = true ∧ 1 ≤ row.length ∧ isMask m = true ∧ RetV (.bl (decide (ringM row m).Nodup)) H Q
theorem ringM_len (row m : Str) : (ringM row m).length = row.length := by
  unfold ringM
  rw [List.length_map, List.length_range]
theorem mod_nat (i p n : Nat) : V.int (((i : Int) + (p : Int)) % (n : Int)) = V.int (((i + p) % n : Nat) : Int) := by
  congr 1
theorem ring_of_wide {row m : Str} (h1 : 1 ≤ row.length) (hm : isMask m = true) : (viewsM (repS row 13) m).take row.length = ringM row m := by
  have l2 := isMask_len hm
  unfold viewsM ringM
  rw [← List.map_take, List.take_range, repS_length, Nat.min_eq_left (by omega)]
  refine List.map_congr_left fun i hi => ?_
  have hi' := List.mem_range.mp hi
  unfold viewM ringV
  congr 1
  refine List.map_congr_left fun p hp => ?_
  have := open_lt hp
  exact repS_get _ _ _ (by omega)
theorem strOk_letters {z : Str} (h : ∀ c ∈ z.cps.toList, c ∈ [97, 98, 99, 100]) : PyData.strOk z = true := by
  unfold PyData.strOk
  rw [Array.all_eq_true_iff_forall_mem]
  intro c hc
  have := h c (Array.mem_toList_iff.mpr hc)
  simp only [List.mem_cons, List.not_mem_nil, or_false] at this
  simp only [decide_eq_true_eq]
  omega
theorem row_letters {z : Str} (h : isRow z = true) : ∀ c ∈ z.cps.toList, c ∈ [97, 98, 99, 100] := by
  unfold isRow at h
  rw [Bool.and_eq_true] at h
  have h1 : (z.cps.toList.all fun c => decide (c ∈ sl.cps.toList)) = true := h.1
  rw [sl_l, List.all_eq_true] at h1
  exact fun c hc => of_decide_eq_true (h1 c hc)
theorem shaped_ring {row m : Str} (hr : isRow row = true) (h1 : 1 ≤ row.length) : SeqAt.shaped (.list ((ringM row m).map PyData.str)) = true := shaped_list fun d hd => by
  obtain ⟨z, hz, rfl⟩ := List.mem_map.mp hd
  unfold ringM at hz
  obtain ⟨i, hi, rfl⟩ := List.mem_map.mp hz
  refine ⟨strOk_letters fun c hc => ?_, by show 0 ≤ 10; omega⟩
  unfold ringV at hc
  rw [txt_l] at hc
  obtain ⟨p, _, rfl⟩ := List.mem_map.mp hc
  refine row_letters hr _ (mem_getD ?_)
  rw [len_l]
  exact Nat.mod_lt _ (by omega)
theorem dp_strs {K : PySem.W.Frag} {H : Hp} : ∀ l : List Str, DpAll K H (l.map V.str) (l.map PyData.str)
  | [] => .nil
  | i :: r => .cons (.str i) (dp_strs r)
section
variable {P : Program} {w : World} {K : PySem.W.Frag} {mg : Str → Option Value} {base : Heap} {CM CG fG a_SMALL_WIDTH a_SMALL_SEEN : Addr}
theorem ok_check_ring (e : Ent K mg "check_ring" s_check_ring p_check_ring) (T : Top K mg CM CG fG a_SMALL_WIDTH a_SMALL_SEEN) (c1 : Cal P w K mg base CX0 3 "check_row" p_check_row spCheckRow) : Cal P w K mg base CX0 4 "check_ring" p_check_ring spCheckRing := by
  obtain ⟨f, fd, F, m_, b_⟩ := e
  obtain ⟨f_check_row, fd_check_row, G_check_row, m_check_row, k_check_row, b_check_row⟩ := c1
  refine ⟨f, fd, F.ok sc_check_ring (fun vs H Q E h => ?_) (fun cdv A outer s H vs Q E hr h => ?_), m_, F.kp, b_⟩
  · obtain ⟨m, rfl, _⟩ := h
    rfl
  · obtain ⟨m, rfl, hm, h0, q⟩ := h
    have h1 := row_len hm
    refine ⟨_, (pss_cons (ps_expr (pe_call G_check_row (hr.mono (by decide)) (by rfl) m_check_row k_check_row b_check_row .nil pass0 (pa_cons (pv 0) pa_nil)))
      (pss_one (ps_if (pt_not (pt_truth (pv 0) (by intro _; rfl))) (pss_one ps_never) pss_nil))), ?_⟩
    refine q_drop (v := .non) (ev_call (ea_cons (ev_var rfl) ea_nil) fun H1 e1 Q q E => ⟨m, rfl, hm, q⟩) fun H1 e1 => ?_
    refine s_when (b := !((m.length : Int) != 0)) (et_not (et_str (ev_var rfl) (by omega))) (fun h => ?_) (fun _ H2 e2 => q H2 (e1.trans e2))
    have z : ((m.length : Int) != 0) = true := by
      rw [bne_iff_ne]
      omega
    rw [z] at h
    cases h
theorem ok_ring_view (e : Ent K mg "ring_view" s_ring_view p_ring_view) (T : Top K mg CM CG fG a_SMALL_WIDTH a_SMALL_SEEN) : Cal P w K mg base CX0 1 "ring_view" p_ring_view (spRingView K) := by
  obtain ⟨f, fd, F, m_, b_⟩ := e
  refine ⟨f, fd, F.ok sc_ring_view (fun vs H Q E h => ?_) (fun cdv A outer s H vs Q E hr h => ?_), m_, F.kp, b_⟩
  · obtain ⟨row, a, l, i, rfl, _⟩ := h
    rfl
  · obtain ⟨row, a, l, i, rfl, ha, hl, h0, h1, q⟩ := h
    refine ⟨_, (pss_one (ps_ret (pe_join pe_str (pe_lc (own := [("place", 3)]) (g := gName 3) (by rfl) sc_ring_view.nd (pi_list (pv 1)) (blkOk_by (own := [("place", 3)]) (N := n_ring_view) (sc := (defScope s_ring_view)) (by decide +kernel)) (fun _ _ _ _ _ => pg_name (i := 3) sc_ring_view.nd rfl (Or.inl rfl)) (fun _ _ _ _ _ => pts_nil) (fun _ _ _ _ _ => (pe_ix ix_str (pv 0) (pe_op op_mod (pe_op op_add (pv 2) (pv 3)) (pe_callB call_len_str (by rfl) T.m_len (by decide +kernel) (pa_cons (pv 0) pa_nil))) (fun _ _ => rfl))))))), ?_⟩
    refine s_ret (v := .str (ringV row l i)) (ev_join (l := l.map fun p => row.cps.toList.getD ((i + p) % row.length) 0) nil_l (el_is (el_lcL (fun _ => true) (fun k => V.str ⟨#[row.cps.toList.getD ((i + l.getD k 0) % row.length) 0]⟩) (ev_var rfl) ha (by rw [natsV_len]; omega) (fun _ => rfl) (fun _ _ _ _ _ => et_yes) (fun k x H6 e6 hx _ => ?_)) ?_) (by rw [List.length_map]; omega)) q
    · obtain ⟨hk, rfl⟩ := natsV_get hx
      refine ev_op (y := .int (((i + l.getD k 0) % row.length : Nat) : Int)) (ev_var rfl) (ev_is (ev_op (ev_op (ev_var rfl) (ev_var rfl) rv_I0) (ev_cb (ea_cons (ev_var rfl) ea_nil) (rc_lenS (by omega))) (rv_I (show (0 : Int) < (row.length : Int) by omega))) (mod_nat _ _ _)) ?_
      exact rv_ixS (by omega) (at_sign (Nat.mod_lt _ (by omega)))
    · rw [given_all, natsV_len, range_getD l fun c => V.str ⟨#[row.cps.toList.getD ((i + c) % row.length) 0]⟩, List.map_map]
      rfl
theorem ok_ring_views (e : Ent K mg "ring_views" s_ring_views p_ring_views) (T : Top K mg CM CG fG a_SMALL_WIDTH a_SMALL_SEEN) (c1 : Cal P w K mg base CX0 4 "check_ring" p_check_ring spCheckRing) (c2 : Cal P w K mg base CX0 4 "seen" p_seen (spSeen0 K)) (c3 : Cal P w K mg base CX0 1 "ring_view" p_ring_view (spRingView K)) :
    Cal P w K mg base CX0 5 "ring_views" p_ring_views spRing := by
  obtain ⟨f, fd, F, m_, b_⟩ := e
  obtain ⟨f_check_ring, fd_check_ring, G_check_ring, m_check_ring, k_check_ring, b_check_ring⟩ := c1
  obtain ⟨f_seen, fd_seen, G_seen, m_seen, k_seen, b_seen⟩ := c2
  obtain ⟨f_ring_view, fd_ring_view, G_ring_view, m_ring_view, k_ring_view, b_ring_view⟩ := c3
  refine ⟨f, fd, F.ok sc_ring_views (fun vs H Q E h => ?_) (fun cdv A outer s H vs Q E hr h => ?_), m_, F.kp, b_⟩
  · obtain ⟨row, m, rfl, _⟩ := h
    rfl
  · obtain ⟨row, m, rfl, hr', h0, hm, q⟩ := h
    have h1 := row_len hr'
    have h2 := isMask_len hm
    have h3 := open_len m
    refine ⟨_, (pss_cons (ps_expr (pe_call G_check_ring (hr.mono (by decide)) (by rfl) m_check_ring k_check_ring b_check_ring .nil pass0 (pa_cons (pv 0) pa_nil)))
      (pss_cons (ps_set (i := 2) sc_ring_views.nd rfl (Or.inr rfl) (pe_call G_seen (hr.mono (by decide)) (by rfl) m_seen k_seen b_seen .nil pass0 (pa_cons (pv 1) pa_nil)))
      (pss_one (ps_ret (pe_lc (own := [("start", 3)]) (g := gName 3) (by rfl) sc_ring_views.nd (pi_range1 (by rfl) T.m_range (pa_cons (pe_callB call_len_str (by rfl) T.m_len (by decide +kernel) (pa_cons (pv 0) pa_nil)) pa_nil)) (blkOk_by (own := [("start", 3)]) (N := n_ring_views) (sc := (defScope s_ring_views)) (by decide +kernel)) (fun _ _ _ _ _ => pg_name (i := 3) sc_ring_views.nd rfl (Or.inl rfl)) (fun _ _ _ _ _ => pts_nil) (fun _ _ _ _ _ => (pe_call G_ring_view (hr.mono (by decide)) (by rfl) m_ring_view k_ring_view b_ring_view .nil pass0 (pa_cons (pv 0) (pa_cons (pv 2) (pa_cons (pv 3) pa_nil)))))))))), ?_⟩
    refine q_drop (v := .non) (ev_call (ea_cons (ev_var rfl) ea_nil) fun H1 e1 Q q E => ⟨row, rfl, hr', h0, q⟩) fun H1 e1 => ?_
    refine q_asgL (xs := natsV (openM m)) (el_call (ea_cons (ev_var rfl) ea_nil) fun H2 e2 Q q E => ⟨m, rfl, hm, q⟩) fun a H3 na e3 ha => ?_
    refine s_retL (xs := (ringM row m).map V.str) (el_is (el_lcR1 (n := (row.length : Int)) (fun _ => true) (fun i => V.str (ringV row (openM m) i)) (ea_cons (ev_cb (ea_cons (ev_var rfl) ea_nil) (rc_lenS (by omega))) ea_nil) (by omega) (fun _ => rfl) (fun _ _ _ _ => et_yes) (fun i H5 e5 hi _ => ?_)) ?_) fun p H5 np e5 h5 => q p H5 (fresh_back (e1.trans e3) np) ((e1.trans e3).trans e5) h5
    · exact ev_call (ea_cons (ev_var rfl) (ea_cons (ev_var rfl) (ea_cons (ev_var rfl) ea_nil))) fun H6 e6 Q q E => ⟨row, a, openM m, i, rfl, sq_of ((e5.trans e6) _ _ ha), by omega, by omega, by omega, q⟩
    · rw [given_all]
      unfold ringM
      rw [List.map_map]
      rfl
theorem ok_ring_tells (e : Ent K mg "ring_tells" s_ring_tells p_ring_tells) (T : Top K mg CM CG fG a_SMALL_WIDTH a_SMALL_SEEN) (c1 : Cal P w K mg base CX0 5 "ring_views" p_ring_views spRing) (c2 : Cal P w K mg base CX0 1 "all_unlike" p_all_unlike (spUnlike K)) : Cal P w K mg base CX0 6 "ring_tells" p_ring_tells spRingTells := by
  obtain ⟨f, fd, F, m_, b_⟩ := e
  obtain ⟨f_ring_views, fd_ring_views, G_ring_views, m_ring_views, k_ring_views, b_ring_views⟩ := c1
  obtain ⟨f_all_unlike, fd_all_unlike, G_all_unlike, m_all_unlike, k_all_unlike, b_all_unlike⟩ := c2
  refine ⟨f, fd, F.ok sc_ring_tells (fun vs H Q E h => ?_) (fun cdv A outer s H vs Q E hr h => ?_), m_, F.kp, b_⟩
  · obtain ⟨row, m, rfl, _⟩ := h
    rfl
  · obtain ⟨row, m, rfl, hr', h0, hm, q⟩ := h
    have l1 := row_len hr'
    refine ⟨_, (pss_one (ps_ret (pe_call G_all_unlike (hr.mono (by decide)) (by rfl) m_all_unlike k_all_unlike b_all_unlike .nil pass0 (pa_cons (pe_call G_ring_views (hr.mono (by decide)) (by rfl) m_ring_views k_ring_views b_ring_views .nil pass0 (pa_cons (pv 0) (pa_cons (pv 1) pa_nil))) pa_nil)))), ?_⟩
    exact s_ret (ev_unlikeN (xs := ringM row m) (el_call (ea_cons (ev_var rfl) (ea_cons (ev_var rfl) ea_nil)) fun H1 e1 Q q E => ⟨row, m, rfl, hr', h0, hm, q⟩) (by rw [ringM_len]; omega)) q
end
end K13
namespace K13
open PySem PySem.Spec PyProof.Rows L2 Evl Qt
/-! ### rows made longer, as lists -/
def vw (l r : List Nat) (i : Nat) : List Nat := l.map fun p => r.getD (i + p) 0
def vws (l : List Nat) (w : Nat) (r : List Nat) : List (List Nat) := (List.range (r.length + 1 - w)).map (vw l r)
/-- in how many places two views differ; views that differ in so many or more -/
def dif (a b : List Nat) : Nat := ((List.range a.length).filter fun i => !decide (b.getD i 0 = a.getD i 0)).length
abbrev ap (far : Nat) (vs : List (List Nat)) : Prop := vs.Pairwise fun a b => far ≤ dif a b
def stp (far : Nat) (sg l : List Nat) (w : Nat) (r : List Nat) : List (List Nat) := (sg.filter fun c => decide (ap far (vws l w (r ++ [c])))).map fun c => r ++ [c]
def gro (far : Nat) (sg l : List Nat) (w : Nat) (r0 : List Nat) : Nat → List (List Nat)
  | 0 => [r0]
  | n + 1 => (gro far sg l w r0 n).flatMap (stp far sg l w)
/-- such rows from the beginning, all views different -/
def lev (sg l : List Nat) (w : Nat) (n : Nat) : List (List Nat) := gro 1 sg l w [] n
theorem lev_succ (sg l : List Nat) (w n : Nat) : lev sg l w (n + 1) = (lev sg l w n).flatMap (stp 1 sg l w) := rfl
theorem dif_self (a : List Nat) : dif a a = 0 := by
  unfold dif
  rw [List.length_eq_zero_iff, List.filter_eq_nil_iff]
  intro i _
  simp
theorem dif_one {a b : List Nat} (h : b.length = a.length) (hne : a ≠ b) : 1 ≤ dif a b := by
  unfold dif
  refine Nat.one_le_iff_ne_zero.mpr fun z => hne ?_
  rw [List.length_eq_zero_iff, List.filter_eq_nil_iff] at z
  apply List.ext_getElem h.symm
  intro i h1 h2
  have q := z i (List.mem_range.mpr h1)
  simp only [Bool.not_eq_true', decide_eq_false_iff_not, Decidable.not_not, List.getD_eq_getElem?_getD, List.getElem?_eq_getElem h1, List.getElem?_eq_getElem h2] at q
  exact (by simpa using q : b[i] = a[i]).symm
theorem ap_nodup {far : Nat} {vs : List (List Nat)} (h1 : 1 ≤ far) (h : ap far vs) : vs.Nodup := h.imp fun {a b} q e => by
  rw [e, dif_self] at q
  omega
theorem vws_len1 {l : List Nat} {w : Nat} {r v : List Nat} (h : v ∈ vws l w r) : v.length = l.length := by
  unfold vws at h
  obtain ⟨i, _, rfl⟩ := List.mem_map.mp h
  exact List.length_map ..
theorem ap_one {l : List Nat} {w : Nat} {r : List Nat} : ap 1 (vws l w r) ↔ (vws l w r).Nodup :=
  ⟨ap_nodup (Nat.le_refl _), fun h => (List.Pairwise.and_mem.mp h).imp fun {a b} q => dif_one ((vws_len1 q.2.1).trans (vws_len1 q.1).symm) q.2.2⟩
theorem stp_one (sg l : List Nat) (w : Nat) (r : List Nat) : stp 1 sg l w r = (sg.filter fun c => decide (vws l w (r ++ [c])).Nodup).map fun c => r ++ [c] := by
  unfold stp
  congr 1
  refine List.filter_congr fun c _ => ?_
  exact decide_eq_decide.mpr ap_one
theorem txt_inj {a b : List Nat} (h : txt a = txt b) : a = b := by rw [← txt_l a, ← txt_l b, h]
theorem nodup_le {α : Type} [DecidableEq α] : ∀ (a D : List α), a.Nodup → (∀ x ∈ a, x ∈ D) → a.length ≤ D.length
  | [], _, _, _ => Nat.zero_le _
  | x :: r, D, h, hm => by
    rw [List.nodup_cons] at h
    have hx := hm x List.mem_cons_self
    have z := nodup_le r (D.erase x) h.2 fun y hy => (List.mem_erase_of_ne fun e : y = x => h.1 (by rw [← e]; exact hy)).mpr (hm y (List.mem_cons_of_mem _ hy))
    rw [List.length_erase_of_mem hx] at z
    have := List.length_pos_of_mem hx
    rw [List.length_cons]
    omega
theorem getD_app {r : List Nat} {c i : Nat} (h : i < r.length) : (r ++ [c]).getD i 0 = r.getD i 0 := by
  rw [List.getD_eq_getElem?_getD, List.getD_eq_getElem?_getD, List.getElem?_append_left h]
theorem vws_snoc {l r : List Nat} {w c : Nat} (hl : ∀ p ∈ l, p < w) : vws l w (r ++ [c]) = vws l w r ++ (if w ≤ r.length + 1 then [vw l (r ++ [c]) (r.length + 1 - w)] else []) := by
  have old : ∀ i, i < r.length + 1 - w → vw l (r ++ [c]) i = vw l r i := fun i hi => List.map_congr_left fun p hp => getD_app (by have := hl p hp; omega)
  have e : (r ++ [c]).length + 1 - w = r.length + 1 + 1 - w := by rw [List.length_append]; rfl
  unfold vws
  rw [e]
  by_cases h : w ≤ r.length + 1
  · rw [if_pos h, show r.length + 1 + 1 - w = (r.length + 1 - w) + 1 by omega, List.range_succ, List.map_append]
    refine congrArg (· ++ _) (List.map_congr_left fun i hi => old i (List.mem_range.mp hi))
  · rw [if_neg h, List.append_nil, show r.length + 1 + 1 - w = 0 by omega, show r.length + 1 - w = 0 by omega]
    rfl
theorem vws_nil {l : List Nat} {w : Nat} (h : 1 ≤ w) : vws l w [] = [] := by
  unfold vws
  rw [show ([] : List Nat).length + 1 - w = 0 by simp; omega]
  rfl
theorem ap_snoc {far : Nat} {l r : List Nat} {w c : Nat} (hl : ∀ p ∈ l, p < w) (h : ap far (vws l w (r ++ [c]))) : ap far (vws l w r) := by
  rw [vws_snoc hl] at h
  exact (List.pairwise_append.mp h).1
theorem stp_mem {far : Nat} {sg l r u : List Nat} {w : Nat} : u ∈ stp far sg l w r ↔ ∃ c, c ∈ sg ∧ ap far (vws l w (r ++ [c])) ∧ u = r ++ [c] := by
  unfold stp
  rw [List.mem_map]
  constructor
  · rintro ⟨c, hc, rfl⟩
    obtain ⟨c1, c2⟩ := List.mem_filter.mp hc
    exact ⟨c, c1, of_decide_eq_true c2, rfl⟩
  · rintro ⟨c, h1, h2, rfl⟩
    exact ⟨c, List.mem_filter.mpr ⟨h1, decide_eq_true h2⟩, rfl⟩
/-- what stands in a level: the rows so long that begin with r0, of these signs, their views apart -/
theorem gro_each {far : Nat} {sg l r0 : List Nat} {w n : Nat} {r : List Nat} (hs : ∀ c ∈ r0, c ∈ sg) (h0 : ap far (vws l w r0)) (h : r ∈ gro far sg l w r0 n) : r.length = r0.length + n ∧ (∀ c ∈ r, c ∈ sg) ∧ ap far (vws l w r) := by
  induction n generalizing r with
  | zero =>
    have : r = r0 := by simpa [gro] using h
    subst this
    exact ⟨rfl, hs, h0⟩
  | succ n ih =>
    unfold gro at h
    obtain ⟨u, hu, hr⟩ := List.mem_flatMap.mp h
    obtain ⟨c, c1, c2, rfl⟩ := stp_mem.mp hr
    obtain ⟨h1, h2, h3⟩ := ih hu
    refine ⟨by rw [List.length_append, h1]; rfl, fun d hd => ?_, c2⟩
    rcases List.mem_append.mp hd with z | z
    · exact h2 d z
    · rw [List.mem_singleton.mp z]; exact c1
theorem gro_all {far : Nat} {sg l r0 : List Nat} {w : Nat} (hl : ∀ p ∈ l, p < w) : ∀ (n : Nat) (t : List Nat), t.length = n → (∀ c ∈ t, c ∈ sg) → ap far (vws l w (r0 ++ t)) → r0 ++ t ∈ gro far sg l w r0 n
  | 0, t, h, _, _ => by
    have : t = [] := List.length_eq_zero_iff.mp h
    subst this
    simp [gro]
  | n + 1, t, h, hc, ha => by
    have hne : t ≠ [] := fun e => by rw [e] at h; cases h
    have e := List.dropLast_concat_getLast hne
    have e2 : r0 ++ t = (r0 ++ t.dropLast) ++ [t.getLast hne] := by rw [List.append_assoc, e]
    have ha2 := ha
    rw [e2] at ha2
    unfold gro
    refine List.mem_flatMap.mpr ⟨r0 ++ t.dropLast, gro_all hl n _ (by rw [List.length_dropLast, h]; rfl) (fun c hcd => hc c (List.dropLast_subset _ hcd)) (ap_snoc hl ha2), ?_⟩
    exact stp_mem.mpr ⟨t.getLast hne, hc _ (List.getLast_mem hne), ha2, e2⟩
theorem stp_len (far : Nat) (sg l : List Nat) (w : Nat) (r : List Nat) : (stp far sg l w r).length ≤ sg.length := by
  unfold stp
  rw [List.length_map]
  exact List.length_filter_le _ _
theorem flat_le {α β : Type} (f : α → List β) (k : Nat) (h : ∀ x, (f x).length ≤ k) : ∀ xs : List α, (xs.flatMap f).length ≤ xs.length * k
  | [] => by simp
  | x :: r => by
    rw [List.flatMap_cons, List.length_append, List.length_cons, Nat.succ_mul]
    have := flat_le f k h r
    have := h x
    omega
theorem gro_len (far : Nat) (sg l : List Nat) (w : Nat) (r0 : List Nat) (n : Nat) : (gro far sg l w r0 n).length ≤ sg.length ^ n := by
  induction n with
  | zero => exact Nat.le_refl _
  | succ n ih =>
    unfold gro
    rw [Nat.pow_succ]
    exact Nat.le_trans (flat_le _ _ (stp_len far sg l w) _) (Nat.mul_le_mul_right _ ih)
theorem lev_each {sg l : List Nat} {w n : Nat} {r : List Nat} (hw : 1 ≤ w) (h : r ∈ lev sg l w n) : r.length = n ∧ (∀ c ∈ r, c ∈ sg) ∧ (vws l w r).Nodup := by
  obtain ⟨h1, h2, h3⟩ := gro_each (far := 1) (fun c hc => (by cases hc)) (by rw [vws_nil hw]; exact .nil) h
  exact ⟨by rw [h1]; simp, h2, ap_nodup (Nat.le_refl _) h3⟩
theorem lev_mem {sg l : List Nat} {w n : Nat} {r : List Nat} (hw : 1 ≤ w) (hl : ∀ p ∈ l, p < w) : r ∈ lev sg l w n ↔ r.length = n ∧ (∀ c ∈ r, c ∈ sg) ∧ (vws l w r).Nodup :=
  ⟨lev_each hw, fun ⟨h1, h2, h3⟩ => by
    have z := gro_all (far := 1) (sg := sg) (r0 := []) hl n r h1 h2 (by rw [List.nil_append]; exact ap_one.mpr h3)
    rw [List.nil_append] at z
    exact z⟩
/-! ### words -/
def wordsL (sg : List Nat) : Nat → List (List Nat)
  | 0 => [[]]
  | n + 1 => (wordsL sg n).flatMap fun w => sg.map fun c => w ++ [c]
def tS (l : List (List Nat)) : List V := l.map fun w => V.str (txt w)
theorem tS_len (l : List (List Nat)) : (tS l).length = l.length := List.length_map ..
theorem tS_get {l : List (List Nat)} {i : Nat} {x : V} (h : (tS l)[i]? = some x) : i < l.length ∧ x = .str (txt (l.getD i [])) := by
  unfold tS at h
  rw [List.getElem?_map] at h
  cases e : l[i]? with
  | none => rw [e] at h; cases h
  | some c =>
    rw [e] at h
    refine ⟨(List.getElem?_eq_some_iff.mp e).1, ?_⟩
    rw [List.getD_eq_getElem?_getD, e]
    exact (Option.some.inj h).symm
theorem words_len (sg : List Nat) (n : Nat) : (wordsL sg n).length = sg.length ^ n := by
  induction n with
  | zero => rfl
  | succ n ih =>
    unfold wordsL
    rw [List.length_flatMap]
    simp only [List.length_map]
    rw [List.map_const', List.sum_replicate_nat, ih, Nat.pow_succ]
theorem words_each {sg : List Nat} {n : Nat} {w : List Nat} (h : w ∈ wordsL sg n) : w.length = n ∧ ∀ c ∈ w, c ∈ sg := by
  induction n generalizing w with
  | zero =>
    have : w = [] := by simpa [wordsL] using h
    subst this
    exact ⟨rfl, fun c hc => by cases hc⟩
  | succ n ih =>
    unfold wordsL at h
    obtain ⟨u, hu, hw⟩ := List.mem_flatMap.mp h
    obtain ⟨c, hc, rfl⟩ := List.mem_map.mp hw
    obtain ⟨h1, h2⟩ := ih hu
    refine ⟨by rw [List.length_append, h1]; rfl, fun d hd => ?_⟩
    rcases List.mem_append.mp hd with z | z
    · exact h2 d z
    · rw [List.mem_singleton.mp z]; exact hc
theorem words_mem {sg : List Nat} : ∀ (n : Nat) (u : List Nat), u.length = n → (∀ c ∈ u, c ∈ sg) → u ∈ wordsL sg n
  | 0, u, h, _ => by
    have : u = [] := List.length_eq_zero_iff.mp h
    subst this
    simp [wordsL]
  | n + 1, u, h, hc => by
    have hne : u ≠ [] := fun e => by rw [e] at h; cases h
    have e := List.dropLast_concat_getLast hne
    unfold wordsL
    refine List.mem_flatMap.mpr ⟨u.dropLast, words_mem n _ (by rw [List.length_dropLast, h]; rfl) (fun c hcd => hc c (List.dropLast_subset _ hcd)), List.mem_map.mpr ⟨u.getLast hne, hc _ (List.getLast_mem hne), e⟩⟩
theorem vw_in {sg l r : List Nat} {w i : Nat} (hl : ∀ p ∈ l, p < w) (hr : ∀ c ∈ r, c ∈ sg) (hi : i + w ≤ r.length) : vw l r i ∈ wordsL sg l.length := by
  refine words_mem _ _ (by unfold vw; rw [List.length_map]) fun c hc => ?_
  unfold vw at hc
  obtain ⟨p, hp, rfl⟩ := List.mem_map.mp hc
  have := hl p hp
  rw [List.getD_eq_getElem?_getD, List.getElem?_eq_getElem (by omega)]
  exact hr _ (List.getElem_mem _)
theorem words_nodup {sg : List Nat} (h : sg.Nodup) : ∀ n, (wordsL sg n).Nodup
  | 0 => by simp [wordsL]
  | n + 1 => by
    unfold wordsL List.Nodup
    rw [List.pairwise_flatMap]
    refine ⟨fun u _ => ?_, (words_nodup h n).imp fun {a b} hne x hx y hy e => ?_⟩
    · rw [List.pairwise_map]
      exact h.imp fun hne e => hne (by simpa using e)
    · obtain ⟨c, _, rfl⟩ := List.mem_map.mp hx
      obtain ⟨d, _, rfl⟩ := List.mem_map.mp hy
      exact hne (List.append_inj_left' e rfl)
theorem gro_top {far : Nat} {sg l r0 : List Nat} {w n : Nat} {r : List Nat} (h1 : 1 ≤ far) (hl : ∀ p ∈ l, p < w) (hw : 1 ≤ w) (hs : ∀ c ∈ r0, c ∈ sg) (h0 : ap far (vws l w r0)) (h : r ∈ gro far sg l w r0 n) : r0.length + n + 1 - w ≤ sg.length ^ l.length := by
  obtain ⟨g1, g2, g3⟩ := gro_each hs h0 h
  have z := nodup_le (vws l w r) (wordsL sg l.length) (ap_nodup h1 g3) fun v hv => by
    unfold vws at hv
    obtain ⟨i, hi, rfl⟩ := List.mem_map.mp hv
    have := List.mem_range.mp hi
    exact vw_in hl g2 (by omega)
  rw [words_len] at z
  unfold vws at z
  rw [List.length_map, List.length_range, g1] at z
  exact z
theorem gro_end {far : Nat} {sg l r0 : List Nat} {w n : Nat} (h1 : 1 ≤ far) (hl : ∀ p ∈ l, p < w) (hw : 1 ≤ w) (hs : ∀ c ∈ r0, c ∈ sg) (h0 : ap far (vws l w r0)) (h : sg.length ^ l.length + w ≤ r0.length + n) : gro far sg l w r0 n = [] := by
  cases e : gro far sg l w r0 n with
  | nil => rfl
  | cons r t =>
    have := gro_top (r := r) (n := n) (sg := sg) h1 hl hw hs h0 (by rw [e]; exact List.mem_cons_self)
    omega
theorem gro_dead {far : Nat} {sg l r0 : List Nat} {w n k : Nat} (h : gro far sg l w r0 n = []) (hk : n ≤ k) : gro far sg l w r0 k = [] := by
  induction hk with
  | refl => exact h
  | step _ ih =>
    show (gro far sg l w r0 _).flatMap _ = []
    rw [ih]
    rfl
def IsTopF (far : Nat) (sg l : List Nat) (w : Nat) (r0 : List Nat) (n : Nat) : Prop := gro far sg l w r0 n ≠ [] ∧ gro far sg l w r0 (n + 1) = []
theorem topF_one {far : Nat} {sg l r0 : List Nat} {w n k : Nat} (a : IsTopF far sg l w r0 n) (b : IsTopF far sg l w r0 k) : n = k := by
  rcases Nat.lt_trichotomy n k with h | h | h
  · exact absurd (gro_dead a.2 h) b.1
  · exact h
  · exact absurd (gro_dead b.2 h) a.1
theorem topF_lt {far : Nat} {sg l r0 : List Nat} {w n : Nat} (h1 : 1 ≤ far) (hl : ∀ p ∈ l, p < w) (hw : 1 ≤ w) (hs : ∀ c ∈ r0, c ∈ sg) (h0 : ap far (vws l w r0)) (a : gro far sg l w r0 n ≠ []) : r0.length + n < sg.length ^ l.length + w := by
  rcases Nat.lt_or_ge (r0.length + n) (sg.length ^ l.length + w) with h | h
  · exact h
  · exact absurd (gro_end h1 hl hw hs h0 h) a
theorem gro_small {far : Nat} {sg l r0 : List Nat} {w : Nat} (h1 : 1 ≤ far) (hl : ∀ p ∈ l, p < w) (hw : 1 ≤ w) (hs : ∀ c ∈ r0, c ∈ sg) (h0 : ap far (vws l w r0)) (n : Nat) (hs1 : 1 ≤ sg.length) (hB : sg.length ^ (sg.length ^ l.length + w - 1) ≤ 8388608) : (gro far sg l w r0 n).length ≤ 8388608 := by
  rcases Nat.lt_or_ge (r0.length + n) (sg.length ^ l.length + w) with h | h
  · exact Nat.le_trans (gro_len far sg l w r0 n) (Nat.le_trans (Nat.pow_le_pow_right hs1 (by omega)) hB)
  · rw [gro_end h1 hl hw hs h0 h]
    exact Nat.zero_le _
def IsTop (sg l : List Nat) (w n : Nat) : Prop := lev sg l w n ≠ [] ∧ lev sg l w (n + 1) = []
theorem top_one {sg l : List Nat} {w n k : Nat} (a : IsTop sg l w n) (b : IsTop sg l w k) : n = k := topF_one a b
theorem ap_nil {far : Nat} {l : List Nat} {w : Nat} (hw : 1 ≤ w) : ap far (vws l w []) := by
  rw [vws_nil hw]
  exact .nil
theorem no_mem {sg : List Nat} : ∀ c ∈ ([] : List Nat), c ∈ sg := fun c hc => by cases hc
theorem top_lt {sg l : List Nat} {w n : Nat} (hw : 1 ≤ w) (hl : ∀ p ∈ l, p < w) (a : lev sg l w n ≠ []) : n < sg.length ^ l.length + w := by
  have z := topF_lt (Nat.le_refl 1) hl hw no_mem (ap_nil hw) a
  simpa using z
theorem lev_dead {sg l : List Nat} {w n k : Nat} (h : lev sg l w n = []) (hk : n ≤ k) : lev sg l w k = [] := gro_dead h hk
theorem lev_end {sg l : List Nat} {w n : Nat} (hw : 1 ≤ w) (hl : ∀ p ∈ l, p < w) (h : sg.length ^ l.length + w ≤ n) : lev sg l w n = [] := gro_end (Nat.le_refl 1) hl hw no_mem (ap_nil hw) (by simpa using h)
theorem lev_small {sg l : List Nat} {w : Nat} (hw : 1 ≤ w) (hl : ∀ p ∈ l, p < w) (n : Nat) (h1 : 1 ≤ sg.length) (hB : sg.length ^ (sg.length ^ l.length + w - 1) ≤ 8388608) : (lev sg l w n).length ≤ 8388608 :=
  gro_small (Nat.le_refl 1) hl hw no_mem (ap_nil hw) n h1 hB
/-! ### the bits of views -/
def barK (p : Nat → Bool) : Nat → Nat
  | 0 => 0
  | k + 1 => barK p k + (if p k = true then 2 ^ k else 0)
theorem barK_lt (p : Nat → Bool) : ∀ k, barK p k < 2 ^ k
  | 0 => by simp [barK]
  | k + 1 => by
    have := barK_lt p k
    unfold barK
    rw [Nat.pow_succ]
    split <;> omega
theorem barK_bit (p : Nat → Bool) (j : Nat) : ∀ k, (barK p k).testBit j = (decide (j < k) && p j)
  | 0 => by simp [barK]
  | k + 1 => by
    have hl := barK_lt p k
    have ih := barK_bit p j k
    unfold barK
    by_cases hp : p k = true
    · rw [if_pos hp]
      have e : barK p k + 2 ^ k = 2 ^ k ||| barK p k := by
        have z := Nat.two_pow_add_eq_or_of_lt hl 1
        rw [Nat.mul_one] at z
        rw [← z, Nat.add_comm]
      rw [e, Nat.testBit_or, Nat.testBit_two_pow, ih]
      by_cases hj : k = j
      · subst hj
        simp [hp]
      · rw [decide_eq_false hj, Bool.false_or]
        congr 1
        exact decide_eq_decide.mpr (by omega)
    · rw [if_neg hp, Nat.add_zero, ih]
      by_cases hj : j = k
      · subst hj
        simp [hp]
      · congr 1
        exact decide_eq_decide.mpr (by omega)
/-- the views that one bars, as bits: VS are all views in their order -/
def barN (far : Nat) (VS : List (List Nat)) (v : List Nat) : Nat := barK (fun i => decide (dif v (VS.getD i []) < far)) VS.length
theorem bar_bit {far : Nat} {VS : List (List Nat)} {v u : List Nat} (hu : u ∈ VS) : (barN far VS v).testBit (VS.idxOf u) = decide (dif v u < far) := by
  unfold barN
  have h := List.idxOf_lt_length_iff.mpr hu
  rw [barK_bit, decide_eq_true h, Bool.true_and, List.getD_eq_getElem?_getD, List.getElem?_eq_getElem h]
  show decide (dif v VS[VS.idxOf u] < far) = _
  rw [List.getElem_idxOf h]
/-- what the views of a row bar -/
def brs (far : Nat) (VS vs : List (List Nat)) : Nat := vs.foldl (fun a v => a ||| barN far VS v) 0
theorem brs_snoc (far : Nat) (VS vs : List (List Nat)) (v : List Nat) : brs far VS (vs ++ [v]) = brs far VS vs ||| barN far VS v := by
  unfold brs
  rw [List.foldl_append]
  rfl
theorem brs_go (far : Nat) (VS : List (List Nat)) (j : Nat) : ∀ (vs : List (List Nat)) (a : Nat), (vs.foldl (fun a v => a ||| barN far VS v) a).testBit j = true ↔ a.testBit j = true ∨ ∃ v ∈ vs, (barN far VS v).testBit j = true
  | [], a => by simp
  | v :: vs, a => by
    rw [List.foldl_cons, brs_go far VS j vs, Nat.testBit_or, Bool.or_eq_true]
    constructor
    · rintro ((h | h) | ⟨u, hu, h⟩)
      · exact .inl h
      · exact .inr ⟨v, List.mem_cons_self, h⟩
      · exact .inr ⟨u, List.mem_cons_of_mem _ hu, h⟩
    · rintro (h | ⟨u, hu, h⟩)
      · exact .inl (.inl h)
      · rcases List.mem_cons.mp hu with e | e
        · exact .inl (.inr (e ▸ h))
        · exact .inr ⟨u, e, h⟩
theorem idx_app {α : Type} [BEq α] [LawfulBEq α] {a : List α} {x y : α} (h : x ∈ a) : (a ++ [y]).idxOf x = a.idxOf x := by rw [List.idxOf_append, if_pos h]
theorem idx_new {α : Type} [BEq α] [LawfulBEq α] {a : List α} {x : α} (h : x ∉ a) : (a ++ [x]).idxOf x = a.length := by rw [List.idxOf_append, if_neg h]; simp
theorem idx_inj {α : Type} [BEq α] [LawfulBEq α] {a : List α} {x y : α} (hx : x ∈ a) (hy : y ∈ a) (h : a.idxOf x = a.idxOf y) : x = y := by
  have h1 := List.getElem_idxOf (List.idxOf_lt_length_iff.mpr hx)
  have h2 := List.getElem_idxOf (List.idxOf_lt_length_iff.mpr hy)
  rw [← h1, ← h2]
  congr 1
theorem and_pow (x i : Nat) : x &&& 2 ^ i = 0 ↔ x.testBit i = false := by
  constructor
  · intro h
    have z := congrArg (Nat.testBit · i) h
    simp only [Nat.testBit_and, Nat.testBit_two_pow, Nat.zero_testBit, decide_true, Bool.and_true] at z
    exact z
  · intro h
    apply Nat.eq_of_testBit_eq
    intro j
    rw [Nat.testBit_and, Nat.testBit_two_pow, Nat.zero_testBit]
    by_cases e : i = j
    · rw [← e, h]; rfl
    · rw [decide_eq_false e, Bool.and_false]
/-- the bit of the view that a last letter makes, and what it bars -/
def bt (VS : List (List Nat)) (l : List Nat) (w : Nat) (r : List Nat) : Nat := if w ≤ r.length then 2 ^ VS.idxOf (vw l r (r.length - w)) else 0
def nr (far : Nat) (VS : List (List Nat)) (l : List Nat) (w : Nat) (r : List Nat) : Nat := if w ≤ r.length then barN far VS (vw l r (r.length - w)) else 0
theorem brs_step {far : Nat} {VS : List (List Nat)} {l r : List Nat} {w c : Nat} (hl : ∀ p ∈ l, p < w) : brs far VS (vws l w (r ++ [c])) = brs far VS (vws l w r) ||| nr far VS l w (r ++ [c]) := by
  have e : (r ++ [c]).length = r.length + 1 := by simp
  rw [vws_snoc hl]
  unfold nr
  rw [e]
  by_cases h : w ≤ r.length + 1
  · rw [if_pos h, if_pos h, brs_snoc]
  · rw [if_neg h, if_neg h, List.append_nil, Nat.or_zero]
theorem fits {far : Nat} {sg l r : List Nat} {w c : Nat} (hl : ∀ p ∈ l, p < w) (hd : ap far (vws l w r)) (hr : ∀ d ∈ r ++ [c], d ∈ sg) :
    brs far (wordsL sg l.length) (vws l w r) &&& bt (wordsL sg l.length) l w (r ++ [c]) = 0 ↔ ap far (vws l w (r ++ [c])) := by
  have e : (r ++ [c]).length = r.length + 1 := by simp
  rw [vws_snoc hl]
  unfold bt
  rw [e]
  by_cases h : w ≤ r.length + 1
  · rw [if_pos h, if_pos h, and_pow]
    have hin : vw l (r ++ [c]) (r.length + 1 - w) ∈ wordsL sg l.length := vw_in hl hr (by rw [e]; omega)
    obtain ⟨v', hv'⟩ : ∃ v', vw l (r ++ [c]) (r.length + 1 - w) = v' := ⟨_, rfl⟩
    rw [hv'] at hin ⊢
    unfold ap
    rw [List.pairwise_append]
    have key : (brs far (wordsL sg l.length) (vws l w r)).testBit ((wordsL sg l.length).idxOf v') = true ↔ ∃ v ∈ vws l w r, dif v v' < far := by
      unfold brs
      rw [brs_go]
      simp only [Nat.zero_testBit, Bool.false_eq_true, false_or]
      refine exists_congr fun v => and_congr_right fun _ => ?_
      rw [bar_bit hin, decide_eq_true_iff]
    constructor
    · intro z
      refine ⟨hd, by simp, fun a ha b hb => ?_⟩
      rw [List.mem_singleton.mp hb]
      refine Nat.le_of_not_lt fun q => ?_
      have := key.mpr ⟨a, ha, q⟩
      rw [z] at this
      cases this
    · rintro ⟨_, _, z⟩
      cases q : (brs far (wordsL sg l.length) (vws l w r)).testBit ((wordsL sg l.length).idxOf v') with
      | false => rfl
      | true =>
        obtain ⟨v, hv, hlt⟩ := key.mp q
        have := z v hv v' (List.mem_singleton.mpr rfl)
        omega
  · rw [if_neg h, if_neg h, List.append_nil, Nat.and_zero]
    exact ⟨fun _ => hd, fun _ => rfl⟩
theorem and_nat (a b : Nat) : Builtin.bitAnd (a : Int) (b : Int) = ((a &&& b : Nat) : Int) := by
  unfold Builtin.bitAnd
  rw [decide_eq_true (Int.natCast_nonneg a), decide_eq_true (Int.natCast_nonneg b)]
  rfl
theorem or_nat (a b : Nat) : Builtin.bitOr (a : Int) (b : Int) = ((a ||| b : Nat) : Int) := by
  unfold Builtin.bitOr Builtin.bitAnd Builtin.bitNot
  rw [decide_eq_false (show ¬ (0 : Int) ≤ -(a : Int) - 1 by omega), decide_eq_false (show ¬ (0 : Int) ≤ -(b : Int) - 1 by omega)]
  show -(-((((-(-(a : Int) - 1) - 1).toNat ||| (-(-(b : Int) - 1) - 1).toNat : Nat)) : Int) - 1) - 1 = _
  rw [show (-(-(a : Int) - 1) - 1).toNat = a by omega, show (-(-(b : Int) - 1) - 1).toNat = b by omega]
  omega
/-- the heap's pairs of rows and what they bar -/
inductive Prs (B : List Nat → Nat) (H : Hp) : List V → List (List Nat) → Prop
  | nil : Prs B H [] []
  | snoc {xs : List V} {rs : List (List Nat)} {t : Addr} {r : List Nat} : Prs B H xs rs → H t = some (.tup [.str (txt r), .int ((B r : Nat) : Int)]) → Prs B H (xs ++ [.ref t]) (rs ++ [r])
theorem Prs.ex {B : List Nat → Nat} {H H1 : Hp} {xs : List V} {rs : List (List Nat)} (h : Prs B H xs rs) (e : Ex H H1) : Prs B H1 xs rs := by
  induction h with
  | nil => exact .nil
  | snoc _ ht ih => exact .snoc ih (e _ _ ht)
theorem Prs.len {B : List Nat → Nat} {H : Hp} {xs : List V} {rs : List (List Nat)} (h : Prs B H xs rs) : xs.length = rs.length := by
  induction h with
  | nil => rfl
  | snoc _ _ ih => rw [List.length_append, List.length_append, ih]; rfl
theorem Prs.get {B : List Nat → Nat} {H : Hp} {xs : List V} {rs : List (List Nat)} (h : Prs B H xs rs) {i : Nat} {x : V} (hx : xs[i]? = some x) :
    ∃ t, rs[i]? = some (rs.getD i []) ∧ x = .ref t ∧ H t = some (.tup [.str (txt (rs.getD i [])), .int ((B (rs.getD i []) : Nat) : Int)]) := by
  induction h with
  | nil => cases hx
  | @snoc xs rs t r h ht ih =>
    have e := h.len
    rcases Nat.lt_or_ge i xs.length with hi | hi
    · rw [List.getElem?_append_left hi] at hx
      obtain ⟨t', h1, h2, h3⟩ := ih hx
      have g : (rs ++ [r]).getD i [] = rs.getD i [] := by
        rw [List.getD_eq_getElem?_getD, List.getD_eq_getElem?_getD, List.getElem?_append_left (by omega)]
      rw [g, List.getElem?_append_left (by omega)]
      exact ⟨t', h1, h2, h3⟩
    · have hi2 := (List.getElem?_eq_some_iff.mp hx).1
      rw [List.length_append, List.length_singleton] at hi2
      obtain rfl : i = xs.length := by omega
      rw [List.getElem?_append_right (Nat.le_refl _), Nat.sub_self] at hx
      have g : (rs ++ [r]).getD xs.length [] = r := by
        rw [List.getD_eq_getElem?_getD, List.getElem?_append_right (by omega), e, Nat.sub_self]
        rfl
      rw [g, List.getElem?_append_right (by omega), e, Nat.sub_self]
      exact ⟨t, rfl, (Option.some.inj hx).symm, ht⟩
end K13
namespace K13
open PySem PySem.Spec PyProof.Rows L2 Evl Qt
def spWords : Sp := fun vs H Q _ => ∃ (z : Str) (n : Nat), vs = [.str z, .int (n : Int)] ∧ 1 ≤ z.length ∧ z.length ≤ 4 ∧ n ≤ 12 ∧ z.length ^ n ≤ 1100 ∧ RetL (tS (wordsL z.cps.toList n)) H Q
theorem txt_snoc (a : List Nat) (c : Nat) : txt a ++ (⟨#[c]⟩ : Str) = txt (a ++ [c]) := by
  apply str_ext
  rw [str_app, txt_l, txt_l]
theorem words_step (sg : List Nat) (n : Nat) : given2 (fun _ => sg.length) (fun i m => V.str (txt ((wordsL sg n).getD i []) ++ (⟨#[sg.getD m 0]⟩ : Str))) (wordsL sg n).length = tS (wordsL sg (n + 1)) := by
  unfold given2 tS
  conv => rhs; unfold wordsL
  rw [List.map_flatMap]
  rw [← range_flat_getD (wordsL sg n) []]
  refine congrArg (fun f => List.flatMap f (List.range (wordsL sg n).length)) (funext fun i => ?_)
  rw [List.map_map, ← range_map_getD sg 0]
  refine List.map_congr_left fun m _ => ?_
  show V.str _ = V.str _
  rw [txt_snoc]
theorem nil_txt : PySem.Str.ofString "" = txt [] := by decide +kernel
def ksT (u : List Nat) : Key := Sum.inr (txt u)
theorem ks_inj {u v : List Nat} (h : ksT u = ksT v) : u = v := by
  unfold ksT at h
  injection h with h
  exact txt_inj h
/-- the dict of windows: with each the bit of its view and what it bars -/
def BitsTo (far : Nat) (sg l : List Nat) (w : Nat) (kvs : List (Key × V)) (H : Hp) : Prop :=
  ∀ u : List Nat, (u ∈ wordsL sg w → ∃ t, valV kvs (ksT u) = some (.ref t) ∧ H t = some (.tup [.int ((2 ^ (wordsL sg l.length).idxOf (vw l u 0) : Nat) : Int), .int ((barN far (wordsL sg l.length) (vw l u 0) : Nat) : Int)])) ∧ (u ∉ wordsL sg w → valV kvs (ksT u) = none)
theorem BitsTo.ex {far : Nat} {sg l : List Nat} {w : Nat} {kvs : List (Key × V)} {H H1 : Hp} (h : BitsTo far sg l w kvs H) (e : Ex H H1) : BitsTo far sg l w kvs H1 := fun u =>
  ⟨fun hu => by
    obtain ⟨t, a, b⟩ := (h u).1 hu
    exact ⟨t, a, e _ _ b⟩, (h u).2⟩
def spNearBits : Sp := fun vs H Q _ => ∃ (d : Addr) (od : Obj) (VS : List (List Nat)) (v : List Nat) (far k : Nat), vs = [.ref d, .str (txt v), .int (far : Int)] ∧ H d = some (.frz od (.dK ((List.range VS.length).map fun i => (ksT (VS.getD i []), V.int ((2 ^ i : Nat) : Int))))) ∧ VS.length ≤ 2000 ∧ k ≤ 1000 ∧
  (∀ u ∈ VS, u.length = k ∧ ∀ c ∈ u, c < 128 ∧ c ≠ 63) ∧ VS.Nodup ∧ v.length = k ∧ RetV (.int ((barN far VS v : Nat) : Int)) H Q
def spBits (K : PySem.W.Frag) : Sp := fun vs H Q _ => ∃ (m z : Str) (far : Nat), vs = [.str m, .str z, .int (far : Int)] ∧ isMask m = true ∧ 1 ≤ z.length ∧ z.length ≤ 4 ∧ z.length ^ m.length ≤ 1100 ∧ z.cps.toList.Nodup ∧ (∀ c ∈ z.cps.toList, c < 128 ∧ c ≠ 63) ∧
  ∀ d kvs H', Ex H H' → H d = none → H' d = some (.dK kvs) → BitsTo far z.cps.toList (openM m) m.length kvs H' → Q (.ref d) H'
theorem view_txt (u l : List Nat) : viewM (txt u) l 0 = txt (vw l u 0) := by
  unfold viewM vw
  rw [txt_l]
theorem miss_dif {v u : List Nat} (h : ∀ c ∈ u, c ≠ 63) (hl : u.length = v.length) : missM (txt v) (txt u) = dif v u := by
  unfold missM dif
  rw [txt_len]
  congr 1
  refine List.filter_congr fun i hi => ?_
  have hi' := List.mem_range.mp hi
  unfold missB
  rw [txt_l, txt_l]
  have : u.getD i 0 ≠ 63 := h _ (by
    rw [List.getD_eq_getElem?_getD, List.getElem?_eq_getElem (by omega)]
    exact List.getElem_mem _)
  rw [decide_eq_false this]
  rfl
theorem sum_bar (p : Nat → Bool) : ∀ n : Nat, (((List.range n).filter p).map fun i => ((2 ^ i : Nat) : Int)).sum = ((barK p n : Nat) : Int)
  | 0 => rfl
  | n + 1 => by
    rw [List.range_succ, List.filter_append, List.map_append, List.sum_append, sum_bar p n]
    show _ = ((barK p n + (if p n = true then 2 ^ n else 0) : Nat) : Int)
    by_cases h : p n = true
    · rw [List.filter_cons_of_pos h, if_pos h]
      simp
    · rw [List.filter_cons_of_neg h, if_neg h]
      simp
theorem nd_ne {L : List (List Nat)} (hL : L.Nodup) {a b : Nat} (hab : a < b) (hb : b < L.length) : ksT (L.getD a []) ≠ ksT (L.getD b []) := fun e => by
  have := ks_inj e
  rw [List.getD_eq_getElem?_getD, List.getD_eq_getElem?_getD, List.getElem?_eq_getElem (by omega), List.getElem?_eq_getElem hb] at this
  exact List.pairwise_iff_getElem.mp hL a b (by omega) hb hab this
theorem kvs_at {VS : List (List Nat)} (hd : VS.Nodup) {i : Nat} (hi : i < VS.length) : valV ((List.range VS.length).map fun i => (ksT (VS.getD i []), V.int ((2 ^ i : Nat) : Int))) (ksT (VS.getD i [])) = some (V.int ((2 ^ i : Nat) : Int)) := by
  have D : DRel (fun i v (_ : Hp) => v = V.int ((2 ^ i : Nat) : Int)) (fun i => ksT (VS.getD i [])) VS.length ((List.range VS.length).map fun i => (ksT (VS.getD i []), V.int ((2 ^ i : Nat) : Int))) (fun _ => none) := ⟨by simp, fun i hi => ⟨_, by simp [hi], rfl⟩⟩
  obtain ⟨v, h1, h2⟩ := D.at (fun a b hab hb => nd_ne hd hab hb) i hi
  rw [h1, h2]
theorem kvs_idx {VS : List (List Nat)} (hd : VS.Nodup) {v : List Nat} (hv : v ∈ VS) : valV ((List.range VS.length).map fun i => (ksT (VS.getD i []), V.int ((2 ^ i : Nat) : Int))) (ksT v) = some (V.int ((2 ^ VS.idxOf v : Nat) : Int)) := by
  have hi := List.idxOf_lt_length_iff.mpr hv
  have z := kvs_at hd hi
  rw [List.getD_eq_getElem?_getD, List.getElem?_eq_getElem hi] at z
  have e : (some VS[VS.idxOf v]).getD [] = v := List.getElem_idxOf hi
  rw [e] at z
  exact z
section
variable {P : Program} {w : World} {K : PySem.W.Frag} {mg : Str → Option Value} {base : Heap} {CM CG fG a_SMALL_WIDTH a_SMALL_SEEN : Addr}
theorem ok_words (e : Ent K mg "words" s_words p_words) (T : Top K mg CM CG fG a_SMALL_WIDTH a_SMALL_SEEN) : Cal P w K mg base CX0 1 "words" p_words spWords := by
  obtain ⟨f, fd, F, m_, b_⟩ := e
  refine ⟨f, fd, F.ok sc_words (fun vs H Q E h => ?_) (fun cdv A outer s H vs Q E hr h => ?_), m_, F.kp, b_⟩
  · obtain ⟨z, n, rfl, _⟩ := h
    rfl
  · obtain ⟨z, n, rfl, h1, h2, h3, h4, q⟩ := h
    refine ⟨_, (pss_cons (ps_set (i := 2) sc_words.nd rfl (Or.inl rfl) (pe_lst (pa_cons pe_str pa_nil)))
      (pss_cons (ps_for PassesOwn.never rfl (pi_range1 (by rfl) T.m_range (pa_cons (pv 1) pa_nil)) (pg_name (i := 3) sc_words.nd rfl (Or.inl rfl)) (pss_one (ps_setLc2 (i := 2) (own := [("word", 4), ("sign", 5)]) (vs1 := [5]) (g := (gName 4)) (g1 := (gName 5)) (by rfl) sc_words.nd rfl rfl (sw_true rfl rfl rfl (by decide +kernel)) (pi_list (pv 2)) (blkOk_by (own := [("word", 4), ("sign", 5)]) (N := n_words) (sc := (defScope s_words)) (by decide +kernel)) (by decide) (fun _ _ _ _ _ => pg_name (i := 4) sc_words.nd rfl (Or.inl rfl)) (fun _ _ _ _ _ => pts_nil) (fun _ _ _ _ _ => by exact (pi_str (pv 0))) (fun _ _ _ _ _ => pg_name (i := 5) sc_words.nd rfl (Or.inl rfl)) (fun _ _ _ _ _ => pts_nil) (fun _ _ _ _ _ => (pe_op op_add_str (pv 4) (pv 5))))))
      (pss_one (ps_ret (pv 2))))), ?_⟩
    refine q_asgL (xs := tS (wordsL z.cps.toList 0)) (el_is (el_lst (ea_cons ev_c ea_nil) (by simp)) (by rw [nil_txt]; rfl)) fun p H1 np e1 hp => ?_
    refine q_forR1 (n := (n : Int)) (j := 3) (ea_cons (ev_var rfl) ea_nil) (by omega) (fun i σ' H' => Ex H H' ∧ ∃ (p : Addr) (x3 x4 x5 : Option V), H p = none ∧ H' p = some (.lst (tS (wordsL z.cps.toList i))) ∧ σ' = [some (.str z), some (.int (n : Int)), some (.ref p), x3, x4, x5])
      (fun H2 e2 => ⟨e1.trans e2, p, _, _, _, np, e2 _ _ hp, rfl⟩) (fun i σ' H' hi hp' => ?_) (fun σ' H' hp' => ?_)
    · obtain ⟨eH, p, x3, x4, x5, np, hp, rfl⟩ := hp'
      have hw : (wordsL z.cps.toList i).length ≤ 1100 := by
        rw [words_len, len_l]
        exact Nat.le_trans (Nat.pow_le_pow_right h1 (by omega)) h4
      refine s_asgL (xs := tS (wordsL z.cps.toList (i + 1))) (el_is (el_lc2LS (xs := tS (wordsL z.cps.toList i)) (z := z) (fun a m => V.str (txt ((wordsL z.cps.toList i).getD a []) ++ (⟨#[z.cps.toList.getD m 0]⟩ : Str))) (ev_var rfl) (sq_of hp) (by rw [tS_len]; omega) (by omega) (fun _ => rfl) (fun _ _ => rfl)
        (fun a y H2 e2 hy => ev_var rfl) (fun a m y H2 e2 hy hm => ?_)) ?_) fun p' H2 np' e2 hp2 => ⟨eH.trans e2, p', _, _, _, fresh_back eH np', hp2, rfl⟩
      · obtain ⟨ha, rfl⟩ := tS_get hy
        refine ev_op (ev_var rfl) (ev_var rfl) (rv_addS ?_)
        have := (words_each (mem_getDL (d := []) ha)).1
        rw [txt_len]
        show _ + 1 ≤ _
        omega
      · rw [tS_len, ← len_l z]
        exact words_step _ _
    · obtain ⟨eH, p, x3, x4, x5, np, hp, rfl⟩ := hp'
      rw [Int.toNat_natCast] at hp
      exact s_ret (ev_var rfl) fun H2 e2 => q p H2 np (eH.trans e2) (e2 _ _ hp)
theorem ok_near_bits (e : Ent K mg "near_bits" s_near_bits p_near_bits) (T : Top K mg CM CG fG a_SMALL_WIDTH a_SMALL_SEEN) (c1 : Cal P w K mg base CX0 1 "others" p_others spOthers) : Cal P w K mg base CX0 2 "near_bits" p_near_bits spNearBits := by
  obtain ⟨f, fd, F, m_, b_⟩ := e
  obtain ⟨f_others, fd_others, G_others, m_others, k_others, b_others⟩ := c1
  refine ⟨f, fd, F.ok sc_near_bits (fun vs H Q E h => ?_) (fun cdv A outer s H vs Q E hr h => ?_), m_, F.kp, b_⟩
  · obtain ⟨d, od, VS, v, far, k, rfl, _⟩ := h
    rfl
  · obtain ⟨d, od, VS, v, far, k, rfl, hd, hz, hk, hu, hn, hv, q⟩ := h
    refine ⟨_, (pss_one (ps_ret (pe_callB (cr_sum rfl) (by rfl) T.m_sum (by decide +kernel) (pa_cons (pe_lc (own := [("other", 3)]) (g := gName 3) (by rfl) sc_near_bits.nd (pi_keys (pv 0)) (blkOk_by (own := [("other", 3)]) (N := n_near_bits) (sc := (defScope s_near_bits)) (by decide +kernel)) (fun _ _ _ _ _ => pg_name (i := 3) sc_near_bits.nd rfl (Or.inl rfl)) (fun _ _ _ _ _ => pts_one (pt_cmpR op_lt (pe_call G_others (hr.mono (by decide)) (by rfl) m_others k_others b_others .nil pass0 (pa_cons (pv 1) (pa_cons (pv 3) pa_nil))) (pv 2) (nomark _))) (fun _ _ _ _ _ => (pe_dget (Nat.lt_of_le_of_lt (Nat.add_le_add_left (by decide) _) hr.units) (pv 0) (pv 3) (fun _ _ => rfl)))) pa_nil)))), ?_⟩
    refine ⟨_, rfl, d, od, rfl, .inl ⟨_, hd, fun D nD => ?_⟩⟩
    refine lc_it (walk_keys (d := d) (o := od) (kvs := (List.range VS.length).map fun i => (ksT (VS.getD i []), V.int ((2 ^ i : Nat) : Int)))) (fun i H' => Ex H H' ∧ H' D = some (.lst ((((List.range i).filter fun i => decide (dif v (VS.getD i []) < far)).map fun i => ((2 ^ i : Nat) : Int)).map V.int))) ⟨Ex.new nD, upd_same⟩ (fun i H' _ p => p.1 _ _ hd) (fun i x G H' hi p y => ?_) (fun H' p => ?_)
    · obtain ⟨rfl, kk, w, hkv, rfl⟩ := y
      obtain ⟨p1, p2⟩ := p
      rw [List.length_map, List.length_range] at hi
      rw [List.getElem?_map, List.getElem?_range hi] at hkv
      have ee := Option.some.inj hkv
      have e1 : ksT (VS.getD i []) = kk := congrArg Prod.fst ee
      subst e1
      have hum : VS.getD i [] ∈ VS := mem_getDL hi
      obtain ⟨u1, u2⟩ := hu _ hum
      have hd' := p1 _ _ hd
      have ll : ((((List.range i).filter fun i => decide (dif v (VS.getD i []) < far)).map fun i => ((2 ^ i : Nat) : Int)).map V.int).length ≤ i := by
        rw [List.length_map, List.length_map]
        have z := List.length_filter_le (fun i => decide (dif v (VS.getD i []) < far)) (List.range i)
        rw [List.length_range] at z
        exact z
      refine ⟨rfl, ?_⟩
      refine et_test (b := decide (dif v (VS.getD i []) < far)) (ev_is (ev_op (ev_call (z := .int (dif v (VS.getD i []) : Int)) (ea_cons (ev_var rfl) (ea_cons (ev_var rfl) ea_nil)) fun G e Q q E => ⟨txt v, txt (VS.getD i []), rfl, by rw [txt_len, txt_len, u1, hv], by rw [txt_len]; omega, by rw [miss_dif (fun c hc => (u2 c hc).2) (by rw [u1, hv])]; exact q⟩) (ev_var rfl) rv_I0) (by congr 1; exact decide_eq_decide.mpr (by omega))) _ (Ex.refl _) _ fun H3 e3 => ?_
      by_cases hb : dif v (VS.getD i []) < far
      · rw [decide_eq_true hb]
        refine iteT ?_
        have hd3 := e3 _ _ hd'
        refine ⟨_, rfl, _, rfl, d, _, rfl, .inl ⟨_, ksT (VS.getD i []), .inr ⟨od, hd3⟩, rfl, (kvs_at hn hi).symm⟩, _, e3 _ _ p2, by rw [sizeLine_eq]; omega, Ex.mut (p1.trans e3) nD, ?_⟩
        rw [upd_same, List.range_succ, List.filter_append, List.filter_cons_of_pos (by exact decide_eq_true hb), List.map_append, List.map_append]
        rfl
      · rw [decide_eq_false hb]
        refine iteF ⟨p1.trans e3, ?_⟩
        rw [List.range_succ, List.filter_append, List.filter_cons_of_neg (by rw [decide_eq_false hb]; exact Bool.false_ne_true), List.filter_nil, List.append_nil]
        exact e3 _ _ p2
    · obtain ⟨p1, p2⟩ := p
      rw [List.length_map, List.length_range] at p2
      refine ⟨D, _, rfl, sq_of p2, ?_⟩
      rw [sum_bar]
      exact q H' p1
theorem ok_bits (e : Ent K mg "window_bits" s_window_bits p_window_bits) (T : Top K mg CM CG fG a_SMALL_WIDTH a_SMALL_SEEN) (c1 : Cal P w K mg base CX0 4 "seen" p_seen (spSeen0 K)) (c2 : Cal P w K mg base CX0 1 "words" p_words spWords) (c3 : Cal P w K mg base CX0 1 "view_at" p_view_at (spViewAt K))
    (c4 : Cal P w K mg base CX0 2 "near_bits" p_near_bits spNearBits) : Cal P w K mg base CX0 5 "window_bits" p_window_bits (spBits K) := by
  obtain ⟨f, fd, F, m_, b_⟩ := e
  obtain ⟨f_seen, fd_seen, G_seen, m_seen, k_seen, b_seen⟩ := c1
  obtain ⟨f_words, fd_words, G_words, m_words, k_words, b_words⟩ := c2
  obtain ⟨f_view_at, fd_view_at, G_view_at, m_view_at, k_view_at, b_view_at⟩ := c3
  obtain ⟨f_near_bits, fd_near_bits, G_near_bits, m_near_bits, k_near_bits, b_near_bits⟩ := c4
  refine ⟨f, fd, F.ok sc_window_bits (fun vs H Q E h => ?_) (fun cdv A outer s H vs Q E hr h => ?_), m_, F.kp, b_⟩
  · obtain ⟨m, z, far, rfl, _⟩ := h
    rfl
  · obtain ⟨m, z, far, rfl, hm, h1, h4, hB, hzn, hzl, q⟩ := h
    have l1 := isMask_len hm
    have l2 := open_len m
    refine ⟨_, (pss_cons (ps_set (i := 3) sc_window_bits.nd rfl (Or.inr rfl) (pe_call G_seen (hr.mono (by decide)) (by rfl) m_seen k_seen b_seen .nil pass0 (pa_cons (pv 0) pa_nil)))
      (pss_cons (ps_set (i := 4) sc_window_bits.nd rfl (Or.inr rfl) (pe_dc (own := [("at", 7), ("view", 8)]) (g := (gTup K 2 (gCons (gName 7) (gCons (gName 8) gNil)))) (by rfl) sc_window_bits.nd (pi_enum (by rfl) T.m_enumerate (pa_cons (pe_call G_words (hr.mono (by decide)) (by rfl) m_words k_words b_words .nil pass0 (pa_cons (pv 1) (pa_cons (pe_callB call_len (by rfl) T.m_len (by decide +kernel) (pa_cons (pv 3) pa_nil)) pa_nil))) pa_nil)) (blkOk_by (own := [("at", 7), ("view", 8)]) (N := n_window_bits) (sc := (defScope s_window_bits)) (by decide +kernel)) (fun _ _ _ _ _ => by exact (pg_tup rfl (pgs_cons (by exact pg_name (i := 7) sc_window_bits.nd rfl (Or.inl rfl)) (pgs_cons (by exact pg_name (i := 8) sc_window_bits.nd rfl (Or.inl rfl)) pgs_nil)))) (fun _ _ _ _ _ => pts_nil) (fun _ _ _ _ _ => (pv 8)) (fun _ _ _ _ _ => (pe_op op_shl pe_int (pv 7)))))
      (pss_cons (ps_set (i := 5) sc_window_bits.nd rfl (Or.inr rfl) (pe_lock (pe_dc (own := [("view", 8)]) (g := (gName 8)) (by rfl) sc_window_bits.nd (pi_keys (pv 4)) (blkOk_by (own := [("view", 8)]) (N := n_window_bits) (sc := (defScope s_window_bits)) (by decide +kernel)) (fun _ _ _ _ _ => pg_name (i := 8) sc_window_bits.nd rfl (Or.inl rfl)) (fun _ _ _ _ _ => pts_nil) (fun _ _ _ _ _ => (pv 8)) (fun _ _ _ _ _ => (pe_call G_near_bits (hr.mono (by decide)) (by rfl) m_near_bits k_near_bits b_near_bits .nil pass0 (pa_cons (pv 4) (pa_cons (pv 8) (pa_cons (pv 2) pa_nil))))))))
      (pss_cons (ps_set (i := 6) sc_window_bits.nd rfl (Or.inr rfl) (pe_dc (own := [("window", 9)]) (g := (gName 9)) (by rfl) sc_window_bits.nd (pi_list (pe_call G_words (hr.mono (by decide)) (by rfl) m_words k_words b_words .nil pass0 (pa_cons (pv 1) (pa_cons (pe_callB call_len_str (by rfl) T.m_len (by decide +kernel) (pa_cons (pv 0) pa_nil)) pa_nil)))) (blkOk_by (own := [("window", 9)]) (N := n_window_bits) (sc := (defScope s_window_bits)) (by decide +kernel)) (fun _ _ _ _ _ => pg_name (i := 9) sc_window_bits.nd rfl (Or.inl rfl)) (fun _ _ _ _ _ => pts_nil) (fun _ _ _ _ _ => (pv 9)) (fun _ _ _ _ _ => (pe_call G_view_at (hr.mono (by decide)) (by rfl) m_view_at k_view_at b_view_at .nil pass0 (pa_cons (pv 9) (pa_cons (pv 3) (pa_cons pe_int pa_nil)))))))
      (pss_one (ps_ret (pe_lock (pe_dc (own := [("window", 9)]) (g := (gName 9)) (by rfl) sc_window_bits.nd (pi_keys (pv 6)) (blkOk_by (own := [("window", 9)]) (N := n_window_bits) (sc := (defScope s_window_bits)) (by decide +kernel)) (fun _ _ _ _ _ => pg_name (i := 9) sc_window_bits.nd rfl (Or.inl rfl)) (fun _ _ _ _ _ => pts_nil) (fun _ _ _ _ _ => (pv 9)) (fun _ _ _ _ _ => (pe_tup (pa_cons (pe_dget (Nat.lt_of_le_of_lt (Nat.add_le_add_left (by decide) _) hr.units) (pv 4) (pe_dget (Nat.lt_of_le_of_lt (Nat.add_le_add_left (by decide) _) hr.units) (pv 6) (pv 9) (fun _ _ => rfl)) (fun _ _ => rfl)) (pa_cons (pe_dget (Nat.lt_of_le_of_lt (Nat.add_le_add_left (by decide) _) hr.units) (pv 5) (pe_dget (Nat.lt_of_le_of_lt (Nat.add_le_add_left (by decide) _) hr.units) (pv 6) (pv 9) (fun _ _ => rfl)) (fun _ _ => rfl)) pa_nil)))))))))))), ?_⟩
    refine q_asgL (xs := natsV (openM m)) (el_call (ea_cons (ev_var rfl) ea_nil) fun G e Q q E => ⟨m, rfl, hm, q⟩) fun a H1 na e1 ha => ?_
    obtain ⟨VS, hVS⟩ : ∃ VS, wordsL z.cps.toList (openM m).length = VS := ⟨_, rfl⟩
    obtain ⟨us, hus⟩ : ∃ us, wordsL z.cps.toList m.length = us := ⟨_, rfl⟩
    have vl : VS.length ≤ 1100 := by
      rw [← hVS, words_len, len_l]
      exact Nat.le_trans (Nat.pow_le_pow_right h1 l2) hB
    have ul : us.length ≤ 1100 := by
      rw [← hus, words_len, len_l]
      exact hB
    have vn : VS.Nodup := by rw [← hVS]; exact words_nodup hzn _
    have un : us.Nodup := by rw [← hus]; exact words_nodup hzn _
    have ve : ∀ u ∈ VS, u.length = (openM m).length ∧ ∀ c ∈ u, c < 128 ∧ c ≠ 63 := fun u hu => by
      rw [← hVS] at hu
      obtain ⟨a, b⟩ := words_each hu
      exact ⟨a, fun c hc => hzl c (b c hc)⟩
    have ue : ∀ u ∈ us, u.length = m.length ∧ (∀ c ∈ u, c ∈ z.cps.toList) := fun u hu => by
      rw [← hus] at hu
      exact words_each hu
    have uv : ∀ u ∈ us, vw (openM m) u 0 ∈ VS := fun u hu => by
      rw [← hVS]
      obtain ⟨a, b⟩ := ue u hu
      exact vw_in (fun p hp => open_lt hp) b (by omega)
    have kne : ∀ (L : List (List Nat)), L.Nodup → ∀ a b, a < b → b < L.length → ksT (L.getD a []) ≠ ksT (L.getD b []) := fun L hL a b hab hb => nd_ne hL hab hb
    dsimp only [tSeq]
    -- bits
    refine el_dcE (K := K) (xs := tS VS) (fun i => ksT (VS.getD i [])) (fun i => V.int ((2 ^ i : Nat) : Int)) (el_call (vs := [.str z, .int ((openM m).length : Int)]) (ea_cons (ev_var rfl) (ea_cons (ev_is (ev_cb (ea_cons (ev_var rfl) ea_nil) (rc_lenL (sq_of ha))) (by rw [natsV_len])) ea_nil)) fun G e Q q E => ⟨z, (openM m).length, rfl, h1, h4, by omega, Nat.le_trans (Nat.pow_le_pow_right h1 l2) hB, by rw [hVS]; exact q⟩) (by rw [tS_len]; omega) (fun _ _ => rfl)
      (fun a b hab hb => kne VS vn a b hab (by rw [tS_len] at hb; exact hb)) (fun i y G e hy => by obtain ⟨hi, rfl⟩ := tS_get hy; exact ev_var rfl) (fun i y G e hy => ?_) _ (Ex.refl _) _ fun d1 H2 nd1 e2 hd1 => ?_
    · obtain ⟨hi, rfl⟩ := tS_get hy
      refine ev_is (w := V.int ((2 ^ i : Nat) : Int)) (ev_op ev_c (ev_var rfl) (rv_I (show (0 : Int) ≤ (i : Int) ∧ _ from ⟨by omega, by omega, by decide⟩))) ?_
      congr 1
      rw [Int.toNat_natCast, Int.one_mul]
      exact (Int.natCast_pow 2 i).symm
    rw [tS_len] at hd1
    dsimp only [gName, tSeq]
    -- barred
    refine el_dcK (K := K) (R := fun i v _ => v = V.int ((barN far VS (VS.getD i []) : Nat) : Int)) (kf := fun i => ksT (VS.getD i [])) (kvs := (List.range VS.length).map fun i => (ksT (VS.getD i []), V.int ((2 ^ i : Nat) : Int))) (fun H1 od => ev_var rfl) hd1 (by rw [List.length_map, List.length_range]; omega) (fun i hi => ?_) (fun a b hab hb => kne VS vn a b hab (by simpa using hb)) (fun _ => rfl) (fun _ => rfl) (fun i v H1 H2 x _ _ h => h) (fun i v G hv hG Q q => ?_) (Ex.refl _) fun d2 kv2 H3 nd2 e3 hd2 D2 => ?_
    · rw [List.length_map, List.length_range] at hi
      exact ⟨V.int ((2 ^ i : Nat) : Int), by rw [List.getElem?_map, List.getElem?_range hi]; rfl⟩
    · have hi : i < VS.length := by
        have := (List.getElem?_eq_some_iff.mp hv).1
        simpa using this
      obtain ⟨H0, od, _, _, hfz⟩ := hG
      exact ⟨_, rfl, _, rfl, _, rfl, d1, od, VS, VS.getD i [], far, (openM m).length, rfl, hfz, by omega, by omega, ve, vn, (ve _ (mem_getDL hi)).1, fun H2 e2 => q _ H2 e2 rfl⟩
    rw [List.length_map, List.length_range] at D2
    dsimp only [gName, tSeq]
    have ha3 := e3 _ _ (e2 _ _ ha)
    -- shown
    refine el_dcL (K := K) (xs := tS us) (fun _ => true) (fun i => ksT (us.getD i [])) (fun i => V.str (txt (vw (openM m) (us.getD i []) 0))) (el_call (ea_cons (ev_var rfl) (ea_cons (ev_cb (ea_cons (ev_var rfl) ea_nil) (rc_lenS (by omega))) ea_nil)) fun G e Q q E => ⟨z, m.length, rfl, h1, h4, by omega, hB, by rw [hus]; exact q⟩) (by rw [tS_len]; omega) (fun _ => rfl)
      (fun a b hab hb => kne us un a b hab (by rw [tS_len] at hb; exact hb)) (fun i x G e hx => et_yes) (fun i x G e hx _ => by obtain ⟨hi, rfl⟩ := tS_get hx; exact ev_var rfl) (fun i x G e hx _ => ?_) _ (Ex.refl _) _ fun d3 H4 nd3 e4 hd3 => ?_
    · obtain ⟨hi, rfl⟩ := tS_get hx
      obtain ⟨a1, a2⟩ := ue _ (mem_getDL (d := []) hi)
      exact ev_call (ea_cons (ev_var rfl) (ea_cons (ev_var rfl) (ea_cons ev_c ea_nil))) fun G2 e2 Q q E => ⟨txt (us.getD i []), a, openM m, 0, rfl, sq_of ((e.trans e2) _ _ ha3), fun p hp => by have := open_lt hp; rw [txt_len]; omega, by omega, by rw [txt_len]; omega, by rw [view_txt]; exact q⟩
    rw [tS_len, List.filter_eq_self.mpr (fun _ _ => rfl)] at hd3
    dsimp only [gName, tSeq]
    have hd1' := e4 _ _ (e3 _ _ hd1)
    have hd2' := e4 _ _ hd2
    have d13 : d1 ≠ d3 := fun e => by rw [← e, e3 _ _ hd1] at nd3; cases nd3
    have d23 : d2 ≠ d3 := fun e => by rw [← e, hd2] at nd3; cases nd3
    have D3 : DRel (fun i v (_ : Hp) => v = V.str (txt (vw (openM m) (us.getD i []) 0))) (fun i => ksT (us.getD i [])) us.length ((List.range us.length).map fun i => (ksT (us.getD i []), V.str (txt (vw (openM m) (us.getD i []) 0)))) (fun _ => none) := ⟨by simp, fun i hi => ⟨_, by simp [hi], rfl⟩⟩
    -- the pairs
    refine el_dcK (K := K) (R := fun i v H' => ∃ t, v = .ref t ∧ H' t = some (.tup [.int ((2 ^ VS.idxOf (vw (openM m) (us.getD i []) 0) : Nat) : Int), .int ((barN far VS (vw (openM m) (us.getD i []) 0) : Nat) : Int)])) (kf := fun i => ksT (us.getD i [])) (kvs := (List.range us.length).map fun i => (ksT (us.getD i []), V.str (txt (vw (openM m) (us.getD i []) 0)))) (fun H1 od => ev_var rfl) hd3 (by rw [List.length_map, List.length_range]; omega) (fun i hi => ?_) (fun a b hab hb => kne us un a b hab (by simpa using hb)) (fun _ => rfl) (fun _ => rfl) (fun i v G1 G2 x hx hk h => ?_) (fun i v G hv hG Q q => ?_) (Ex.refl _) fun d4 kv4 H5 nd4 e5 hd4 D4 => ?_
    · rw [List.length_map, List.length_range] at hi
      exact ⟨V.str (txt (vw (openM m) (us.getD i []) 0)), by rw [List.getElem?_map, List.getElem?_range hi]; rfl⟩
    · obtain ⟨t, rfl, ht⟩ := h
      refine ⟨t, rfl, hk t _ (fun z => ?_) ht⟩
      obtain ⟨kv, od, hx | hx⟩ := hx
      · rw [← z, ht] at hx; cases hx
      · rw [← z, ht] at hx; cases hx
    · have hi : i < us.length := by
        have := (List.getElem?_eq_some_iff.mp hv).1
        simpa using this
      obtain ⟨H0, od, e0, eG, hfz⟩ := hG
      have z1 : G d1 = some (.dK ((List.range VS.length).map fun i => (ksT (VS.getD i []), V.int ((2 ^ i : Nat) : Int)))) := eG _ _ (by rw [upd_ne d13]; exact e0 _ _ hd1')
      have z2 : G d2 = some (.dK kv2) := eG _ _ (by rw [upd_ne d23]; exact e0 _ _ hd2')
      obtain ⟨w3, w4, rfl⟩ := D3.at (fun a b hab hb => kne us un a b hab hb) i hi
      have hin := uv _ (mem_getDL (d := []) hi)
      have hix := List.idxOf_lt_length_iff.mpr hin
      obtain ⟨w5, w6, w7⟩ := D2.at (fun a b hab hb => kne VS vn a b hab hb) _ hix
      have eg : VS.getD (VS.idxOf (vw (openM m) (us.getD i []) 0)) [] = vw (openM m) (us.getD i []) 0 := by
        rw [List.getD_eq_getElem?_getD, List.getElem?_eq_getElem hix]
        exact List.getElem_idxOf hix
      rw [eg] at w6 w7
      have k3 : DGet G d3 (kV (ksT (us.getD i []))) (some (V.str (txt (vw (openM m) (us.getD i []) 0)))) := .inl ⟨_, ksT (us.getD i []), .inr ⟨od, hfz⟩, rfl, w4.symm⟩
      refine ⟨_, rfl, _, rfl, _, rfl, d3, _, rfl, k3, d1, _, rfl, .inl ⟨_, ksT (vw (openM m) (us.getD i []) 0), .inl z1, rfl, (kvs_idx vn hin).symm⟩, _, rfl, _, rfl, _, rfl, d3, _, rfl, k3, d2, _, rfl, .inl ⟨kv2, ksT (vw (openM m) (us.getD i []) 0), .inl z2, rfl, w6.symm⟩, by show 2 ≤ sizeLine; decide, fun t nt => ?_⟩
      rw [w7]
      exact q (.ref t) _ (Ex.new nt) ⟨t, rfl, upd_same⟩
    · rw [List.length_map, List.length_range] at D4
      have eA := (((e1.trans e2).trans e3).trans e4).trans e5
      refine q d4 kv4 H5 eA (fresh_back (((e1.trans e2).trans e3).trans e4) nd4) hd4 fun u => ⟨fun hu => ?_, fun hu => ?_⟩
      · rw [hus] at hu
        obtain ⟨i, hi, rfl⟩ := List.getElem_of_mem hu
        obtain ⟨v, hv, t, rfl, ht⟩ := D4.at (fun a b hab hb => kne us un a b hab hb) i hi
        rw [List.getD_eq_getElem?_getD, List.getElem?_eq_getElem hi] at hv ht
        rw [hVS]
        exact ⟨t, hv, ht⟩
      · rw [hus] at hu
        exact D4.new fun a ha e => hu (by rw [← ks_inj e]; exact mem_getDL ha)
end
end K13
namespace K13
open PySem PySem.Spec PyProof.Rows L2 Evl Qt
theorem ev_fld {K : PySem.W.Frag} {te : TE} {σ : L2.St} {H : Hp} {x C dx : Addr} {fs : List (Str × V)} {v : V} {f : Str} (h : Ev te σ H (.ref x)) (hx : H x = some (.ins C dx fs)) (c : Cls K C) (n : NoAttr K C f) (hf : fs.lookup f = some v) : Ev (tFld K te f) σ H v :=
  fun H1 e Q q => h H1 e _ fun H2 e2 => ⟨x, C, dx, fs, v, rfl, (e.trans e2) _ _ hx, c, n, hf, q H2 e2⟩
theorem ev_slS {te : TE} {tl th : TO} {σ : L2.St} {H : Hp} {z : Str} {lo hi : Option Int} (h : Ev te σ H (.str z)) (h1 : EvO tl σ H lo) (h2 : EvO th σ H hi) (hz : z.length ≤ 100000) : Ev (tSl rSlS te tl th) σ H (.str (cutS z lo hi)) :=
  fun H1 e Q q => h H1 e _ fun H2 e2 => h1 H2 (e.trans e2) _ fun H3 e3 => h2 H3 ((e.trans e2).trans e3) _ fun H4 e4 => ⟨z, rfl, sz_of hz, q H4 ((e2.trans e3).trans e4)⟩
theorem ev_dget2 {td ty tx : TE} {σ : L2.St} {H : Hp} {a : Addr} {kvs : List (Key × V)} {k : Key} {d : V} (h : Ev td σ H (.ref a)) (hk : Ev ty σ H (kV k)) (hx : Ev tx σ H d) (ha : H a = some (.dK kvs)) : Ev (tDGet2 td ty tx) σ H ((valV kvs k).getD d) :=
  fun H1 e Q q => h H1 e _ fun H2 e2 => ⟨a, rfl, .inl ⟨kvs, .inl ((e.trans e2) _ _ ha)⟩, hk H2 (e.trans e2) _ fun H3 e3 => hx H3 ((e.trans e2).trans e3) _ fun H4 e4 => ⟨_, DGet.k ((((e.trans e2).trans e3).trans e4) _ _ ha), q H4 ((e2.trans e3).trans e4)⟩⟩
theorem s_forS {te : TE} {tu : TS} {D : Ends} {σ : L2.St} {H : Hp} {z : Str} {j : Nat} (h : Ev te σ H (.str z)) (Pv : Nat → L2.St → Hp → Prop) (h0 : ∀ H1, Ex H H1 → Pv 0 σ H1)
    (hs : ∀ i σ' H', i < z.length → Pv i σ' H' → tu { D with nx := Pv (i + 1), ct := Pv (i + 1), bk := D.nx } (σ'.set j (some (sg z i))) H') (hd : ∀ σ' H', Pv z.length σ' H' → D.nx σ' H') : tFor (iStr te) (gName j) tu D σ H :=
  h H (Ex.refl H) _ fun H1 e => ⟨z, rfl, for_it (walk_str (z := z)) Pv (h0 H1 e) (fun _ _ _ _ _ => trivial) (fun i x σ' H2 H3 hi p y => by
    obtain ⟨rfl, c, hc, rfl⟩ := y
    rw [sg_of hc]
    exact hs i σ' _ hi p) hd⟩
theorem cut_lo {z : Str} {k : Nat} (h : k ≤ z.length) : (cutS z none (some (k : Int))).cps.toList = z.cps.toList.take k := by
  unfold cutS
  rw [HT.sIx_none, HT.sIx_nat, List.toList_toArray, List.drop_zero, Nat.min_eq_left h, Nat.sub_zero]
theorem cut_neg {u : List Nat} {k : Nat} (h : 1 ≤ k) : cutS (txt u) (some (-(k : Int))) none = txt (u.drop (u.length - k)) := by
  apply str_ext
  unfold cutS
  rw [HT.sIx_none, List.toList_toArray, txt_l, txt_l, txt_len]
  have e : HT.sIx u.length 0 (some (-(k : Int))) = u.length - k := by
    show (if (-(k : Int)) < 0 then ((-(k : Int)) + (u.length : Int)).toNat else min (-(k : Int)).toNat u.length) = _
    rw [if_pos (by omega)]
    omega
  rw [e, List.take_of_length_le]
  rw [List.length_drop]
  omega
theorem cut_mid {u : List Nat} {i w : Nat} (h : i + w ≤ u.length) : cutS (txt u) (some (i : Int)) (some ((i : Int) + (w : Int))) = txt ((u.drop i).take w) := by
  apply str_ext
  unfold cutS
  rw [show (i : Int) + (w : Int) = ((i + w : Nat) : Int) from rfl, HT.sIx_nat, HT.sIx_nat, List.toList_toArray, txt_l, txt_l, txt_len, Nat.min_eq_left (show i ≤ u.length by omega), show min (i + w) u.length - i = w by omega]
theorem vw_cut {l r : List Nat} {w i : Nat} (hl : ∀ p ∈ l, p < w) : vw l ((r.drop i).take w) 0 = vw l r i := List.map_congr_left fun p hp => by
  have := hl p hp
  rw [List.getD_eq_getElem?_getD, List.getD_eq_getElem?_getD, Nat.zero_add, List.getElem?_take_of_lt this, List.getElem?_drop]
theorem bit_pair {far : Nat} {sg l u : List Nat} {w : Nat} {kvs : List (Key × V)} {H : Hp} {t0 : Addr} (hl : ∀ p ∈ l, p < w) (hb : BitsTo far sg l w kvs H) (hu : ∀ c ∈ u, c ∈ sg) (h0 : H t0 = some (.tup [.int 0, .int 0])) :
    ∃ t, (valV kvs (ksT (u.drop (u.length - w)))).getD (.ref t0) = .ref t ∧ H t = some (.tup [.int ((bt (wordsL sg l.length) l w u : Nat) : Int), .int ((nr far (wordsL sg l.length) l w u : Nat) : Int)]) := by
  unfold bt nr
  by_cases h : w ≤ u.length
  · obtain ⟨t, a, b⟩ := (hb (u.drop (u.length - w))).1 (words_mem _ _ (by rw [List.length_drop]; omega) fun c hc => hu c (List.mem_of_mem_drop hc))
    have e : vw l (u.drop (u.length - w)) 0 = vw l u (u.length - w) := List.map_congr_left fun p _ => by
      rw [List.getD_eq_getElem?_getD, List.getD_eq_getElem?_getD, Nat.zero_add, List.getElem?_drop]
    rw [e] at b
    rw [if_pos h, if_pos h, a]
    exact ⟨t, rfl, b⟩
  · rw [if_neg h, if_neg h, (hb (u.drop (u.length - w))).2]
    · exact ⟨t0, rfl, h0⟩
    · intro z
      have := (words_each z).1
      rw [List.length_drop] at this
      omega
def gF (z : Str) (w : Int) (d : Addr) : List (Str × V) := putF "bits" (.ref d) (putF "width" (.int w) (putF "signs" (.str z) []))
theorem nws : ¬ (("width" : Str) = "signs") := by decide +kernel
theorem nbs : ¬ (("signs" : Str) = "bits") := by decide +kernel
theorem nsw : ¬ (("signs" : Str) = "width") := by decide +kernel
theorem nbw : ¬ (("width" : Str) = "bits") := by decide +kernel
theorem gF_signs (z : Str) (w : Int) (d : Addr) : (gF z w d).lookup ("signs" : Str) = some (.str z) := by
  unfold gF
  rw [lookup_putF, if_neg nbs, lookup_putF, if_neg nsw, lookup_putF, if_pos rfl]
theorem gF_width (z : Str) (w : Int) (d : Addr) : (gF z w d).lookup ("width" : Str) = some (.int w) := by
  unfold gF
  rw [lookup_putF, if_neg nbw, lookup_putF, if_pos rfl]
theorem gF_bits (z : Str) (w : Int) (d : Addr) : (gF z w d).lookup ("bits" : Str) = some (.ref d) := by
  unfold gF
  rw [lookup_putF, if_pos rfl]
theorem gF_no (z : Str) (w : Int) (d : Addr) {f : Str} (h1 : ¬ f = "bits") (h2 : ¬ f = "width") (h3 : ¬ f = "signs") : (gF z w d).lookup f = none := by
  unfold gF
  rw [lookup_putF, if_neg h1, lookup_putF, if_neg h2, lookup_putF, if_neg h3]
  rfl
def GrowAt (CG : Addr) (H : Hp) (x : Addr) (m z : Str) (far : Nat) : Prop := ∃ dx d kvs, H x = some (.ins CG dx (gF z (m.length : Int) d)) ∧ H d = some (.dK kvs) ∧ BitsTo far z.cps.toList (openM m) m.length kvs H
theorem GrowAt.ex {CG : Addr} {H H1 : Hp} {x : Addr} {m z : Str} {far : Nat} (h : GrowAt CG H x m z far) (e : Ex H H1) : GrowAt CG H1 x m z far := by
  obtain ⟨dx, d, kvs, h1, h2, h3⟩ := h
  exact ⟨dx, d, kvs, e _ _ h1, e _ _ h2, h3.ex e⟩
def sgn (n : Nat) : Str := cutS (PySem.Str.ofString "abcd") none (some (n : Int))
theorem abcd_l : (PySem.Str.ofString "abcd").cps.toList = [97, 98, 99, 100] := by decide +kernel
theorem sgn_l {n : Nat} (h : n ≤ 4) : (sgn n).cps.toList = [97, 98, 99, 100].take n := by
  unfold sgn
  rw [cut_lo (by rw [show (PySem.Str.ofString "abcd").length = 4 by decide +kernel]; exact h), abcd_l]
theorem sgn_len {n : Nat} (h : n ≤ 4) : (sgn n).length = n := by
  rw [← len_l, sgn_l h, List.length_take]
  simp
  omega
theorem sgn_nodup {n : Nat} (h : n ≤ 4) : (sgn n).cps.toList.Nodup := by
  rw [sgn_l h]
  exact List.Sublist.nodup (List.take_sublist _ _) (by decide)
theorem sgn_sign {n : Nat} (h : n ≤ 4) : ∀ c ∈ (sgn n).cps.toList, c < 128 ∧ c ≠ 63 := fun c hc => by
  rw [sgn_l h] at hc
  have := List.mem_of_mem_take hc
  simp only [List.mem_cons, List.not_mem_nil, or_false] at this
  omega
/-- what the rows of a mask bar; their pairs -/
def barM (far : Nat) (m z : Str) (r : List Nat) : Nat := brs far (wordsL z.cps.toList (openM m).length) (vws (openM m) m.length r)
abbrev PrsM (far : Nat) (m z : Str) (H : Hp) (xs : List V) (rs : List (List Nat)) : Prop := Prs (barM far m z) H xs rs
theorem Prs.upd {B : List Nat → Nat} {H : Hp} {xs ys : List V} {rs : List (List Nat)} {D : Addr} {o : HO} (h : Prs B H xs rs) (hD : H D = some (.lst ys)) : Prs B (upd H D o) xs rs := by
  induction h with
  | nil => exact .nil
  | snoc _ ht ih => exact .snoc ih (by rw [upd_ne (ne_of ht hD (by intro z; cases z))]; exact ht)
def spGInit (CG : Addr) : Sp := fun vs H Q _ => ∃ (H0 : Hp) (x dx : Addr) (m : Str) (n far : Nat), vs = [.ref x, .str m, .int (n : Int), .int (far : Int)] ∧ Ex H0 H ∧ H0 x = none ∧ H x = some (.ins CG dx []) ∧ isMask m = true ∧ 1 ≤ n ∧ n ≤ 4 ∧ n ^ m.length ≤ 1100 ∧
  ∀ H', Ex H0 H' → GrowAt CG H' x m (sgn n) far → Q .non H'
def spBegun (K : PySem.W.Frag) (CG : Addr) : Sp := fun vs H Q _ => ∃ (x : Addr) (m z : Str) (far : Nat) (r : List Nat), vs = [.ref x, .str (txt r)] ∧ isMask m = true ∧ GrowAt CG H x m z far ∧ (∀ c ∈ r, c ∈ z.cps.toList) ∧ r.length ≤ 100 ∧
  ∀ p xs H', Ex H H' → H p = none → H' p = some (.lst xs) → PrsM far m z H' xs [r] → Q (.ref p) H'
def spLonger (K : PySem.W.Frag) (CG : Addr) : Sp := fun vs H Q _ => ∃ (x a : Addr) (m z : Str) (far : Nat) (xs : List V) (rs : List (List Nat)), vs = [.ref x, .ref a] ∧ isMask m = true ∧ z.length ≤ 4 ∧ GrowAt CG H x m z far ∧ H a = some (.lst xs) ∧ PrsM far m z H xs rs ∧
  (∀ r ∈ rs, (∀ c ∈ r, c ∈ z.cps.toList) ∧ ap far (vws (openM m) m.length r) ∧ r.length ≤ 100) ∧ (rs.flatMap (stp far z.cps.toList (openM m) m.length)).length ≤ 8388608 ∧
  ∀ p ys H', Ex H H' → H p = none → H' p = some (.lst ys) → PrsM far m z H' ys (rs.flatMap (stp far z.cps.toList (openM m) m.length)) → Q (.ref p) H'
section
variable {P : Program} {w : World} {K : PySem.W.Frag} {mg : Str → Option Value} {base : Heap} {CM CG fG a_SMALL_WIDTH a_SMALL_SEEN : Addr}
theorem ok_ginit (T : Top K mg CM CG fG a_SMALL_WIDTH a_SMALL_SEEN) (c1 : Cal P w K mg base CX0 5 "window_bits" p_window_bits (spBits K)) : ∃ fd, FnOk P w K mg base CX0 6 fG fd p_Growth___init__ (spGInit CG) ∧ Binds K fd p_Growth___init__ [] := by
  obtain ⟨fd, F, b_⟩ := T.t_Growth_init
  obtain ⟨f_window_bits, fd_window_bits, G_window_bits, m_window_bits, k_window_bits, b_window_bits⟩ := c1
  have cl := T.c_Growth.cl
  have na := T.c_Growth.na
  refine ⟨fd, F.ok sc_Growth___init__ (fun vs H Q E h => ?_) (fun cdv A outer s H vs Q E hr h => ?_), b_⟩
  · obtain ⟨H0, x, dx, m, n, far, rfl, _⟩ := h
    rfl
  · obtain ⟨H0, x, dx, m, n, far, rfl, e0, n0, hx, hm, h1, h4, hB, q⟩ := h
    have l1 := isMask_len hm
    refine ⟨_, (pss_cons (ps_fld (pv 0) (pe_slice sl_str (pe_glob (v := .str (PySem.Str.ofString "abcd")) (by rfl) T.g_LETTERS.choose_spec ⟨_, rfl⟩) po_none (po_some (pv 2))) rfl)
      (pss_cons (ps_fld (pv 0) (pe_callB call_len_str (by rfl) T.m_len (by decide +kernel) (pa_cons (pv 1) pa_nil)) rfl)
      (pss_one (ps_fld (pv 0) (pe_call G_window_bits (hr.mono (by decide)) (by rfl) m_window_bits k_window_bits b_window_bits .nil pass0 (pa_cons (pv 1) (pa_cons (pe_fld (pv 0) rfl) (pa_cons (pv 3) pa_nil)))) rfl)))), ?_⟩
    refine ev_slS (z := PySem.Str.ofString "abcd") ev_c eo_none (eo_some (i := (n : Int)) (ev_var rfl)) (by decide +kernel) _ (Ex.refl _) _ fun H1 e1 => ?_
    refine ⟨_, rfl, x, CG, dx, [], rfl, e1 _ _ hx, cl, na _ (by simp), by simp, ?_⟩
    have s1 : Ex H0 (upd H1 x (.ins CG dx (putF "signs" (.str (sgn n)) []))) := Ex.mut (e0.trans e1) n0
    refine ⟨_, rfl, m, rfl, by rw [sizeLine_eq]; omega, _, rfl, x, CG, dx, _, rfl, upd_same, cl, na _ (by simp), Nat.lt_of_le_of_lt (length_putF _ _ _) (by decide), ?_⟩
    have s2 : Ex H0 (upd (upd H1 x (.ins CG dx (putF "signs" (.str (sgn n)) []))) x (.ins CG dx (putF "width" (.int (m.length : Int)) (putF "signs" (.str (sgn n)) [])))) := Ex.mut s1 n0
    refine ⟨_, rfl, _, rfl, x, CG, dx, _, _, rfl, upd_same, cl, na "signs" (by simp), (by rw [lookup_putF, if_neg nsw, lookup_putF, if_pos rfl]; rfl), _, rfl, m, sgn n, far, rfl, hm, by rw [sgn_len h4]; exact h1, by rw [sgn_len h4]; exact h4, by rw [sgn_len h4]; exact hB, sgn_nodup h4, sgn_sign h4, fun d kvs H3 e3 nd hd hb => ?_⟩
    have dx_ : d ≠ x := fun z => by rw [z, upd_same] at nd; cases nd
    refine ⟨_, rfl, x, CG, dx, _, rfl, e3 _ _ upd_same, cl, na _ (by simp), Nat.lt_of_le_of_lt (length_putF _ _ _) (Nat.lt_of_le_of_lt (Nat.add_le_add_right (length_putF _ _ _) 1) (by decide)), ?_⟩
    refine q _ (Ex.mut (s2.trans e3) n0) ⟨dx, d, kvs, upd_same, by rw [upd_ne dx_]; exact hd, fun u => ⟨fun hu => ?_, (hb u).2⟩⟩
    obtain ⟨t, a, b⟩ := (hb u).1 hu
    have hx3 := e3 _ _ (show upd _ x _ x = _ from upd_same)
    have tx : t ≠ x := fun z => by rw [z, hx3] at b; cases b
    exact ⟨t, a, by rw [upd_ne tx]; exact b⟩
theorem ok_begun (T : Top K mg CM CG fG a_SMALL_WIDTH a_SMALL_SEEN) : ∃ g fd, Meth K CG "begun" g ∧ FnOk P w K mg base CX0 1 g fd p_Growth_begun (spBegun K CG) ∧ Binds K fd p_Growth_begun [] := by
  obtain ⟨g, fd, mt, F, b_⟩ := T.t_Growth_begun
  have cl := T.c_Growth.cl
  have na := T.c_Growth.na
  refine ⟨g, fd, mt, F.ok sc_Growth_begun (fun vs H Q E h => ?_) (fun cdv A outer s H vs Q E hr h => ?_), b_⟩
  · obtain ⟨x, m, z, far, r, rfl, _⟩ := h
    rfl
  · obtain ⟨x, m, z, far, r, rfl, hm, ⟨dx, d, kvs, hx, hd, hb⟩, hrs, hrl, q⟩ := h
    have l1 := isMask_len hm
    have hl : ∀ p ∈ openM m, p < m.length := fun p hp => open_lt hp
    refine ⟨_, (pss_cons (ps_set (i := 2) sc_Growth_begun.nd rfl (Or.inl rfl) pe_int)
      (pss_cons (ps_for PassesOwn.never rfl (pi_range1 (by rfl) T.m_range (pa_cons (pe_op op_add (pe_op op_sub (pe_callB call_len_str (by rfl) T.m_len (by decide +kernel) (pa_cons (pv 1) pa_nil)) (pe_fld (pv 0) rfl)) pe_int) pa_nil)) (pg_name (i := 3) sc_Growth_begun.nd rfl (Or.inl rfl)) (pss_cons (ps_asg (pe_dget (Nat.lt_of_le_of_lt (Nat.add_le_add_left (by decide) _) hr.units) (pe_fld (pv 0) rfl) (pe_slice sl_str (pv 1) (po_some (pv 3)) (po_some (pe_op op_add (pv 3) (pe_fld (pv 0) rfl)))) (fun _ _ => rfl)) (pg_tup (by rfl) (pgs_cons (pg_name (i := 4) sc_Growth_begun.nd rfl (Or.inl rfl)) (pgs_cons (pg_name (i := 5) sc_Growth_begun.nd rfl (Or.inl rfl)) pgs_nil))))
      (pss_one (ps_aug (i := 2) sc_Growth_begun.nd rfl (Or.inl rfl) (pv 5) ip_or))))
      (pss_one (ps_ret (pe_lst (pa_cons (pe_tup (pa_cons (pv 1) (pa_cons (pv 2) pa_nil))) pa_nil)))))), ?_⟩
    refine q_asg (v := .int 0) ev_c fun H1 e1 => ?_
    refine q_forRn (j := 3) (n := (r.length : Int) - (m.length : Int) + 1) (ea_cons (ev_op (ev_op (ev_is (ev_cb (ea_cons (ev_var rfl) ea_nil) (rc_lenS (z := txt r) (by rw [txt_len]; omega))) (by rw [txt_len])) (ev_fld (ev_var rfl) (e1 _ _ hx) cl (na "width" (by simp)) (gF_width _ _ _)) rv_I0) ev_c rv_I0) ea_nil) (by omega)
      (fun i σ' H' => Ex H H' ∧ ∃ x3 x4 x5, σ' = [some (.ref x), some (.str (txt r)), some (.int ((brs far (wordsL z.cps.toList (openM m).length) ((vws (openM m) m.length r).take i) : Nat) : Int)), x3, x4, x5])
      (fun H2 e2 => ⟨e1.trans e2, _, _, _, rfl⟩) (fun i σ' H' hi hp => ?_) (fun σ' H' hp => ?_)
    · obtain ⟨eH, x3, x4, x5, rfl⟩ := hp
      have hiw : i + m.length ≤ r.length := by omega
      obtain ⟨t, h1, h2⟩ := (hb ((r.drop i).take m.length)).1 (words_mem _ _ (by rw [List.length_take, List.length_drop]; omega) fun c hc => hrs c (List.mem_of_mem_drop (List.mem_of_mem_take hc)))
      rw [vw_cut hl] at h2
      have sl : Ev (tSl rSlS (tVar 1) (tPart (tVar 3)) (tPart (tOp (rI0 fun i j => V.int (i + j)) (tVar 3) (tFld K (tVar 0) "width")))) ([some (.ref x), some (.str (txt r)), some (.int ((brs far (wordsL z.cps.toList (openM m).length) ((vws (openM m) m.length r).take i) : Nat) : Int)), x3, x4, x5].set 3 (some (.int (i : Int)))) H' (.str (txt ((r.drop i).take m.length))) :=
        ev_is (ev_slS (ev_var rfl) (eo_some (ev_var rfl)) (eo_some (ev_op (ev_var rfl) (ev_fld (ev_var rfl) (eH _ _ hx) cl (na "width" (by simp)) (gF_width _ _ _)) rv_I0)) (by rw [txt_len]; omega)) (by rw [cut_mid hiw])
      refine q_unp2 (K := K) (x := .int ((2 ^ (wordsL z.cps.toList (openM m).length).idxOf (vw (openM m) r i) : Nat) : Int)) (y := .int ((barN far (wordsL z.cps.toList (openM m).length) (vw (openM m) r i) : Nat) : Int)) (er_of (R := fun v H1 => v = .ref t ∧ Ex H H1) (ev_dget (k := ksT ((r.drop i).take m.length)) (ev_fld (ev_var rfl) (eH _ _ hx) cl (na "bits" (by simp)) (gF_bits _ _ _)) sl (eH _ _ hd) h1) fun H1 e => ⟨rfl, eH.trans e⟩) (fun v H1 _ rr => ⟨t, rr.1, st_of (rr.2 _ _ h2)⟩) fun H4 e34 => ?_
      refine s_aug rfl (ev_var rfl) fun H5 e5 => ?_
      have tk : (vws (openM m) m.length r).take (i + 1) = (vws (openM m) m.length r).take i ++ [vw (openM m) r i] := by
        unfold vws
        rw [List.take_succ, List.getElem?_map, List.getElem?_range (by omega)]
        rfl
      exact ⟨(eH.trans e34).trans e5, _, _, _, by rw [tk, brs_snoc, ← or_nat]; rfl⟩
    · obtain ⟨eH, x3, x4, x5, rfl⟩ := hp
      rw [List.take_of_length_le (by unfold vws; rw [List.length_map, List.length_range]; omega)]
      refine ⟨_, rfl, _, rfl, by show 2 ≤ sizeLine; decide, fun t nt => ⟨by show 1 ≤ sizeLine; decide, fun p np => ?_⟩⟩
      refine q p _ _ ((eH.trans (Ex.new nt)).trans (Ex.new np)) (fresh_back (eH.trans (Ex.new nt)) np) upd_same ?_
      have z0 : Prs (barM far m z) (upd (upd H' t (.tup [.str (txt r), .int ((brs far (wordsL z.cps.toList (openM m).length) (vws (openM m) m.length r) : Nat) : Int)])) p (.lst [.ref t])) ([] ++ [.ref t]) ([] ++ [r]) := .snoc .nil ((Ex.new np) _ _ upd_same)
      exact z0
theorem ok_longer (T : Top K mg CM CG fG a_SMALL_WIDTH a_SMALL_SEEN) : ∃ g fd, Meth K CG "longer" g ∧ FnOk P w K mg base CX0 1 g fd p_Growth_longer (spLonger K CG) ∧ Binds K fd p_Growth_longer [] := by
  obtain ⟨g, fd, mt, F, b_⟩ := T.t_Growth_longer
  have cl := T.c_Growth.cl
  have na := T.c_Growth.na
  refine ⟨g, fd, mt, F.ok sc_Growth_longer (fun vs H Q E h => ?_) (fun cdv A outer s H vs Q E hr h => ?_), b_⟩
  · obtain ⟨x, a, m, z, far, xs, rs, rfl, _⟩ := h
    rfl
  · obtain ⟨x, a, m, z, far, xs, rs, rfl, hm, hz4, ⟨dx, d, kvs, hx, hd, hb⟩, ha, hp, hr_, hT, q⟩ := h
    have l1 := isMask_len hm
    have hl : ∀ p ∈ openM m, p < m.length := fun p hp => open_lt hp
    have hlen := hp.len
    obtain ⟨sg_, hsg⟩ : ∃ sg_, z.cps.toList = sg_ := ⟨_, rfl⟩
    have hzl := len_l z
    rw [hsg] at hb hr_ hT q hzl
    obtain ⟨B, hB⟩ : ∃ B, barM far m z = B := ⟨_, rfl⟩
    have eB : ∀ r, B r = brs far (wordsL sg_ (openM m).length) (vws (openM m) m.length r) := fun r => by
      rw [← hB, ← hsg]
      rfl
    unfold PrsM at hp q
    rw [hB] at hp q
    refine ⟨_, (pss_cons (ps_set (i := 2) sc_Growth_longer.nd rfl (Or.inl rfl) (pe_lst pa_nil))
      (pss_cons (ps_for PassesOwn.never rfl (pi_list (pv 1)) (pg_tup (by rfl) (pgs_cons (pg_name (i := 3) sc_Growth_longer.nd rfl (Or.inl rfl)) (pgs_cons (pg_name (i := 4) sc_Growth_longer.nd rfl (Or.inl rfl)) pgs_nil))) (pss_one (ps_for PassesOwn.never rfl (pi_str (pe_fld (pv 0) rfl)) (pg_name (i := 5) sc_Growth_longer.nd rfl (Or.inl rfl)) (pss_cons (ps_set (i := 6) sc_Growth_longer.nd rfl (Or.inl rfl) (pe_op op_add_str (pv 3) (pv 5)))
      (pss_cons (ps_asg (pe_dget2 (Nat.lt_of_le_of_lt (Nat.add_le_add_left (by decide) _) hr.units) (pe_fld (pv 0) rfl) (pe_slice sl_str (pv 6) (po_some (pe_un un_neg (pe_fld (pv 0) rfl))) po_none) (pe_tup (pa_cons pe_int (pa_cons pe_int pa_nil))) ⟨rfl, rfl, rfl, rfl⟩) (pg_tup (by rfl) (pgs_cons (pg_name (i := 7) sc_Growth_longer.nd rfl (Or.inl rfl)) (pgs_cons (pg_name (i := 8) sc_Growth_longer.nd rfl (Or.inl rfl)) pgs_nil))))
      (pss_one (ps_if (pt_not (pt_truth (pe_op op_and (pv 4) (pv 7)) (by intro _; rfl))) (pss_one (ps_expr (pe_bm PySem.F.plainAttrs_list PySem.F.slot_list_append PySem.F.type_list_append mt_append (pv 2) (pa_cons (pe_tup (pa_cons (pv 6) (pa_cons (pe_op op_or (pv 4) (pv 8)) pa_nil))) pa_nil)))) pss_nil)))))))
      (pss_one (ps_ret (pv 2))))), ?_⟩
    refine q_asgL (xs := []) (el_lst ea_nil (by simp)) fun D H1 nD e1 hD => ?_
    refine s_forL (D := { nx := _, rt := _, bk := _, ct := _ }) (xs := xs) (ev_var rfl) (sq_of (e1 _ _ ha)) (fun i σ' H' => Ex H H' ∧ ∃ ys x3 x4 x5 x6 x7 x8, H' D = some (.lst ys) ∧ Prs B H' ys ((rs.take i).flatMap (stp far sg_ (openM m) m.length)) ∧ σ' = [some (.ref x), some (.ref a), some (.ref D), x3, x4, x5, x6, x7, x8])
      (fun H2 e2 => ⟨e1.trans e2, [], _, _, _, _, _, _, e2 _ _ hD, .nil, rfl⟩) (fun i σ' H' _ pp => sq_of (pp.1 _ _ ha)) (fun i y σ' H' hy pp => ?_) (fun σ' H' pp => ?_)
    · obtain ⟨eH, ys, x3, x4, x5, x6, x7, x8, hD', hq, rfl⟩ := pp
      obtain ⟨t, hri, rfl, ht⟩ := hp.get hy
      obtain ⟨r, hrd⟩ : ∃ r, rs.getD i [] = r := ⟨_, rfl⟩
      rw [hrd] at hri ht
      obtain ⟨g1, g2, g3⟩ := hr_ r (List.mem_of_getElem? hri)
      have hi := (List.getElem?_eq_some_iff.mp hri).1
      have tk : rs.take (i + 1) = rs.take i ++ [r] := by
        rw [List.take_succ, hri]
        rfl
      have tot : ((rs.take i).flatMap (stp far sg_ (openM m) m.length)).length + (stp far sg_ (openM m) m.length r).length ≤ 8388608 := by
        refine Nat.le_trans ?_ hT
        conv => rhs; rw [← List.take_append_drop (i + 1) rs, tk, List.flatMap_append, List.flatMap_append, List.flatMap_singleton]
        rw [List.length_append, List.length_append]
        omega
      refine ⟨t, _, rfl, st_of (eH _ _ ht), rfl, _, _, rfl, _, _, rfl, rfl, ?_⟩
      dsimp only [gName]
      refine s_forS (z := z) (ev_fld (ev_var rfl) (eH _ _ hx) cl (na "signs" (by simp)) (gF_signs _ _ _)) (fun k σ' H2 => Ex H H2 ∧ ∃ ys x5 x6 x7 x8, H2 D = some (.lst ys) ∧ Prs B H2 ys ((rs.take i).flatMap (stp far sg_ (openM m) m.length) ++ ((sg_.take k).filter fun c => decide (ap far (vws (openM m) m.length (r ++ [c])))).map fun c => r ++ [c]) ∧
        σ' = [some (.ref x), some (.ref a), some (.ref D), some (.str (txt r)), some (.int ((B r : Nat) : Int)), x5, x6, x7, x8])
        (fun H2 e2 => ⟨eH.trans e2, ys, _, _, _, _, e2 _ _ hD', by rw [List.take_zero]; simpa using hq.ex e2, rfl⟩) (fun k σ' H2 hk pp => ?_) (fun σ' H2 pp => ?_)
      · obtain ⟨eH2, ys, x5, x6, x7, x8, hD2, hq2, rfl⟩ := pp
        obtain ⟨c, hc⟩ : ∃ c, z.cps.toList.getD k 0 = c := ⟨_, rfl⟩
        have hck : sg_[k]? = some c := by
          rw [← hsg, ← hc, List.getD_eq_getElem?_getD, List.getElem?_eq_getElem (by rw [len_l]; exact hk)]
          rfl
        have hcm := List.mem_of_getElem? hck
        have tk2 : sg_.take (k + 1) = sg_.take k ++ [c] := by
          rw [List.take_succ, hck]
          rfl
        have hmore : ∀ d ∈ r ++ [c], d ∈ sg_ := fun d hd => by
          rcases List.mem_append.mp hd with z | z
          · exact g1 d z
          · rw [List.mem_singleton.mp z]; exact hcm
        unfold sg
        rw [hc]
        refine q_asg (v := .str (txt (r ++ [c]))) (by rw [← txt_snoc]; exact ev_op (ev_var rfl) (ev_var rfl) (rv_addS (by rw [txt_len]; show r.length + 1 ≤ _; omega))) fun H3 e3 => ?_
        have sl : Ev (tSl rSlS (tVar 6) (tPart (tUn (rU fun i => V.int (-i)) (tFld K (tVar 0) "width"))) tNoPart) (((([some (.ref x), some (.ref a), some (.ref D), some (.str (txt r)), some (.int ((B r : Nat) : Int)), x5, x6, x7, x8] : L2.St).set 5 (some (.str ⟨#[c]⟩))).set 6 (some (.str (txt (r ++ [c])))))) H3 (.str (txt ((r ++ [c]).drop ((r ++ [c]).length - m.length)))) :=
          ev_is (ev_slS (ev_var rfl) (eo_some (ev_un (ev_fld (ev_var rfl) ((eH2.trans e3) _ _ hx) cl (na "width" (by simp)) (gF_width _ _ _)) ru_neg)) eo_none (by rw [txt_len, List.length_append]; show r.length + 1 ≤ _; omega)) (by rw [cut_neg (by omega)])
        refine q_unp2 (K := K) (x := .int ((bt (wordsL sg_ (openM m).length) (openM m) m.length (r ++ [c]) : Nat) : Int)) (y := .int ((nr far (wordsL sg_ (openM m).length) (openM m) m.length (r ++ [c]) : Nat) : Int)) (er_dget2 (k := ksT ((r ++ [c]).drop ((r ++ [c]).length - m.length))) (ev_fld (ev_var rfl) ((eH2.trans e3) _ _ hx) cl (na "bits" (by simp)) (gF_bits _ _ _)) sl (eu_tup (ea_cons ev_c (ea_cons ev_c ea_nil)) (by simp)) ((eH2.trans e3) _ _ hd)) (fun v G eG rr => ?_) fun H4 e4 => ?_
        · obtain ⟨t0, h04, rfl⟩ := rr
          obtain ⟨tb, htb, htb2⟩ := bit_pair hl (hb.ex ((eH2.trans e3).trans eG)) hmore h04
          exact ⟨tb, htb, st_of htb2⟩
        have e24 := e3.trans e4
        have eH4 := eH2.trans e24
        have hD4 := e24 _ _ hD2
        have hq4 := hq2.ex e24
        have key := fits (far := far) (sg := sg_) hl g2 hmore
        rw [← eB] at key
        obtain ⟨VS, hVS⟩ : ∃ VS, wordsL sg_ (openM m).length = VS := ⟨_, rfl⟩
        rw [hVS] at key ⊢
        have yl : ys.length < sizeLine := by
          rw [hq2.len, List.length_append, List.length_map, sizeLine_eq]
          have z1 : (((sg_.take k).filter fun c => decide (ap far (vws (openM m) m.length (r ++ [c]))))).length ≤ (sg_.take k).length := List.length_filter_le _ _
          rw [List.length_take] at z1
          omega
        refine s_when (b := !(decide (B r &&& bt VS (openM m) m.length (r ++ [c]) ≠ 0))) (et_not ?_) (fun hb2 H5 e5 => ?_) (fun hb2 H5 e5 => ?_)
        · intro G eG Q2 q2
          refine ev_op (ev_var rfl) (ev_var rfl) rv_I0 G eG _ fun G2 eG2 => ⟨_, rfl, ?_⟩
          rw [and_nat]
          have ek : (((B r &&& bt VS (openM m) m.length (r ++ [c]) : Nat) : Int) != 0) = decide (B r &&& bt VS (openM m) m.length (r ++ [c]) ≠ 0) := by
            exact Bool.eq_iff_iff.mpr (by simp)
          rw [ek]
          exact q2 G2 eG2
        · have hz0 : B r &&& bt VS (openM m) m.length (r ++ [c]) = 0 := by simpa using hb2
          have nd := key.mp hz0
          refine s_appUB (e5 _ _ hD4) (ev_var rfl) (eu_tup (ea_cons (ev_var rfl) (ea_cons (ev_is (w := .int ((B (r ++ [c]) : Nat) : Int)) (ev_op (ev_var rfl) (ev_var rfl) rv_I0) (by rw [or_nat, eB (r ++ [c]), eB r, brs_step hl, hVS])) ea_nil)) (by simp)) yl fun p H6 np e6 hp6 => ?_
          have hD6 := e6 _ _ (e5 _ _ hD4)
          refine ⟨Ex.mut ((eH4.trans e5).trans e6) nD, _, _, _, _, _, upd_same, ?_, rfl⟩
          rw [tk2, List.filter_append, List.filter_cons_of_pos (p := fun c => decide (ap far (vws (openM m) m.length (r ++ [c])))) (by exact decide_eq_true nd), List.filter_nil, List.map_append, ← List.append_assoc]
          exact .snoc ((hq4.ex (e5.trans e6)).upd hD6) (by rw [upd_ne (ne_of hp6 hD6 (by intro z; cases z))]; exact hp6)
        · have hz0 : ¬ ap far (vws (openM m) m.length (r ++ [c])) := fun nd => by
            have := key.mpr nd
            rw [this] at hb2
            cases hb2
          refine ⟨eH4.trans e5, ys, _, _, _, _, e5 _ _ hD4, ?_, rfl⟩
          rw [tk2, List.filter_append, List.filter_cons_of_neg (p := fun c => decide (ap far (vws (openM m) m.length (r ++ [c])))) (by simpa using hz0), List.filter_nil, List.append_nil]
          exact hq4.ex e5
      · obtain ⟨eH2, ys, x5, x6, x7, x8, hD2, hq2, rfl⟩ := pp
        refine ⟨eH2, ys, _, _, _, _, _, _, hD2, ?_, rfl⟩
        rw [tk, List.flatMap_append, List.flatMap_singleton]
        rw [List.take_of_length_le (l := sg_) (i := z.length) (by omega)] at hq2
        exact hq2
    · obtain ⟨eH, ys, x3, x4, x5, x6, x7, x8, hD', hq, rfl⟩ := pp
      rw [hlen, List.take_length] at hq
      refine s_ret (ev_var rfl) fun H2 e2 => q D ys H2 (eH.trans e2) nD (e2 _ _ hD') ?_
      exact hq.ex e2
end
end K13
namespace K13
open PySem PySem.Spec PyProof.Rows L2 Evl Qt
def SW (n : Nat) : Nat := if n = 1 then 12 else if n = 2 then 8 else if n = 3 then 5 else 4
def SS (n : Nat) : Nat := if n = 1 then 12 else if n = 2 then 4 else if n = 3 then 2 else 1
def SmallM (m : Str) (n : Nat) : Prop := isMask m = true ∧ 1 ≤ n ∧ n ≤ 4 ∧ m.length ≤ SW n ∧ (openM m).length ≤ SS n
theorem SmallM.words {m : Str} {n : Nat} (h : SmallM m n) : n ^ m.length ≤ 1100 := by
  obtain ⟨_, h1, h4, hw, _⟩ := h
  refine Nat.le_trans (Nat.pow_le_pow_right h1 hw) ?_
  have : n = 1 ∨ n = 2 ∨ n = 3 ∨ n = 4 := by omega
  rcases this with rfl | rfl | rfl | rfl <;> decide
theorem SmallM.rows {m : Str} {n : Nat} (h : SmallM m n) : n ^ (n ^ (openM m).length + m.length - 1) ≤ 8388608 := by
  obtain ⟨_, h1, h4, hw, hs⟩ := h
  have e : n ^ (openM m).length ≤ n ^ SS n := Nat.pow_le_pow_right h1 hs
  refine Nat.le_trans (Nat.pow_le_pow_right h1 (show _ ≤ n ^ SS n + SW n - 1 by omega)) ?_
  have : n = 1 ∨ n = 2 ∨ n = 3 ∨ n = 4 := by omega
  rcases this with rfl | rfl | rfl | rfl <;> decide +kernel
theorem SmallM.top {m : Str} {n : Nat} (h : SmallM m n) : n ^ (openM m).length + m.length ≤ 24 := by
  obtain ⟨_, h1, h4, hw, hs⟩ := h
  have e : n ^ (openM m).length ≤ n ^ SS n := Nat.pow_le_pow_right h1 hs
  refine Nat.le_trans (Nat.add_le_add e hw) ?_
  have : n = 1 ∨ n = 2 ∨ n = 3 ∨ n = 4 := by omega
  rcases this with rfl | rfl | rfl | rfl <;> decide +kernel
/-- the rows of one length that a mask tells -/
def levM (m : Str) (n k : Nat) : List (List Nat) := lev (sgn n).cps.toList (openM m) m.length k
def TopM (m : Str) (n k : Nat) : Prop := IsTop (sgn n).cps.toList (openM m) m.length k
theorem openM_lt (m : Str) : ∀ p ∈ openM m, p < m.length := fun p hp => open_lt hp
theorem levM_small {m : Str} {n : Nat} (h : SmallM m n) (k : Nat) : (levM m n k).length ≤ 8388608 := by
  have l1 := isMask_len h.1
  have e : (sgn n).cps.toList.length = n := by rw [len_l, sgn_len h.2.2.1]
  exact lev_small l1.1 (openM_lt m) k (by rw [e]; exact h.2.1) (by rw [e]; exact h.rows)
theorem levM_each {m : Str} {n k : Nat} (h : SmallM m n) (hk : k ≤ 100) : ∀ r ∈ levM m n k, (∀ c ∈ r, c ∈ (sgn n).cps.toList) ∧ ap 1 (vws (openM m) m.length r) ∧ r.length ≤ 100 := fun r hr => by
  obtain ⟨a, b, c⟩ := lev_each (isMask_len h.1).1 hr
  exact ⟨b, ap_one.mpr c, by omega⟩
theorem topM_le {m : Str} {n k : Nat} (h : SmallM m n) (hk : levM m n k ≠ []) : k < n ^ (openM m).length + m.length := by
  have e : (sgn n).cps.toList.length = n := by rw [len_l, sgn_len h.2.2.1]
  have z := top_lt (isMask_len h.1).1 (openM_lt m) hk
  rw [e] at z
  exact z
/-- the rows that begin with r0, their views so far apart -/
def groM (far : Nat) (m : Str) (n : Nat) (r0 : List Nat) (k : Nat) : List (List Nat) := gro far (sgn n).cps.toList (openM m) m.length r0 k
def TopF (far : Nat) (m : Str) (n : Nat) (r0 : List Nat) (k : Nat) : Prop := IsTopF far (sgn n).cps.toList (openM m) m.length r0 k
def RowOk (far : Nat) (m : Str) (n : Nat) (r0 : List Nat) : Prop := (∀ c ∈ r0, c ∈ (sgn n).cps.toList) ∧ ap far (vws (openM m) m.length r0)
theorem groM_small {far : Nat} {m : Str} {n : Nat} {r0 : List Nat} (h : SmallM m n) (hf : 1 ≤ far) (h0 : RowOk far m n r0) (k : Nat) : (groM far m n r0 k).length ≤ 8388608 := by
  have l1 := isMask_len h.1
  have e : (sgn n).cps.toList.length = n := by rw [len_l, sgn_len h.2.2.1]
  exact gro_small hf (openM_lt m) l1.1 h0.1 h0.2 k (by rw [e]; exact h.2.1) (by rw [e]; exact h.rows)
theorem groM_each {far : Nat} {m : Str} {n k : Nat} {r0 : List Nat} (h : SmallM m n) (h0 : RowOk far m n r0) (hk : r0.length + k ≤ 100) : ∀ r ∈ groM far m n r0 k, (∀ c ∈ r, c ∈ (sgn n).cps.toList) ∧ ap far (vws (openM m) m.length r) ∧ r.length ≤ 100 := fun r hr => by
  obtain ⟨a, b, c⟩ := gro_each h0.1 h0.2 hr
  exact ⟨b, c, by omega⟩
theorem topM_leF {far : Nat} {m : Str} {n k : Nat} {r0 : List Nat} (h : SmallM m n) (hf : 1 ≤ far) (h0 : RowOk far m n r0) (hk : groM far m n r0 k ≠ []) : r0.length + k < n ^ (openM m).length + m.length := by
  have e : (sgn n).cps.toList.length = n := by rw [len_l, sgn_len h.2.2.1]
  have z := topF_lt hf (openM_lt m) (isMask_len h.1).1 h0.1 h0.2 hk
  rw [e] at z
  exact z
theorem row_ok_nil {far : Nat} {m : Str} {n : Nat} (h : isMask m = true) : RowOk far m n [] := ⟨(fun c hc => by cases hc), ap_nil (isMask_len h).1⟩
def spGreat : Sp := fun vs H Q _ => ∃ (a b n : Nat), vs = [.int (a : Int), .int (b : Int), .int (n : Int)] ∧ 1 ≤ n ∧ n ≤ 4 ∧ a ≤ SW n ∧ b ≤ SS n ∧ RetV .non H Q
def spSmall : Sp := fun vs H Q _ => ∃ (m : Str) (n : Nat), vs = [.str m, .int (n : Int)] ∧ SmallM m n ∧ RetV .non H Q
def spTold : Sp := fun vs H Q _ => ∃ (m : Str) (n k : Nat), vs = [.str m, .int (n : Int), .int (k : Int)] ∧ SmallM m n ∧ k ≤ 60 ∧ RetL (tS (levM m n k)) H Q
def spFar : Sp := fun vs H Q _ => ∃ (r0 : List Nat) (m : Str) (n far : Nat), vs = [.str (txt r0), .str m, .int (n : Int), .int (far : Int)] ∧ SmallM m n ∧ 1 ≤ far ∧ RowOk far m n r0 ∧ ∀ k, TopF far m n r0 k → RetL (tS (groM far m n r0 k)) H Q
def spLongest : Sp := fun vs H Q _ => ∃ (m : Str) (n : Nat), vs = [.str m, .int (n : Int)] ∧ SmallM m n ∧ ∀ k, TopM m n k → RetV (.int (k : Int)) H Q
section
variable {P : Program} {w : World} {K : PySem.W.Frag} {mg : Str → Option Value} {base : Heap} {CM CG fG a_SMALL_WIDTH a_SMALL_SEEN : Addr}
theorem ok_great (e : Ent K mg "check_great" s_check_great p_check_great) (T : Top K mg CM CG fG a_SMALL_WIDTH a_SMALL_SEEN) : Cal P w K mg base CX0 1 "check_great" p_check_great spGreat := by
  obtain ⟨f, fd, F, m_, b_⟩ := e
  refine ⟨f, fd, F.ok sc_check_great (fun vs H Q E h => ?_) (fun cdv A outer s H vs Q E hr h => ?_), m_, F.kp, b_⟩
  · obtain ⟨a, b, n, rfl, _⟩ := h
    rfl
  · obtain ⟨a, b, n, rfl, h1, h4, ha, hb, q⟩ := h
    have g1 : KDctI K a_SMALL_WIDTH (n : Int) (.int (SW n : Int)) := by
      have : n = 1 ∨ n = 2 ∨ n = 3 ∨ n = 4 := by omega
      rcases this with rfl | rfl | rfl | rfl
      · exact T.g_SMALL_WIDTH.2 (1, 12) (by simp)
      · exact T.g_SMALL_WIDTH.2 (2, 8) (by simp)
      · exact T.g_SMALL_WIDTH.2 (3, 5) (by simp)
      · exact T.g_SMALL_WIDTH.2 (4, 4) (by simp)
    have g2 : KDctI K a_SMALL_SEEN (n : Int) (.int (SS n : Int)) := by
      have : n = 1 ∨ n = 2 ∨ n = 3 ∨ n = 4 := by omega
      rcases this with rfl | rfl | rfl | rfl
      · exact T.g_SMALL_SEEN.2 (1, 12) (by simp)
      · exact T.g_SMALL_SEEN.2 (2, 4) (by simp)
      · exact T.g_SMALL_SEEN.2 (3, 2) (by simp)
      · exact T.g_SMALL_SEEN.2 (4, 1) (by simp)
    refine ⟨_, (pss_one (ps_if (PW.pt (pw_or (pt_cmpR op_gt (pv 0) (pe_ix ix_kdictI (pe_glob (v := .ref a_SMALL_WIDTH) (by rfl) T.g_SMALL_WIDTH.1 rfl) (pv 2) (fun _ _ => rfl)) (nomark _)) (pw_or1 (pt_cmpR op_gt (pv 1) (pe_ix ix_kdictI (pe_glob (v := .ref a_SMALL_SEEN) (by rfl) T.g_SMALL_SEEN.1 rfl) (pv 2) (fun _ _ => rfl)) (nomark _))))) (pss_one ps_never) pss_nil)), ?_⟩
    refine s_when (b := decide ((SW n : Int) < (a : Int)) || decide ((SS n : Int) < (b : Int))) (et_or (et_test (ev_op (ev_var rfl) (ev_op ev_c (ev_var rfl) (fun H1 _ Q q => ⟨_, _, _, rfl, rfl, g1, q H1 (Ex.refl _)⟩)) rv_I0)) fun _ => et_test (ev_op (ev_var rfl) (ev_op ev_c (ev_var rfl) (fun H1 _ Q q => ⟨_, _, _, rfl, rfl, g2, q H1 (Ex.refl _)⟩)) rv_I0)) (fun hh => ?_) (fun _ H1 e1 => q H1 e1)
    rw [decide_eq_false (by omega), decide_eq_false (by omega)] at hh
    cases hh
theorem ok_small (e : Ent K mg "check_small" s_check_small p_check_small) (T : Top K mg CM CG fG a_SMALL_WIDTH a_SMALL_SEEN) (c1 : Cal P w K mg base (L2.CX P w) 3 "check_mask" p_check_mask (spCheckMask K CM)) (c2 : Cal P w K mg base CX0 2 "check_letters" p_check_letters spLetters)
    (c3 : Cal P w K mg base CX0 1 "check_great" p_check_great spGreat) : Cal P w K mg base (L2.CX P w) 4 "check_small" p_check_small spSmall := by
  obtain ⟨f, fd, F, m_, b_⟩ := e
  obtain ⟨f_check_mask, fd_check_mask, G_check_mask, m_check_mask, k_check_mask, b_check_mask⟩ := c1
  obtain ⟨f_check_letters, fd_check_letters, G_check_letters, m_check_letters, k_check_letters, b_check_letters⟩ := c2
  obtain ⟨f_check_great, fd_check_great, G_check_great, m_check_great, k_check_great, b_check_great⟩ := c3
  refine ⟨f, fd, F.okX sc_check_small (fun vs H Q E h => ?_) (fun cdv A outer s H vs Q E hr h => ?_), m_, F.kp, b_⟩
  · obtain ⟨m, n, rfl, _⟩ := h
    rfl
  · obtain ⟨m, n, rfl, ⟨hm, h1, h4, hw, hs⟩, q⟩ := h
    have l1 := isMask_len hm
    refine ⟨_, (pss_cons (ps_expr (pe_call G_check_mask (hr.mono (by decide)) (by rfl) m_check_mask k_check_mask b_check_mask .nil (passes_call (takes_of rfl rfl rfl rfl) (fun _ _ _ _ h => h)) (pa_cons (pv 0) pa_nil)))
      (pss_cons (ps_expr (pe_call G_check_letters (hr.mono (by decide)) (by rfl) m_check_letters k_check_letters b_check_letters .nil pass0 (pa_cons (pv 1) pa_nil)))
      (pss_one (ps_expr (pe_call G_check_great (hr.mono (by decide)) (by rfl) m_check_great k_check_great b_check_great .nil pass0 (pa_cons (pe_callB call_len_str (by rfl) T.m_len (by decide +kernel) (pa_cons (pv 0) pa_nil)) (pa_cons (pe_m1 PySem.F.slot_str_count PySem.F.type_str_count mt_count (pv 0) pe_str) (pa_cons (pv 1) pa_nil)))))))), ?_⟩
    refine ⟨_, rfl, .str m, rfl, .str (by omega), fun _ H1 e1 => ?_, fun z => by rw [show isMaskV (.str m) = isMask m from rfl, hm] at z; cases z⟩
    refine ⟨_, rfl, n, rfl, h1, h4, fun H2 e2 => ?_⟩
    dsimp only [tSeq]
    refine s_drop (D := { nx := _, rt := _, bk := _, ct := _ }) (v := .non) (ev_call (ea_cons (ev_cb (ea_cons (ev_var rfl) ea_nil) (rc_lenS (z := m) (by omega))) (ea_cons (ev_is (ev_count (z := m) (c := 120) (ev_var rfl) (x_eq ▸ ev_c)) (by rw [count_range, len_l]; rfl)) (ea_cons (ev_var rfl) ea_nil))) fun H3 e3 Q2 q2 E2 => ⟨m.length, (openM m).length, n, rfl, h1, h4, hw, hs, q2⟩) fun H3 e3 => q H3 ((e1.trans e2).trans e3)
theorem small0 (c : Cal P w K mg base (L2.CX P w) 4 "check_small" p_check_small spSmall) : Cal P w K mg base CX0 4 "check_small" p_check_small spSmall := c.calm fun vs H Q E h => by
  obtain ⟨m, n, rfl, h1, q⟩ := h
  exact ⟨m, n, rfl, h1, q⟩
end
end K13
namespace K13
open PySem PySem.Spec PyProof.Rows L2 Evl Qt
theorem nb1 : ¬ (("begun" : Str) = "bits") := by decide +kernel
theorem nb2 : ¬ (("begun" : Str) = "width") := by decide +kernel
theorem nb3 : ¬ (("begun" : Str) = "signs") := by decide +kernel
theorem nl1 : ¬ (("longer" : Str) = "bits") := by decide +kernel
theorem nl2 : ¬ (("longer" : Str) = "width") := by decide +kernel
theorem nl3 : ¬ (("longer" : Str) = "signs") := by decide +kernel
theorem prs_rows {B : List Nat → Nat} {H : Hp} {xs : List V} {rs : List (List Nat)} (h : Prs B H xs rs) : (List.range xs.length).map (fun i => V.str (txt (rs.getD i []))) = tS rs := by
  rw [h.len, range_map_getD rs [] fun l => V.str (txt l)]
  rfl
theorem prs_pairs {K : PySem.W.Frag} {B : List Nat → Nat} {H : Hp} {xs : List V} {rs : List (List Nat)} (h : Prs B H xs rs) :
    ∀ i x, xs[i]? = some x → ∃ t, x = .ref t ∧ SqT K H t [V.str (txt (rs.getD i [])), V.int ((B (rs.getD i []) : Nat) : Int)] := fun i x hx => by
  obtain ⟨t, _, h2, h3⟩ := h.get hx
  exact ⟨t, h2, st_of h3⟩
section
variable {P : Program} {w : World} {K : PySem.W.Frag} {mg : Str → Option Value} {base : Heap} {CM CG fG a_SMALL_WIDTH a_SMALL_SEEN : Addr}
theorem ok_told (e : Ent K mg "told_rows" s_told_rows p_told_rows) (T : Top K mg CM CG fG a_SMALL_WIDTH a_SMALL_SEEN) (c1 : Cal P w K mg base CX0 5 "window_bits" p_window_bits (spBits K)) : Cal P w K mg base CX0 8 "told_rows" p_told_rows spTold := by
  obtain ⟨f, fd, F, m_, b_⟩ := e
  obtain ⟨fd_Growth_init, G_Growth_init, b_Growth_init⟩ := ok_ginit T c1
  obtain ⟨g_begun, fd_begun, mt_Growth_begun, G_Growth_begun, b_Growth_begun⟩ := ok_begun (P := P) (w := w) (base := base) T
  obtain ⟨g_longer, fd_longer, mt_Growth_longer, G_Growth_longer, b_Growth_longer⟩ := ok_longer (P := P) (w := w) (base := base) T
  have cl_Growth := T.c_Growth.cl
  have M_Growth := T.c_Growth.mks
  have mc_Growth := T.c_Growth.m
  refine ⟨f, fd, F.ok sc_told_rows (fun vs H Q E h => ?_) (fun cdv A outer s H vs Q E hr h => ?_), m_, F.kp, b_⟩
  · obtain ⟨m, n, k, rfl, _⟩ := h
    rfl
  · obtain ⟨m, n, k, rfl, hsm, hk, q⟩ := h
    have hm := hsm.1
    have l1 := isMask_len hm
    refine ⟨_, (pss_cons (ps_set (i := 3) sc_told_rows.nd rfl (Or.inl rfl) (pe_make M_Growth G_Growth_init (hr.mono (by decide)) (by rfl) mc_Growth b_Growth_init .nil pass0 (pa_cons (pv 0) (pa_cons (pv 1) (pa_cons pe_int pa_nil)))))
      (pss_cons (ps_set (i := 4) sc_told_rows.nd rfl (Or.inl rfl) (pe_meth (pv 3) cl_Growth mt_Growth_begun G_Growth_begun (hr.mono (by decide)) b_Growth_begun .nil pass0 (pa_cons pe_str pa_nil)))
      (pss_cons (ps_for PassesOwn.never rfl (pi_range1 (by rfl) T.m_range (pa_cons (pv 2) pa_nil)) (pg_name (i := 5) sc_told_rows.nd rfl (Or.inl rfl)) (pss_one (ps_set (i := 4) sc_told_rows.nd rfl (Or.inl rfl) (pe_meth (pv 3) cl_Growth mt_Growth_longer G_Growth_longer (hr.mono (by decide)) b_Growth_longer .nil pass0 (pa_cons (pv 4) pa_nil)))))
      (pss_one (ps_ret (pe_lc (own := [("row", 6), ("_", 5)]) (g := gTup K 2 (gCons (gName 6) (gCons (gName 5) gNil))) (by rfl) sc_told_rows.nd (pi_list (pv 4)) (blkOk_by (own := [("row", 6), ("_", 5)]) (N := n_told_rows) (sc := (defScope s_told_rows)) (by decide +kernel)) (fun _ _ _ _ _ => by exact (pg_tup rfl (pgs_cons (by exact pg_name (i := 6) sc_told_rows.nd rfl (Or.inl rfl)) (pgs_cons (by exact pg_name (i := 5) sc_told_rows.nd rfl (Or.inl rfl)) pgs_nil)))) (fun _ _ _ _ _ => pts_nil) (fun _ _ _ _ _ => (pv 6)))))))), ?_⟩
    refine ⟨_, rfl, _, rfl, fun x dx nx ndx ne => ?_⟩
    have eO : Ex H (upd (upd H dx (.own x)) x (.ins CG dx [])) := (Ex.new ndx).trans (Ex.new (by rw [upd_ne ne.symm]; exact nx))
    refine ⟨H, x, dx, m, n, 1, rfl, eO, nx, upd_same, hm, hsm.2.1, hsm.2.2.1, hsm.words, fun H1 e1 hg => ⟨rfl, ?_⟩⟩
    obtain ⟨dx1, d, kvs, hx1, hd1, hb1⟩ := hg
    refine ⟨_, rfl, x, dx1, _, rfl, hx1, gF_no _ _ _ nb1 nb2 nb3, x, m, sgn n, 1, [], by rw [nil_txt]; rfl, hm, ⟨dx1, d, kvs, hx1, hd1, hb1⟩, (fun c hc => by cases hc), by simp, fun p xs H2 e2 np hp hprs => ?_⟩
    dsimp only [gName]
    refine q_forR1 (n := (k : Int)) (j := 5) (ea_cons (ev_var rfl) ea_nil) (by omega) (fun i σ' H' => Ex H1 H' ∧ ∃ p ys x5 x6, H' p = some (.lst ys) ∧ H p = none ∧ PrsM 1 m (sgn n) H' ys (levM m n i) ∧ σ' = [some (.str m), some (.int (n : Int)), some (.int (k : Int)), some (.ref x), some (.ref p), x5, x6])
      (fun H3 e3 => ⟨e2.trans e3, p, xs, _, _, e3 _ _ hp, fresh_back e1 np, hprs.ex e3, rfl⟩) (fun i σ' H' hi pp => ?_) (fun σ' H' pp => ?_)
    · obtain ⟨eH, p, ys, x5, x6, hp, np, hprs, rfl⟩ := pp
      refine ⟨_, rfl, x, dx1, _, rfl, eH _ _ hx1, gF_no _ _ _ nl1 nl2 nl3, _, rfl, x, p, m, sgn n, 1, ys, levM m n i, rfl, hm, by rw [sgn_len hsm.2.2.1]; exact hsm.2.2.1, ⟨dx1, d, kvs, eH _ _ hx1, eH _ _ hd1, hb1.ex eH⟩, hp, hprs, levM_each hsm (by omega), levM_small hsm (i + 1), fun p2 ys2 H3 e3 np2 hp2 hprs2 => ?_⟩
      exact ⟨eH.trans e3, p2, ys2, _, _, hp2, fresh_back ((e1.trans eH)) np2, hprs2, rfl⟩
    · obtain ⟨eH, p, ys, x5, x6, hp, np, hprs, rfl⟩ := pp
      rw [Int.toNat_natCast] at hprs
      have hl := levM_small hsm k
      refine s_retL (xs := tS (levM m n k)) (el_is (el_lcP (K := K) (xs := ys) (fun i => V.str (txt ((levM m n k).getD i []))) _ (fun i => V.str (txt ((levM m n k).getD i []))) (ev_var rfl) (sq_of hp) (prs_pairs hprs) (by rw [hprs.len, sizeLine_eq]; omega) (fun _ _ => rfl) (fun i H4 e4 hi => ev_var rfl)) (prs_rows hprs)) fun p3 H4 np3 e4 hp3 => ?_
      exact q p3 H4 (fresh_back (e1.trans eH) np3) ((e1.trans eH).trans e4) hp3
end
end K13
namespace K13
open PySem PySem.Spec PyProof.Rows L2 Evl Qt
/-- the lists of rows of each length -/
def Lvs (m : Str) (n : Nat) (H : Hp) (ls : List V) (c : Nat) : Prop := ls.length = c ∧ ∀ i, i < c → ∃ q, ls[i]? = some (.ref q) ∧ H q = some (.lst (tS (levM m n i)))
theorem Lvs.ex {m : Str} {n : Nat} {H H1 : Hp} {ls : List V} {c : Nat} (h : Lvs m n H ls c) (e : Ex H H1) : Lvs m n H1 ls c :=
  ⟨h.1, fun i hi => by
    obtain ⟨q, a, b⟩ := h.2 i hi
    exact ⟨q, a, e _ _ b⟩⟩
theorem Lvs.snoc {m : Str} {n : Nat} {H : Hp} {ls : List V} {c : Nat} {R : Addr} (h : Lvs m n H ls c) (hR : H R = some (.lst (tS (levM m n c)))) : Lvs m n H (ls ++ [.ref R]) (c + 1) :=
  ⟨by rw [List.length_append, h.1]; rfl, fun i hi => by
    rcases Nat.lt_or_ge i c with hc | hc
    · obtain ⟨q, a, b⟩ := h.2 i hc
      exact ⟨q, by rw [List.getElem?_append_left (by rw [h.1]; exact hc)]; exact a, b⟩
    · obtain rfl : i = c := by omega
      exact ⟨R, by rw [List.getElem?_append_right (by rw [h.1]; exact Nat.le_refl _), h.1, Nat.sub_self]; rfl, hR⟩⟩
/-- a list that holds addresses is none of texts, so the lists of rows stay when it changes -/
theorem Lvs.upd {m : Str} {n : Nat} {H : Hp} {ls : List V} {c : Nat} {D : Addr} {o : HO} (h : Lvs m n H ls c) (hD : ∀ i q, i < c → ls[i]? = some (.ref q) → q ≠ D) : Lvs m n (upd H D o) ls c :=
  ⟨h.1, fun i hi => by
    obtain ⟨q, a, b⟩ := h.2 i hi
    exact ⟨q, a, by rw [upd_ne (hD i q hi a)]; exact b⟩⟩
theorem tS_strs (rs : List (List Nat)) : tS rs = (rs.map txt).map V.str := by
  unfold tS
  rw [List.map_map]
  rfl
theorem sgn_in {n : Nat} (h : n ≤ 4) {c : Nat} (hc : c ∈ (sgn n).cps.toList) : c ∈ [97, 98, 99, 100] := by
  rw [sgn_l h] at hc
  exact List.mem_of_mem_take hc
theorem rows_low {m : Str} {n k : Nat} (h : SmallM m n) : ∀ z ∈ (levM m n k).map txt, lowS z := fun z hz => by
  obtain ⟨r, hr, rfl⟩ := List.mem_map.mp hz
  obtain ⟨_, b, _⟩ := lev_each (isMask_len h.1).1 hr
  intro c hc
  rw [txt_l] at hc
  have := sgn_in h.2.2.1 (b c hc)
  simp only [List.mem_cons, List.not_mem_nil, or_false] at this
  omega
theorem views_vws (m : Str) (u : List Nat) : viewsM (txt u) m = (vws (openM m) m.length u).map txt := by
  unfold viewsM vws
  rw [List.map_map, txt_len]
  refine List.map_congr_left fun i _ => ?_
  show viewM (txt u) (openM m) i = txt (vw (openM m) u i)
  unfold viewM vw
  rw [txt_l]
theorem nodup_txt {l : List (List Nat)} : (l.map txt).Nodup ↔ l.Nodup := by
  constructor
  · intro h
    unfold List.Nodup at h ⊢
    rw [List.pairwise_map] at h
    exact h.imp fun hne e => hne (congrArg txt e)
  · intro h
    unfold List.Nodup at h ⊢
    rw [List.pairwise_map]
    exact h.imp fun hne e => hne (txt_inj e)
theorem el_catB {ta tb : TE} {σ : L2.St} {H : Hp} {a : Addr} {xs ys : List V} (h : Ev ta σ H (.ref a)) (ha : H a = some (.lst xs)) (hb : EvL tb σ H ys) (hz : xs.length + ys.length ≤ sizeLine) : EvL (tOp rCat ta tb) σ H (xs ++ ys) :=
  fun H0 e Q q => h H0 e _ fun H1 e1 => hb H1 (e.trans e1) _ fun p H2 np e2 hp => ⟨a, p, xs, ys, rfl, rfl, ((e.trans e1).trans e2) _ _ ha, hp, hz, fun r nr => q r _ (fresh_back (e1.trans e2) nr) ((e1.trans e2).trans (Ex.new nr)) upd_same⟩
section
variable {P : Program} {w : World} {K : PySem.W.Frag} {mg : Str → Option Value} {base : Heap} {CM CG fG a_SMALL_WIDTH a_SMALL_SEEN : Addr}
end
end K13
namespace K13
open PySem PySem.Spec PyProof.Rows L2 Evl Qt
/-! ### rings, as lists of numbers -/
def rv (l r : List Nat) (i : Nat) : List Nat := l.map fun p => r.getD ((i + p) % r.length) 0
def turnR (r : List Nat) (s : Nat) : List Nat := r.drop s ++ r.take s
def turns (r : List Nat) : List (List Nat) := (List.range r.length).map (turnR r)
def leastB (r : List Nat) : Bool := decide (r = minL (turns r))
def rt (m : Str) (r : List Nat) : Bool := decide (ringM (txt r) m).Nodup
theorem nodup_range {α : Type} {n : Nat} {f : Nat → α} : ((List.range n).map f).Nodup ↔ ∀ i j, i < n → j < n → f i = f j → i = j := by
  unfold List.Nodup
  rw [List.pairwise_map, List.pairwise_iff_getElem]
  constructor
  · intro h i j hi hj e
    rcases Nat.lt_trichotomy i j with q | q | q
    · have := h i j (by rw [List.length_range]; exact hi) (by rw [List.length_range]; exact hj) q
      rw [List.getElem_range, List.getElem_range] at this
      exact absurd e this
    · exact q
    · have := h j i (by rw [List.length_range]; exact hj) (by rw [List.length_range]; exact hi) q
      rw [List.getElem_range, List.getElem_range] at this
      exact absurd e.symm this
  · intro h i j hi hj hij
    rw [List.length_range] at hi hj
    rw [List.getElem_range, List.getElem_range]
    intro e
    have := h i j hi hj e
    omega
theorem rt_iff {m : Str} {r : List Nat} : rt m r = true ↔ ∀ i j, i < r.length → j < r.length → rv (openM m) r i = rv (openM m) r j → i = j := by
  unfold rt
  rw [decide_eq_true_eq]
  have e : ringM (txt r) m = (List.range r.length).map fun i => txt (rv (openM m) r i) := by
    unfold ringM
    rw [txt_len]
    refine List.map_congr_left fun i _ => ?_
    unfold ringV rv
    rw [txt_l, txt_len]
  rw [e, nodup_range]
  exact forall_congr' fun i => forall_congr' fun j => forall_congr' fun _ => forall_congr' fun _ => ⟨fun h e => h (by rw [e]), fun h e => h (txt_inj e)⟩
theorem turn_len {r : List Nat} {s : Nat} (h : s ≤ r.length) : (turnR r s).length = r.length := by
  unfold turnR
  rw [List.length_append, List.length_drop, List.length_take]
  omega
theorem turn_get {r : List Nat} {s j : Nat} (hs : s < r.length) (hj : j < r.length) : (turnR r s).getD j 0 = r.getD ((j + s) % r.length) 0 := by
  unfold turnR
  rw [List.getD_eq_getElem?_getD, List.getD_eq_getElem?_getD]
  congr 1
  by_cases h : j < r.length - s
  · rw [List.getElem?_append_left (by rw [List.length_drop]; exact h), List.getElem?_drop, Nat.mod_eq_of_lt (by omega), Nat.add_comm]
  · rw [List.getElem?_append_right (by rw [List.length_drop]; omega), List.length_drop, List.getElem?_take, if_pos (by omega)]
    congr 1
    have e : j + s = (j - (r.length - s)) + r.length := by omega
    rw [e, Nat.add_mod_right, Nat.mod_eq_of_lt (by omega)]
theorem turn_rv {l r : List Nat} {s i : Nat} (hs : s < r.length) : rv l (turnR r s) i = rv l r ((i + s) % r.length) := by
  unfold rv
  refine List.map_congr_left fun p _ => ?_
  have h0 : 0 < r.length := by omega
  rw [turn_len (by omega), turn_get hs (Nat.mod_lt _ h0)]
  congr 1
  rw [Nat.mod_add_mod, Nat.mod_add_mod]
  congr 1
  omega
theorem rt_turn {m : Str} {r : List Nat} {s : Nat} (hs : s < r.length) (h : rt m r = true) : rt m (turnR r s) = true := by
  rw [rt_iff] at h ⊢
  rw [turn_len (by omega)]
  intro i j hi hj e
  rw [turn_rv hs, turn_rv hs] at e
  have h0 : 0 < r.length := by omega
  have := h _ _ (Nat.mod_lt _ h0) (Nat.mod_lt _ h0) e
  by_cases h1 : i + s < r.length <;> by_cases h2 : j + s < r.length
  · rw [Nat.mod_eq_of_lt h1, Nat.mod_eq_of_lt h2] at this
    omega
  · rw [Nat.mod_eq_of_lt h1, show j + s = (j + s - r.length) + r.length by omega, Nat.add_mod_right, Nat.mod_eq_of_lt (by omega)] at this
    omega
  · rw [Nat.mod_eq_of_lt h2, show i + s = (i + s - r.length) + r.length by omega, Nat.add_mod_right, Nat.mod_eq_of_lt (by omega)] at this
    omega
  · rw [show i + s = (i + s - r.length) + r.length by omega, show j + s = (j + s - r.length) + r.length by omega, Nat.add_mod_right, Nat.add_mod_right, Nat.mod_eq_of_lt (by omega), Nat.mod_eq_of_lt (by omega)] at this
    omega
/-- what is told round is told along -/
theorem rt_told {m : Str} {r : List Nat} (hw : 1 ≤ m.length) (h : rt m r = true) : (vws (openM m) m.length r).Nodup := by
  rw [rt_iff] at h
  unfold vws
  rw [nodup_range]
  intro i j hi hj e
  have key : ∀ k, k < r.length + 1 - m.length → vw (openM m) r k = rv (openM m) r k := fun k hk => by
    unfold vw rv
    refine List.map_congr_left fun p hp => ?_
    have := open_lt hp
    rw [Nat.mod_eq_of_lt (by omega)]
  rw [key i hi, key j hj] at e
  exact h i j (by omega) (by omega) e
theorem flat_filter {α β : Type} (q : α → Bool) (g : α → List β) (h : ∀ a, q a = false → g a = []) : ∀ l : List α, (l.filter q).flatMap g = l.flatMap g
  | [] => rfl
  | a :: l => by
    cases hq : q a with
    | true => rw [List.filter_cons_of_pos hq, List.flatMap_cons, List.flatMap_cons, flat_filter q g h l]
    | false => rw [List.filter_cons_of_neg (by rw [hq]; exact Bool.false_ne_true), List.flatMap_cons, h a hq, List.nil_append, flat_filter q g h l]
theorem filter_flat {α β : Type} (p : β → Bool) (g : α → List β) : ∀ l : List α, (l.flatMap g).filter p = l.flatMap fun a => (g a).filter p
  | [] => rfl
  | a :: l => by rw [List.flatMap_cons, List.flatMap_cons, List.filter_append, filter_flat p g l]
theorem told_back {m : Str} {r : List Nat} {c : Nat} (h : (vws (openM m) m.length (r ++ [c])).Nodup) : (vws (openM m) m.length r).Nodup := by
  rw [vws_snoc (openM_lt m)] at h
  exact (List.nodup_append.mp h).1
theorem lev_words {m : Str} (hw : 1 ≤ m.length) (sg : List Nat) : ∀ k, lev sg (openM m) m.length k = (wordsL sg k).filter fun u => decide (vws (openM m) m.length u).Nodup
  | 0 => by
    show [[]] = List.filter _ [[]]
    rw [List.filter_cons_of_pos (by rw [vws_nil hw]; rfl)]
    rfl
  | k + 1 => by
    have e : wordsL sg (k + 1) = (wordsL sg k).flatMap fun w => sg.map fun c => w ++ [c] := rfl
    rw [lev_succ, lev_words hw sg k, e, filter_flat]
    have f := flat_filter (fun u => decide (vws (openM m) m.length u).Nodup) (stp 1 sg (openM m) m.length) (fun a ha => by
      rw [stp_one, List.map_eq_nil_iff, List.filter_eq_nil_iff]
      intro c _ h
      have := told_back (of_decide_eq_true h)
      rw [decide_eq_true this] at ha
      cases ha) (wordsL sg k)
    rw [f]
    refine congrArg (fun g => List.flatMap g (wordsL sg k)) (funext fun a => ?_)
    rw [stp_one, List.filter_map]
    rfl
/-- the rings of one length in their order: of the rows that are told, or of all rows -/
def ringsL (m : Str) (n k : Nat) : List (List Nat) := (wordsL (sgn n).cps.toList k).filter (rt m)
theorem rings_lev {m : Str} (hw : 1 ≤ m.length) (n k : Nat) : (levM m n k).filter (rt m) = ringsL m n k := by
  unfold levM ringsL
  rw [lev_words hw, List.filter_filter]
  refine List.filter_congr fun u _ => ?_
  cases h : rt m u with
  | true => rw [decide_eq_true (rt_told hw h)]; rfl
  | false => rfl
theorem app_lt : ∀ {a b : List Nat} {x y : List Nat}, a.length = b.length → a < b → a ++ x < b ++ y
  | [], [], _, _, _, h => absurd h (List.lt_irrefl _)
  | [], _ :: _, _, _, h, _ => by cases h
  | _ :: _, [], _, _, h, _ => by cases h
  | c :: a, d :: b, x, y, hl, h => by
    rw [List.cons_append, List.cons_append, List.cons_lt_cons_iff]
    rw [List.cons_lt_cons_iff] at h
    rcases h with h | ⟨h1, h2⟩
    · exact .inl h
    · exact .inr ⟨h1, app_lt (by simpa using hl) h2⟩
theorem app_lt2 {c d : Nat} (h : c < d) : ∀ a : List Nat, a ++ [c] < a ++ [d]
  | [] => by
    rw [List.nil_append, List.nil_append, List.cons_lt_cons_iff]
    exact .inl h
  | e :: a => by
    rw [List.cons_append, List.cons_append, List.cons_lt_cons_iff]
    exact .inr ⟨rfl, app_lt2 h a⟩
theorem words_sorted {sg : List Nat} (h : sg.Pairwise (· < ·)) : ∀ n, (wordsL sg n).Pairwise (· < ·)
  | 0 => by simp [wordsL]
  | n + 1 => by
    unfold wordsL
    rw [List.pairwise_flatMap]
    refine ⟨fun a _ => ?_, ?_⟩
    · rw [List.pairwise_map]
      exact h.imp fun hcd => app_lt2 hcd a
    · refine (words_sorted h n).imp_of_mem fun {a b} ha hb hab x hx y hy => ?_
      obtain ⟨c, _, rfl⟩ := List.mem_map.mp hx
      obtain ⟨d, _, rfl⟩ := List.mem_map.mp hy
      exact app_lt (by rw [(words_each ha).1, (words_each hb).1]) hab
theorem sgn_sorted {n : Nat} (h : n ≤ 4) : (sgn n).cps.toList.Pairwise (· < ·) := by
  rw [sgn_l h]
  exact List.Pairwise.sublist (List.take_sublist ..) (by decide)
theorem turn_in {S : List Nat} {r : List Nat} {s : Nat} (h : ∀ c ∈ r, c ∈ S) : ∀ c ∈ turnR r s, c ∈ S := fun c hc => by
  unfold turnR at hc
  rcases List.mem_append.mp hc with q | q
  · exact h c (List.mem_of_mem_drop q)
  · exact h c (List.mem_of_mem_take q)
/-- the first of the rings is a least one -/
theorem first_least {m : Str} {n k : Nat} {r : List Nat} {t : List (List Nat)} (h4 : n ≤ 4) (hk : 1 ≤ k) (h : ringsL m n k = r :: t) : leastB r = true := by
  have hm : r ∈ ringsL m n k := by rw [h]; exact List.mem_cons_self
  obtain ⟨hw, hr⟩ := List.mem_filter.mp hm
  obtain ⟨hl, hs⟩ := words_each hw
  have srt : (ringsL m n k).Pairwise (· < ·) := (words_sorted (sgn_sorted h4) _).sublist (List.filter_sublist ..)
  rw [h] at srt
  unfold leastB
  rw [decide_eq_true_eq]
  have t0 : turns r = turnR r 0 :: ((List.range (r.length - 1)).map fun i => turnR r (i + 1)) := by
    unfold turns
    obtain ⟨j, hj⟩ : ∃ j, r.length = j + 1 := ⟨r.length - 1, by omega⟩
    rw [hj, List.range_succ_eq_map, List.map_cons, List.map_map]
    rfl
  have z0 : turnR r 0 = r := by unfold turnR; simp
  rw [t0]
  refine (minL_is _ _ (by rw [z0]; exact List.mem_cons_self) fun e he => ?_).symm
  rw [← t0] at he
  obtain ⟨s, hs', rfl⟩ := List.mem_map.mp he
  have hs'' := List.mem_range.mp hs'
  have mem : turnR r s ∈ ringsL m n k := List.mem_filter.mpr ⟨words_mem _ _ (by rw [turn_len (by omega), hl]) (turn_in hs), rt_turn hs'' hr⟩
  rw [h] at mem
  rcases List.mem_cons.mp mem with q | q
  · exact .inl q
  · exact .inr ((List.pairwise_cons.mp srt).1 _ q)
theorem filter_head {p q : List Nat → Bool} : ∀ {l : List (List Nat)} {x : List Nat} {t : List (List Nat)}, l.filter p = x :: t → q x = true → ∃ t', l.filter (fun u => q u && p u) = x :: t'
  | [], _, _, h, _ => by cases h
  | a :: l, x, t, h, hq => by
    cases hp : p a with
    | true =>
      rw [List.filter_cons_of_pos hp] at h
      injection h with h1 h2
      subst h1
      exact ⟨_, List.filter_cons_of_pos (by rw [hq, hp]; rfl)⟩
    | false =>
      rw [List.filter_cons_of_neg (by rw [hp]; exact Bool.false_ne_true)] at h
      obtain ⟨t', e⟩ := filter_head h hq
      exact ⟨t', by rw [List.filter_cons_of_neg (by rw [hp, Bool.and_false]; exact Bool.false_ne_true)]; exact e⟩
theorem filter_first {p : List Nat → Bool} : ∀ {l : List (List Nat)} {j : Nat}, j < l.length → (∀ k, k < j → p (l.getD k []) = false) → p (l.getD j []) = true → ∃ t, l.filter p = l.getD j [] :: t
  | [], _, h, _, _ => by cases h
  | a :: l, 0, _, _, hp => ⟨_, List.filter_cons_of_pos hp⟩
  | a :: l, j + 1, h, hn, hp => by
    have h0 : p a = false := hn 0 (Nat.succ_pos _)
    obtain ⟨t, e⟩ := filter_first (l := l) (j := j) (by simpa using h) (fun k hk => hn (k + 1) (by omega)) hp
    exact ⟨t, by rw [List.filter_cons_of_neg (by rw [h0]; exact Bool.false_ne_true)]; exact e⟩
theorem filter_none {p : List Nat → Bool} {l : List (List Nat)} (h : ∀ k, k < l.length → p (l.getD k []) = false) : l.filter p = [] := by
  rw [List.filter_eq_nil_iff]
  intro a ha
  obtain ⟨i, hi, rfl⟩ := List.getElem_of_mem ha
  have := h i hi
  rw [List.getD_eq_getElem?_getD, List.getElem?_eq_getElem hi] at this
  rw [show p l[i] = false from this]
  exact Bool.false_ne_true
/-- the first ring of the greatest length of at most k letters -/
def lring (m : Str) (n : Nat) : Nat → List Nat
  | 0 => [97]
  | 1 => [97]
  | k + 2 => match ringsL m n (k + 2) with
    | r :: _ => r
    | [] => lring m n (k + 1)
theorem lring_some {m : Str} {n k : Nat} {r : List Nat} {t : List (List Nat)} (h2 : 2 ≤ k) (h : ringsL m n k = r :: t) : lring m n k = r := by
  obtain ⟨j, rfl⟩ : ∃ j, k = j + 2 := ⟨k - 2, by omega⟩
  unfold lring
  rw [h]
theorem lring_none {m : Str} {n k : Nat} (h2 : 2 ≤ k) (h : ringsL m n k = []) : lring m n k = lring m n (k - 1) := by
  obtain ⟨j, rfl⟩ : ∃ j, k = j + 2 := ⟨k - 2, by omega⟩
  conv => lhs; unfold lring
  rw [h]
  rfl
end K13
namespace K13
open PySem PySem.Spec PyProof.Rows L2 Evl Qt
def spCViews : Sp := fun vs H Q _ => ∃ (m : Str) (n : Nat), vs = [.str m, .int (n : Int)] ∧ SmallM m n ∧ RetV (.int ((n ^ (openM m).length : Nat) : Int)) H Q
def spLeast : Sp := fun vs H Q _ => ∃ r : List Nat, vs = [.str (txt r)] ∧ 1 ≤ r.length ∧ r.length ≤ 60 ∧ (∀ c ∈ r, c < 256) ∧ RetV (.bl (leastB r)) H Q
def spLRing : Sp := fun vs H Q _ => ∃ (m : Str) (n : Nat), vs = [.str m, .int (n : Int)] ∧ SmallM m n ∧ RetV (.str (txt (lring m n (n ^ (openM m).length)))) H Q
def fullL (m : Str) (n k : Nat) : List (List Nat) := (wordsL (sgn n).cps.toList k).filter fun u => leastB u && rt m u
def spFRings : Sp := fun vs H Q _ => ∃ (m : Str) (n : Nat), vs = [.str m, .int (n : Int)] ∧ SmallM m n ∧ RetL (tS (fullL m n (n ^ (openM m).length))) H Q
theorem full_lev {m : Str} (hw : 1 ≤ m.length) (n k : Nat) : (levM m n k).filter (fun u => leastB u && rt m u) = fullL m n k := by
  unfold fullL
  rw [← List.filter_filter, rings_lev hw]
  unfold ringsL
  rw [List.filter_filter]
theorem lev_low {m : Str} {n k : Nat} (h : SmallM m n) {r : List Nat} (hr : r ∈ levM m n k) : r.length = k ∧ (∀ c ∈ r, c ∈ (sgn n).cps.toList) ∧ ∀ c ∈ r, c < 256 := by
  obtain ⟨a, b, _⟩ := lev_each (isMask_len h.1).1 hr
  refine ⟨a, b, fun c hc => ?_⟩
  have := sgn_in h.2.2.1 (b c hc)
  simp only [List.mem_cons, List.not_mem_nil, or_false] at this
  omega
theorem row_abcd {n : Nat} {r : List Nat} (h4 : n ≤ 4) (h : ∀ c ∈ r, c ∈ (sgn n).cps.toList) (hl : r.length ≤ 60) : isRow (txt r) = true := isRow_of (by
  rw [txt_l]
  exact fun c hc => sgn_in h4 (h c hc)) (by rw [txt_len]; exact hl)
theorem cut_txt {u : List Nat} {k : Nat} : cutS (txt u) none (some (k : Int)) = txt (u.take k) := by
  apply str_ext
  unfold cutS
  rw [HT.sIx_none, HT.sIx_nat, List.toList_toArray, txt_l, txt_l, txt_len, List.drop_zero, Nat.sub_zero]
  rcases Nat.le_total k u.length with h | h
  · rw [Nat.min_eq_left h]
  · rw [Nat.min_eq_right h, List.take_of_length_le (Nat.le_refl _), List.take_of_length_le h]
theorem cut_from_txt {u : List Nat} {k : Nat} (h : k ≤ u.length) : cutS (txt u) (some (k : Int)) none = txt (u.drop k) := by
  apply str_ext
  unfold cutS
  rw [HT.sIx_none, HT.sIx_nat, List.toList_toArray, txt_l, txt_l, txt_len, Nat.min_eq_left h, List.take_of_length_le]
  rw [List.length_drop]
  omega
theorem turn_txt {r : List Nat} {s : Nat} (h : s ≤ r.length) : cutS (txt r) (some (s : Int)) none ++ cutS (txt r) none (some (s : Int)) = txt (turnR r s) := by
  rw [cut_txt, cut_from_txt h]
  apply str_ext
  rw [str_app, txt_l, txt_l, txt_l]
  rfl
theorem least_V {r : List Nat} : decide (V.str (txt r) = V.str (txt (minL (turns r)))) = leastB r := by
  unfold leastB
  refine decide_eq_decide.mpr ⟨fun h => ?_, fun h => by rw [← h]⟩
  injection h with h
  exact txt_inj h
theorem turns_ne {r : List Nat} (h : 1 ≤ r.length) : turns r ≠ [] := fun z => by
  have := congrArg List.length z
  unfold turns at this
  rw [List.length_map, List.length_range, List.length_nil] at this
  omega
theorem turns_low {r : List Nat} (h : ∀ c ∈ r, c < 256) : ∀ u ∈ turns r, lowS (txt u) := fun u hu => by
  obtain ⟨s, _, rfl⟩ := List.mem_map.mp hu
  intro c hc
  rw [txt_l] at hc
  unfold turnR at hc
  rcases List.mem_append.mp hc with q | q
  · exact h c (List.mem_of_mem_drop q)
  · exact h c (List.mem_of_mem_take q)
/-- row == min([row[i:] + row[:i] for i in range(..)]) -/
theorem ev_least {K : PySem.W.Frag} {σ : L2.St} {H : Hp} {a j : Nat} {vs : List Nat} {tr : TA} {r : List Nat} (h0 : σ[a]? = some (some (.str (txt r)))) (hr : EvA tr σ H [.int (r.length : Int)]) (h1 : 1 ≤ r.length) (h60 : r.length ≤ 60) (hlow : ∀ c ∈ r, c < 256)
    (hw : ∀ x, wipe ((wipe σ vs).set j (some x)) vs = wipe σ vs) (ha : ∀ x, ((wipe σ vs).set j (some x))[a]? = some (some (.str (txt r)))) (hj : ∀ x, ((wipe σ vs).set j (some x))[j]? = some (some x)) :
    Ev (tOp rEq (tVar a) (tCB (rMinG K) (tCons (tLc (iRng1 tr) (gName j) tYes (tOp (fun x y H Q => ∃ i j, x = .str i ∧ y = .str j ∧ i.length + j.length ≤ sizeLine ∧ Q (.str (i ++ j)) H) (tSl rSlS (tVar a) (tPart (tVar j)) tNoPart) (tSl rSlS (tVar a) tNoPart (tPart (tVar j)))) vs) tNil))) σ H (.bl (leastB r)) := by
  refine ev_is (ev_op (ev_var h0) (ev_minS (l := turns r) (turns_ne h1) (turns_low hlow) (el_is (el_lcRn (n := (r.length : Int)) (fun _ => true) (fun i => V.str (txt (turnR r i))) hr (by omega) hw (fun i G e hi => et_yes) (fun i G e hi _ => ?_)) ?_)) (rv_eq rfl)) (by rw [least_V])
  · have hi' : i < r.length := by omega
    refine ev_is (ev_op (ev_slS (ev_var (ha _)) (eo_some (i := (i : Int)) (ev_var (hj _))) eo_none (by rw [txt_len]; omega)) (ev_slS (ev_var (ha _)) eo_none (eo_some (i := (i : Int)) (ev_var (hj _))) (by rw [txt_len]; omega)) (rv_addS ?_)) (by rw [turn_txt (by omega)])
    rw [cut_txt, cut_from_txt (by omega), txt_len, txt_len, List.length_drop, List.length_take]
    omega
  · rw [given_all, Int.toNat_natCast]
    unfold turns
    rw [List.map_map]
    rfl
section
variable {P : Program} {w : World} {K : PySem.W.Frag} {mg : Str → Option Value} {base : Heap} {CM CG fG a_SMALL_WIDTH a_SMALL_SEEN : Addr}
theorem ok_cviews (e : Ent K mg "count_views" s_count_views p_count_views) (T : Top K mg CM CG fG a_SMALL_WIDTH a_SMALL_SEEN) (c1 : Cal P w K mg base CX0 1 "words" p_words spWords) : Cal P w K mg base CX0 2 "count_views" p_count_views spCViews := by
  obtain ⟨f, fd, F, m_, b_⟩ := e
  obtain ⟨f_words, fd_words, G_words, m_words, k_words, b_words⟩ := c1
  refine ⟨f, fd, F.ok sc_count_views (fun vs H Q E h => ?_) (fun cdv A outer s H vs Q E hr h => ?_), m_, F.kp, b_⟩
  · obtain ⟨m, n, rfl, _⟩ := h
    rfl
  · obtain ⟨m, n, rfl, hsm, q⟩ := h
    have l1 := isMask_len hsm.1
    have l2 := open_len m
    have h1 := hsm.2.1
    have h4 := hsm.2.2.1
    have hp : n ^ (openM m).length ≤ 1100 := Nat.le_trans (Nat.pow_le_pow_right h1 l2) hsm.words
    refine ⟨_, (pss_one (ps_ret (pe_callB call_len (by rfl) T.m_len (by decide +kernel) (pa_cons (pe_call G_words (hr.mono (by decide)) (by rfl) m_words k_words b_words .nil pass0 (pa_cons (pe_slice sl_str (pe_glob (v := .str (PySem.Str.ofString "abcd")) (by rfl) T.g_LETTERS.choose_spec ⟨_, rfl⟩) po_none (po_some (pv 1))) (pa_cons (pe_m1 PySem.F.slot_str_count PySem.F.type_str_count mt_count (pv 0) pe_str) pa_nil))) pa_nil)))), ?_⟩
    refine s_ret (ev_is (ev_lenL (K := K) (xs := tS (wordsL (sgn n).cps.toList (openM m).length)) (el_call (vs := [.str (sgn n), .int ((openM m).length : Int)]) (ea_cons (ev_slS (z := PySem.Str.ofString "abcd") ev_c eo_none (eo_some (i := (n : Int)) (ev_var rfl)) (by decide +kernel)) (ea_cons (ev_is (ev_count (z := m) (c := 120) (ev_var rfl) (x_eq ▸ ev_c)) (by rw [count_range, len_l]; rfl)) ea_nil)) fun G e Q q E => ⟨sgn n, (openM m).length, rfl, by rw [sgn_len h4]; exact h1, by rw [sgn_len h4]; exact h4, by omega, by rw [sgn_len h4]; exact hp, q⟩)) ?_) q
    rw [tS_len, words_len, len_l, sgn_len h4]
theorem ok_least (e : Ent K mg "is_least" s_is_least p_is_least) (T : Top K mg CM CG fG a_SMALL_WIDTH a_SMALL_SEEN) : Cal P w K mg base CX0 1 "is_least" p_is_least spLeast := by
  obtain ⟨f, fd, F, m_, b_⟩ := e
  refine ⟨f, fd, F.ok sc_is_least (fun vs H Q E h => ?_) (fun cdv A outer s H vs Q E hr h => ?_), m_, F.kp, b_⟩
  · obtain ⟨r, rfl, _⟩ := h
    rfl
  · obtain ⟨r, rfl, h1, h60, hlow, q⟩ := h
    refine ⟨_, (pss_one (ps_ret (pe_cmpR op_eq (pv 0) (pe_callB (cr_minG rfl hr.units) (by rfl) T.m_min (by decide +kernel) (pa_cons (pe_lc (own := [("start", 1)]) (g := gName 1) (by rfl) sc_is_least.nd (pi_range1 (by rfl) T.m_range (pa_cons (pe_callB call_len_str (by rfl) T.m_len (by decide +kernel) (pa_cons (pv 0) pa_nil)) pa_nil)) (blkOk_by (own := [("start", 1)]) (N := n_is_least) (sc := (defScope s_is_least)) (by decide +kernel)) (fun _ _ _ _ _ => pg_name (i := 1) sc_is_least.nd rfl (Or.inl rfl)) (fun _ _ _ _ _ => pts_nil) (fun _ _ _ _ _ => (pe_op op_add_str (pe_slice sl_str (pv 0) (po_some (pv 1)) po_none) (pe_slice sl_str (pv 0) po_none (po_some (pv 1)))))) pa_nil)) (nomark _)))), ?_⟩
    exact s_ret (ev_least (r := r) rfl (ea_cons (ev_is (ev_cb (ea_cons (ev_var rfl) ea_nil) (rc_lenS (z := txt r) (by rw [txt_len]; omega))) (by rw [txt_len])) ea_nil) h1 h60 hlow (fun _ => rfl) (fun _ => rfl) (fun _ => rfl)) q
theorem ok_frings (e : Ent K mg "full_rings" s_full_rings p_full_rings) (T : Top K mg CM CG fG a_SMALL_WIDTH a_SMALL_SEEN) (c1 : Cal P w K mg base CX0 4 "check_small" p_check_small spSmall) (c2 : Cal P w K mg base CX0 8 "told_rows" p_told_rows spTold) (c3 : Cal P w K mg base CX0 2 "count_views" p_count_views spCViews) (c4 : Cal P w K mg base CX0 1 "is_least" p_is_least spLeast) (c5 : Cal P w K mg base CX0 6 "ring_tells" p_ring_tells spRingTells) : Cal P w K mg base CX0 9 "full_rings" p_full_rings spFRings := by
  obtain ⟨f, fd, F, m_, b_⟩ := e
  obtain ⟨f_check_small, fd_check_small, G_check_small, m_check_small, k_check_small, b_check_small⟩ := c1
  obtain ⟨f_told_rows, fd_told_rows, G_told_rows, m_told_rows, k_told_rows, b_told_rows⟩ := c2
  obtain ⟨f_count_views, fd_count_views, G_count_views, m_count_views, k_count_views, b_count_views⟩ := c3
  obtain ⟨f_is_least, fd_is_least, G_is_least, m_is_least, k_is_least, b_is_least⟩ := c4
  obtain ⟨f_ring_tells, fd_ring_tells, G_ring_tells, m_ring_tells, k_ring_tells, b_ring_tells⟩ := c5
  refine ⟨f, fd, F.ok sc_full_rings (fun vs H Q E h => ?_) (fun cdv A outer s H vs Q E hr h => ?_), m_, F.kp, b_⟩
  · obtain ⟨m, n, rfl, _⟩ := h
    rfl
  · obtain ⟨m, n, rfl, hsm, q⟩ := h
    have l1 := isMask_len hsm.1
    have ht := hsm.top
    have h1 := hsm.2.1
    have h4 := hsm.2.2.1
    have hV : 1 ≤ n ^ (openM m).length := Nat.pos_of_ne_zero (fun z => by
      have := Nat.pow_pos (n := (openM m).length) h1
      omega)
    obtain ⟨V0, hV0⟩ : ∃ V0, n ^ (openM m).length = V0 := ⟨_, rfl⟩
    refine ⟨_, (pss_cons (ps_expr (pe_call G_check_small (hr.mono (by decide)) (by rfl) m_check_small k_check_small b_check_small .nil pass0 (pa_cons (pv 0) (pa_cons (pv 1) pa_nil))))
      (pss_cons (ps_set (i := 2) sc_full_rings.nd rfl (Or.inl rfl) (pe_call G_told_rows (hr.mono (by decide)) (by rfl) m_told_rows k_told_rows b_told_rows .nil pass0 (pa_cons (pv 0) (pa_cons (pv 1) (pa_cons (pe_call G_count_views (hr.mono (by decide)) (by rfl) m_count_views k_count_views b_count_views .nil pass0 (pa_cons (pv 0) (pa_cons (pv 1) pa_nil))) pa_nil)))))
      (pss_one (ps_ret (pe_lc (own := [("row", 3)]) (g := gName 3) (by rfl) sc_full_rings.nd (pi_list (pv 2)) (blkOk_by (own := [("row", 3)]) (N := n_full_rings) (sc := (defScope s_full_rings)) (by decide +kernel)) (fun _ _ _ _ _ => pg_name (i := 3) sc_full_rings.nd rfl (Or.inl rfl)) (fun _ _ _ _ _ => pts_one (PW.pt (pw_and (pt_val (pe_call G_is_least (hr.mono (by decide)) (by rfl) m_is_least k_is_least b_is_least .nil pass0 (pa_cons (pv 3) pa_nil))) (pw_and1 (pt_val (pe_call G_ring_tells (hr.mono (by decide)) (by rfl) m_ring_tells k_ring_tells b_ring_tells .nil pass0 (pa_cons (pv 3) (pa_cons (pv 0) pa_nil)))))))) (fun _ _ _ _ _ => (pv 3))))))), ?_⟩
    refine q_drop (v := .non) (ev_call (ea_cons (ev_var rfl) (ea_cons (ev_var rfl) ea_nil)) fun G e Q q E => ⟨m, n, rfl, hsm, q⟩) fun H1 e1 => ?_
    rw [hV0] at hV ht q
    refine q_asgL (xs := tS (levM m n V0)) (el_call (vs := [.str m, .int (n : Int), .int (V0 : Int)]) (ea_cons (ev_var rfl) (ea_cons (ev_var rfl) (ea_cons (ev_call (ea_cons (ev_var rfl) (ea_cons (ev_var rfl) ea_nil)) fun G e Q q E => ⟨m, n, rfl, hsm, by rw [hV0]; exact q⟩) ea_nil))) fun G e Q q E => ⟨m, n, V0, rfl, hsm, by omega, q⟩) fun p H2 np e2 hp => ?_
    have hlen := levM_small hsm V0
    refine s_retL (el_is (el_lcLB (xs := tS (levM m n V0)) (fun j => leastB ((levM m n V0).getD j []) && rt m ((levM m n V0).getD j [])) (fun j => V.str (txt ((levM m n V0).getD j []))) (ev_var rfl) (sq_of hp) (by rw [tS_len, sizeLine_eq]; omega) (fun _ => rfl) (fun j y G e hy => ?_) (fun j y G e hy _ => ?_)) ?_) fun p2 H3 np2 e3 hp2 => q p2 H3 (fresh_back (e1.trans e2) np2) ((e1.trans e2).trans e3) hp2
    · obtain ⟨hj, rfl⟩ := tS_get hy
      obtain ⟨b1, b2, b3⟩ := lev_low hsm (mem_getDL (d := []) hj)
      refine et_and (et_B (ev_call (ea_cons (ev_var rfl) ea_nil) fun G2 e2 Q q E => ⟨_, rfl, by omega, by omega, b3, q⟩)) fun _ => et_B (ev_call (vs := [.str (txt ((levM m n V0).getD j [])), .str m]) (ea_cons (ev_var rfl) (ea_cons (ev_var rfl) ea_nil)) fun G2 e2 Q q E => ⟨_, m, rfl, row_abcd h4 b2 (by omega), by rw [txt_len]; omega, hsm.1, q⟩)
    · obtain ⟨hj, rfl⟩ := tS_get hy
      exact ev_var rfl
    · rw [tS_len, given_filter (levM m n V0) [] (fun u => leastB u && rt m u) (fun u => V.str (txt u)), full_lev l1.1]
      rfl
theorem ok_lring (e : Ent K mg "longest_ring" s_longest_ring p_longest_ring) (T : Top K mg CM CG fG a_SMALL_WIDTH a_SMALL_SEEN) (c1 : Cal P w K mg base CX0 4 "check_small" p_check_small spSmall) (c2 : Cal P w K mg base CX0 2 "count_views" p_count_views spCViews) (c3 : Cal P w K mg base CX0 8 "told_rows" p_told_rows spTold) (c5 : Cal P w K mg base CX0 6 "ring_tells" p_ring_tells spRingTells) : Cal P w K mg base CX0 9 "longest_ring" p_longest_ring spLRing := by
  obtain ⟨f, fd, F, m_, b_⟩ := e
  obtain ⟨f_check_small, fd_check_small, G_check_small, m_check_small, k_check_small, b_check_small⟩ := c1
  obtain ⟨f_count_views, fd_count_views, G_count_views, m_count_views, k_count_views, b_count_views⟩ := c2
  obtain ⟨f_told_rows, fd_told_rows, G_told_rows, m_told_rows, k_told_rows, b_told_rows⟩ := c3
  obtain ⟨f_ring_tells, fd_ring_tells, G_ring_tells, m_ring_tells, k_ring_tells, b_ring_tells⟩ := c5
  refine ⟨f, fd, F.ok sc_longest_ring (fun vs H Q E h => ?_) (fun cdv A outer s H vs Q E hr h => ?_), m_, F.kp, b_⟩
  · obtain ⟨m, n, rfl, _⟩ := h
    rfl
  · obtain ⟨m, n, rfl, hsm, q⟩ := h
    have l1 := isMask_len hsm.1
    have ht := hsm.top
    have h1 := hsm.2.1
    have h4 := hsm.2.2.1
    have hV : 1 ≤ n ^ (openM m).length := Nat.pow_pos h1
    obtain ⟨V0, hV0⟩ : ∃ V0, n ^ (openM m).length = V0 := ⟨_, rfl⟩
    refine ⟨_, (pss_cons (ps_expr (pe_call G_check_small (hr.mono (by decide)) (by rfl) m_check_small k_check_small b_check_small .nil pass0 (pa_cons (pv 0) (pa_cons (pv 1) pa_nil))))
      (pss_cons (ps_for PassesOwn.never rfl (pi_range3 (by rfl) T.m_range (pa_cons (pe_call G_count_views (hr.mono (by decide)) (by rfl) m_count_views k_count_views b_count_views .nil pass0 (pa_cons (pv 0) (pa_cons (pv 1) pa_nil))) (pa_cons pe_int (pa_cons (pe_un un_neg pe_int) pa_nil)))) (pg_name (i := 2) sc_longest_ring.nd rfl (Or.inl rfl)) (pss_one (ps_for PassesOwn.never rfl (pi_list (pe_call G_told_rows (hr.mono (by decide)) (by rfl) m_told_rows k_told_rows b_told_rows .nil pass0 (pa_cons (pv 0) (pa_cons (pv 1) (pa_cons (pv 2) pa_nil))))) (pg_name (i := 3) sc_longest_ring.nd rfl (Or.inl rfl)) (pss_one (ps_if (pt_val (pe_call G_ring_tells (hr.mono (by decide)) (by rfl) m_ring_tells k_ring_tells b_ring_tells .nil pass0 (pa_cons (pv 3) (pa_cons (pv 0) pa_nil)))) (pss_one (ps_ret (pv 3))) pss_nil)))))
      (pss_one (ps_ret (pe_ix ix_str (pe_glob (v := .str (PySem.Str.ofString "abcd")) (by rfl) T.g_LETTERS.choose_spec ⟨_, rfl⟩) pe_int (fun _ _ => rfl)))))), ?_⟩
    refine q_drop (v := .non) (ev_call (ea_cons (ev_var rfl) (ea_cons (ev_var rfl) ea_nil)) fun G e Q q E => ⟨m, n, rfl, hsm, q⟩) fun H1 e1 => ?_
    rw [hV0] at hV ht q
    refine q_forDn (hi := (V0 : Int)) (lo := 1) (j := 2) (ea_cons (ev_call (ea_cons (ev_var rfl) (ea_cons (ev_var rfl) ea_nil)) fun G e Q q E => ⟨m, n, rfl, hsm, by rw [hV0]; exact q⟩) (ea_cons ev_c (ea_cons (ev_un ev_c ru_neg) ea_nil))) (by omega)
      (fun i σ H' => Ex H H' ∧ lring m n V0 = lring m n (V0 - i) ∧ ∃ x2 x3, σ = [some (.str m), some (.int (n : Int)), x2, x3]) (fun H2 e2 => ⟨e1.trans e2, rfl, _, _, rfl⟩) (fun i σ' H2 hi hp => ?_) (fun σ' H2 hp => ?_)
    · obtain ⟨e2, hl, x2, x3, rfl⟩ := hp
      have hk : 2 ≤ V0 - i := by omega
      have hc : ((V0 : Int) - (i : Int)) = ((V0 - i : Nat) : Int) := by omega
      rw [hc]
      obtain ⟨k, hkk⟩ : ∃ k, V0 - i = k := ⟨_, rfl⟩
      rw [hkk] at hk hl ⊢
      refine s_forNL (K := K) (D := { nx := _, rt := _, bk := _, ct := _ }) (xs := tS (levM m n k)) (el_call (vs := [.str m, .int (n : Int), .int (k : Int)]) (ea_cons (ev_var rfl) (ea_cons (ev_var rfl) (ea_cons (ev_var rfl) ea_nil))) fun G e Q q E => ⟨m, n, k, rfl, hsm, by omega, q⟩)
        (fun p j σ'' H'' => Ex H H'' ∧ H'' p = some (.lst (tS (levM m n k))) ∧ (∀ d, d < j → rt m ((levM m n k).getD d []) = false) ∧ ∃ x3, σ'' = [some (.str m), some (.int (n : Int)), some (.int (k : Int)), x3])
        (fun p H3 np e3 hp => ⟨e2.trans e3, hp, fun d hd => by omega, _, rfl⟩) (fun p j σ'' H'' _ pp => sq_of pp.2.1) (fun p j y σ'' H'' hy pp => ?_) (fun p σ'' H'' pp => ?_)
      · obtain ⟨e3, hp, hno, x3, rfl⟩ := pp
        obtain ⟨hj, rfl⟩ := tS_get hy
        obtain ⟨b1, b2, b3⟩ := lev_low hsm (mem_getDL (d := []) hj)
        refine s_when (b := rt m ((levM m n k).getD j [])) (et_B (ev_call (vs := [.str (txt ((levM m n k).getD j [])), .str m]) (ea_cons (ev_var rfl) (ea_cons (ev_var rfl) ea_nil)) fun G2 e2 Q q E => ⟨_, m, rfl, row_abcd h4 b2 (by omega), by rw [txt_len]; omega, hsm.1, q⟩)) (fun hb H4 e4 => ?_) (fun hb H4 e4 => ?_)
        · obtain ⟨t, ht'⟩ := filter_first hj hno hb
          rw [rings_lev l1.1] at ht'
          refine s_ret (ev_var rfl) fun H5 e5 => ?_
          have := q H5 ((e3.trans e4).trans e5)
          rw [hl, lring_some hk ht'] at this
          exact this
        · refine ⟨e3.trans e4, e4 _ _ hp, fun d hd => ?_, _, rfl⟩
          rcases Nat.lt_or_ge d j with z | z
          · exact hno d z
          · obtain rfl : d = j := by omega
            exact hb
      · obtain ⟨e3, hp, hno, x3, rfl⟩ := pp
        rw [tS_len] at hno
        have z := filter_none hno
        rw [rings_lev l1.1] at z
        refine ⟨e3, ?_, _, _, rfl⟩
        rw [hl, lring_none hk z, ← hkk]
        rfl
    · obtain ⟨e2, hl, x2, x3, rfl⟩ := hp
      have e1' : V0 - ((V0 : Int) - 1).toNat = 1 := by omega
      rw [e1'] at hl
      refine s_ret (ev_op ev_c ev_c (rv_ixS (c := 97) (by decide +kernel) (by decide +kernel))) fun H3 e3 => ?_
      have := q H3 (e2.trans e3)
      rw [hl] at this
      exact this
end
end K13
namespace K13
open PySem PySem.Spec PyProof.Rows L2 Evl Qt
/-! ### the mask turned round -/
theorem revT_l (z : Str) : (revT z).cps.toList = z.cps.toList.reverse := by
  unfold revT
  rw [List.toList_toArray]
theorem revT_len (z : Str) : (revT z).length = z.length := by
  rw [← len_l, revT_l, List.length_reverse, len_l]
theorem revT_txt (r : List Nat) : revT (txt r) = txt r.reverse := by
  apply str_ext
  rw [revT_l, txt_l, txt_l]
theorem revT_revT (z : Str) : revT (revT z) = z := by
  apply str_ext
  rw [revT_l, revT_l, List.reverse_reverse]
theorem getD_rev {r : List Nat} {x : Nat} (h : x < r.length) : r.reverse.getD x 0 = r.getD (r.length - 1 - x) 0 := by
  rw [List.getD_eq_getElem?_getD, List.getD_eq_getElem?_getD, List.getElem?_reverse h]
theorem open_iff {m : Str} {p : Nat} : p ∈ openM m ↔ p < m.length ∧ m.cps.toList.getD p 0 = 120 := by
  unfold openM
  rw [List.mem_filter, List.mem_range, decide_eq_true_eq]
theorem open_rev {m : Str} {p : Nat} (h : p ∈ openM m) : m.length - 1 - p ∈ openM (revT m) := by
  have hp := open_lt h
  rw [open_iff] at h ⊢
  rw [revT_len, revT_l, getD_rev (by rw [len_l]; omega), len_l]
  refine ⟨by omega, ?_⟩
  rw [show m.length - 1 - (m.length - 1 - p) = p by omega]
  exact h.2
theorem mod_back {L y : Nat} (h0 : 0 < L) (hy : y < 13 * L) : (13 * L - 1 - y) % L = L - 1 - y % L := by
  have e := Nat.div_add_mod y L
  have hx := Nat.mod_lt y h0
  have hq : y / L ≤ 12 := by
    have := (Nat.div_lt_iff_lt_mul h0).mpr hy
    omega
  have e2 : L * (12 - y / L) = L * 12 - L * (y / L) := Nat.mul_sub ..
  have e3 : L * (y / L) ≤ L * 12 := Nat.mul_le_mul_left L hq
  have e4 : 13 * L - 1 - y = (L - 1 - y % L) + L * (12 - y / L) := by
    rw [e2]
    omega
  rw [e4, Nat.add_mul_mod_self_left, Nat.mod_eq_of_lt (by omega)]
theorem mod_same {L a b : Nat} (h0 : 0 < L) (hab : a ≤ b) (hb : b < a + L) (h : a % L = b % L) : a = b := by
  have := Nat.sub_mod_eq_zero_of_mod_eq h.symm
  rw [Nat.mod_eq_of_lt (by omega)] at this
  omega
theorem rt_rev {m : Str} {r : List Nat} (hw : m.length ≤ 12) (h : rt m r = true) : rt (revT m) r.reverse = true := by
  rw [rt_iff] at h ⊢
  rw [List.length_reverse]
  intro i j hi hj e
  have h0 : 0 < r.length := by omega
  have key : ∀ x, x < r.length → ∀ p ∈ openM m, r.reverse.getD ((x + (m.length - 1 - p)) % r.length) 0 = r.getD (((13 * r.length - (x + m.length)) % r.length + p) % r.length) 0 := fun x hx p hp => by
    have hp' := open_lt hp
    rw [getD_rev (Nat.mod_lt _ h0), Nat.mod_add_mod]
    congr 1
    have z := mod_back (L := r.length) (y := x + (m.length - 1 - p)) h0 (by omega)
    rw [← z]
    congr 1
    omega
  have e' : rv (openM m) r ((13 * r.length - (i + m.length)) % r.length) = rv (openM m) r ((13 * r.length - (j + m.length)) % r.length) := by
    unfold rv at e ⊢
    rw [List.length_reverse] at e
    rw [List.map_inj_left] at e ⊢
    intro p hp
    have z := e _ (open_rev hp)
    rw [key i hi p hp, key j hj p hp] at z
    exact z
  have z := h _ _ (Nat.mod_lt _ h0) (Nat.mod_lt _ h0) e'
  rcases Nat.le_total i j with q | q
  · have := mod_same h0 (by omega) (by omega) z.symm
    omega
  · have := mod_same h0 (by omega) (by omega) z
    omega
/-! ### the least turn -/
def canon (r : List Nat) : List Nat := minL (turns r)
theorem tri (x y : List Nat) : x < y ∨ x = y ∨ y < x := by
  rcases Classical.em (x < y) with a | a
  · exact .inl a
  · rcases Classical.em (y < x) with b | b
    · exact .inr (.inr b)
    · exact .inr (.inl (List.le_antisymm (List.not_lt.mp b) (List.not_lt.mp a)))
theorem minL_spec : ∀ (ds : List (List Nat)) (d : List Nat), minL (d :: ds) ∈ d :: ds ∧ ∀ y ∈ d :: ds, ¬ y < minL (d :: ds)
  | [], d => ⟨List.mem_cons_self, fun y hy => by
    rw [List.mem_singleton.mp hy]
    exact List.lt_irrefl _⟩
  | e :: ds, d => by
    have z := minL_spec ds (if e < d then e else d)
    have h1 : minL (d :: e :: ds) = minL ((if e < d then e else d) :: ds) := rfl
    rw [h1]
    have trans : ∀ {x y w : List Nat}, ¬ x < w → ¬ y < x → ¬ y < w := fun {x y w} a b c => by
      rcases tri x y with q | q | q
      · exact a (List.lt_trans q c)
      · exact a (q ▸ c)
      · exact b q
    refine ⟨?_, fun y hy => ?_⟩
    · rcases List.mem_cons.mp z.1 with q | q
      · rw [q]
        split
        · exact List.mem_cons_of_mem _ List.mem_cons_self
        · exact List.mem_cons_self
      · exact List.mem_cons_of_mem _ (List.mem_cons_of_mem _ q)
    · have hm := z.2 _ List.mem_cons_self
      rcases List.mem_cons.mp hy with q | q
      · subst q
        by_cases h : e < y
        · rw [if_pos h] at hm ⊢
          exact trans hm (List.lt_asymm h)
        · rw [if_neg h] at hm ⊢
          exact hm
      · rcases List.mem_cons.mp q with q | q
        · subst q
          by_cases h : y < d
          · rw [if_pos h] at hm ⊢
            exact hm
          · rw [if_neg h] at hm ⊢
            exact trans hm h
        · exact z.2 y (List.mem_cons_of_mem _ q)
theorem turns_cons {r : List Nat} (h : 1 ≤ r.length) : turns r = turnR r 0 :: ((List.range (r.length - 1)).map fun i => turnR r (i + 1)) := by
  unfold turns
  obtain ⟨j, hj⟩ : ∃ j, r.length = j + 1 := ⟨r.length - 1, by omega⟩
  rw [hj, List.range_succ_eq_map, List.map_cons, List.map_map]
  rfl
theorem canon_spec {r : List Nat} (h : 1 ≤ r.length) : canon r ∈ turns r ∧ ∀ y ∈ turns r, ¬ y < canon r := by
  unfold canon
  rw [turns_cons h]
  exact minL_spec _ _
theorem canon_one {r s : List Nat} (hr : 1 ≤ r.length) (hs : 1 ≤ s.length) (h1 : ∀ y ∈ turns r, y ∈ turns s) (h2 : ∀ y ∈ turns s, y ∈ turns r) : canon r = canon s := by
  have a := canon_spec hr
  have b := canon_spec hs
  rcases tri (canon r) (canon s) with q | q | q
  · exact absurd q (b.2 _ (h1 _ a.1))
  · exact q
  · exact absurd q (a.2 _ (h2 _ b.1))
theorem ext_getD {a b : List Nat} (hl : a.length = b.length) (h : ∀ i, i < a.length → a.getD i 0 = b.getD i 0) : a = b := by
  refine List.ext_getElem hl fun i h1 h2 => ?_
  have z := h i h1
  rw [List.getD_eq_getElem?_getD, List.getD_eq_getElem?_getD, List.getElem?_eq_getElem h1, List.getElem?_eq_getElem h2] at z
  exact z
theorem turn_turn {r : List Nat} {s t : Nat} (hs : s < r.length) (ht : t < r.length) : turnR (turnR r s) t = turnR r ((s + t) % r.length) := by
  have h0 : 0 < r.length := by omega
  have l1 := turn_len (r := r) (s := s) (by omega)
  have hm := Nat.mod_lt (s + t) h0
  have l2 : (turnR (turnR r s) t).length = r.length := (turn_len (by omega)).trans l1
  refine ext_getD (l2.trans (turn_len (by omega)).symm) fun i hi => ?_
  rw [l2] at hi
  rw [turn_get (by omega) (by omega), l1, turn_get hs (Nat.mod_lt _ h0), turn_get hm hi, Nat.mod_add_mod, Nat.add_mod_mod]
  congr 2
  omega
theorem canon_turn {r : List Nat} {s : Nat} (hs : s < r.length) : canon (turnR r s) = canon r := by
  have h0 : 0 < r.length := by omega
  have l1 := turn_len (r := r) (s := s) (by omega)
  refine canon_one (by omega) (by omega) (fun y hy => ?_) (fun y hy => ?_)
  · obtain ⟨t, ht, rfl⟩ := List.mem_map.mp hy
    have ht' := List.mem_range.mp ht
    rw [l1] at ht'
    exact List.mem_map.mpr ⟨(s + t) % r.length, List.mem_range.mpr (Nat.mod_lt _ h0), (turn_turn hs ht').symm⟩
  · obtain ⟨t, ht, rfl⟩ := List.mem_map.mp hy
    have ht' := List.mem_range.mp ht
    refine List.mem_map.mpr ⟨(t + (r.length - s)) % r.length, List.mem_range.mpr (by rw [l1]; exact Nat.mod_lt _ h0), ?_⟩
    rw [turn_turn hs (Nat.mod_lt _ h0), Nat.add_mod_mod, show s + (t + (r.length - s)) = t + r.length by omega, Nat.add_mod_right, Nat.mod_eq_of_lt ht']
theorem turn_full (r : List Nat) : turnR r r.length = turnR r 0 := by
  unfold turnR
  simp
theorem rev_turn {r : List Nat} {s : Nat} (hs : s ≤ r.length) : (turnR r.reverse s).reverse = turnR r (r.length - s) := by
  unfold turnR
  rw [List.reverse_append, List.reverse_take, List.reverse_drop, List.reverse_reverse, List.length_reverse]
/-! ### the full rings of the mask turned round -/
theorem fullL_mem {m : Str} {n k : Nat} {r : List Nat} : r ∈ fullL m n k ↔ (r.length = k ∧ ∀ c ∈ r, c ∈ (sgn n).cps.toList) ∧ r = canon r ∧ rt m r = true := by
  unfold fullL
  rw [List.mem_filter, Bool.and_eq_true]
  unfold leastB
  rw [decide_eq_true_eq]
  exact and_congr_left fun _ => ⟨fun h => words_each h, fun h => words_mem _ _ h.1 h.2⟩
theorem canon_of {r : List Nat} (h : 1 ≤ r.length) : ∃ s, s < r.length ∧ canon r = turnR r s := by
  obtain ⟨s, hs, e⟩ := List.mem_map.mp (canon_spec h).1
  exact ⟨s, List.mem_range.mp hs, e.symm⟩
/-- backwards, and the least turn of that -/
def backR (r : List Nat) : List Nat := canon r.reverse
theorem back_back {r : List Nat} (h : 1 ≤ r.length) : backR (backR r) = canon r := by
  unfold backR
  obtain ⟨s, hs, e⟩ := canon_of (r := r.reverse) (by rw [List.length_reverse]; exact h)
  rw [List.length_reverse] at hs
  rw [e, rev_turn (by omega)]
  rcases Nat.eq_zero_or_pos s with q | q
  · rw [q, Nat.sub_zero, turn_full]
    exact canon_turn (by omega)
  · exact canon_turn (by omega)
theorem back_in {m : Str} {n k : Nat} (hw : m.length ≤ 12) (hk : 1 ≤ k) {r : List Nat} (h : r ∈ fullL m n k) : backR r ∈ fullL (revT m) n k := by
  obtain ⟨⟨h1, h2⟩, _, h4⟩ := fullL_mem.mp h
  obtain ⟨s, hs, e⟩ := canon_of (r := r.reverse) (by rw [List.length_reverse]; omega)
  unfold backR
  rw [e]
  refine fullL_mem.mpr ⟨⟨by rw [turn_len (by omega), List.length_reverse, h1], turn_in fun c hc => h2 c (List.mem_reverse.mp hc)⟩, ?_, rt_turn hs (rt_rev hw h4)⟩
  rw [canon_turn hs, e]
theorem back_inj {m : Str} {n k : Nat} (hk : 1 ≤ k) {a b : List Nat} (ha : a ∈ fullL m n k) (hb : b ∈ fullL m n k) (e : backR a = backR b) : a = b := by
  obtain ⟨⟨a1, _⟩, a3, _⟩ := fullL_mem.mp ha
  obtain ⟨⟨b1, _⟩, b3, _⟩ := fullL_mem.mp hb
  rw [a3, b3, ← back_back (by omega), ← back_back (r := b) (by omega), e]
theorem back_all {m : Str} {n k : Nat} (hw : m.length ≤ 12) (hk : 1 ≤ k) (r : List Nat) : r ∈ (fullL m n k).map backR ↔ r ∈ fullL (revT m) n k := by
  constructor
  · intro h
    obtain ⟨a, ha, rfl⟩ := List.mem_map.mp h
    exact back_in hw hk ha
  · intro h
    have z := back_in (by rw [revT_len]; exact hw) hk h
    rw [revT_revT] at z
    obtain ⟨⟨h1, _⟩, h3, _⟩ := fullL_mem.mp h
    exact List.mem_map.mpr ⟨_, z, by rw [back_back (by omega)]; exact h3.symm⟩
theorem full_sorted {m : Str} {n k : Nat} (h4 : n ≤ 4) : (fullL m n k).Pairwise (· < ·) := (words_sorted (sgn_sorted h4) _).sublist (List.filter_sublist ..)
/-- a strictly rising list is told by its members -/
theorem one_rising : ∀ {a b : List (List Nat)}, a.Pairwise (· < ·) → b.Pairwise (· < ·) → (∀ x, x ∈ a ↔ x ∈ b) → a = b
  | [], [], _, _, _ => rfl
  | [], y :: b, _, _, h => nomatch (h y).mpr List.mem_cons_self
  | x :: a, [], _, _, h => nomatch (h x).mp List.mem_cons_self
  | x :: a, y :: b, ha, hb, h => by
    obtain ⟨a1, a2⟩ := List.pairwise_cons.mp ha
    obtain ⟨b1, b2⟩ := List.pairwise_cons.mp hb
    have e : x = y := by
      rcases List.mem_cons.mp ((h x).mp List.mem_cons_self) with q | q
      · exact q
      · rcases List.mem_cons.mp ((h y).mpr List.mem_cons_self) with p | p
        · exact p.symm
        · exact absurd (List.lt_trans (a1 y p) (b1 x q)) (List.lt_irrefl _)
    subst e
    refine congrArg (x :: ·) (one_rising a2 b2 fun z => ⟨fun hz => ?_, fun hz => ?_⟩)
    · rcases List.mem_cons.mp ((h z).mp (List.mem_cons_of_mem _ hz)) with q | q
      · exact absurd (a1 z hz) (q ▸ List.lt_irrefl _)
      · exact q
    · rcases List.mem_cons.mp ((h z).mpr (List.mem_cons_of_mem _ hz)) with q | q
      · exact absurd (b1 z hz) (q ▸ List.lt_irrefl _)
      · exact q
theorem back_nodup {m : Str} {n k : Nat} (h4 : n ≤ 4) (hk : 1 ≤ k) : ((fullL m n k).map backR).Nodup := by
  unfold List.Nodup
  rw [List.pairwise_map]
  refine (full_sorted h4).imp_of_mem fun {a b} ha hb hab e => ?_
  rw [back_inj hk ha hb e] at hab
  exact List.lt_irrefl _ hab
/-- sorted, they are the full rings of the mask turned round -/
theorem back_sorted {m : Str} {n k : Nat} (h4 : n ≤ 4) (hw : m.length ≤ 12) (hk : 1 ≤ k) : ((fullL m n k).map backR).mergeSort (fun x y => decide (x ≤ y)) = fullL (revT m) n k := by
  have pm := List.mergeSort_perm ((fullL m n k).map backR) (fun x y : List Nat => decide (x ≤ y))
  have srt := List.pairwise_mergeSort (le := fun x y : List Nat => decide (x ≤ y)) (fun x y z h1 h2 => decide_eq_true (List.le_trans (of_decide_eq_true h1) (of_decide_eq_true h2))) (fun x y => by
    rw [Bool.or_eq_true, decide_eq_true_eq, decide_eq_true_eq]
    exact List.le_total _ _) ((fullL m n k).map backR)
  refine one_rising ?_ (full_sorted h4) fun x => by rw [pm.mem_iff]; exact back_all hw hk x
  refine (srt.and (pm.nodup_iff.mpr (back_nodup h4 hk))).imp fun {x y} c => ?_
  rcases List.le_iff_lt_or_eq.mp (of_decide_eq_true c.1) with q | q
  · exact q
  · exact absurd q c.2
end K13
namespace K13
open PySem PySem.Spec PyProof.Rows L2 Evl Qt
/-! ### how many full rings there are at most -/
theorem rv_turn0 {l r : List Nat} {s : Nat} (hs : s < r.length) : rv l (turnR r s) 0 = rv l r s := by
  rw [turn_rv hs, Nat.zero_add, Nat.mod_eq_of_lt hs]
theorem turns_nodup {m : Str} {r : List Nat} (h : rt m r = true) : (turns r).Nodup := by
  unfold turns
  rw [nodup_range]
  intro i j hi hj e
  refine rt_iff.mp h i j hi hj ?_
  rw [← rv_turn0 hi, ← rv_turn0 hj, e]
theorem few {m : Str} {n k : Nat} (h4 : n ≤ 4) (hk : 1 ≤ k) (E : List (List Nat)) (e1 : E.Nodup) (e2 : ∀ u ∈ E, u ∈ wordsL (sgn n).cps.toList k ∧ rt m u = false) : k * (fullL m n k).length + E.length ≤ n ^ k := by
  have each : ∀ r ∈ fullL m n k, ∀ y ∈ turns r, y ∈ wordsL (sgn n).cps.toList k ∧ rt m y = true ∧ canon y = r := fun r hr y hy => by
    obtain ⟨⟨h1, h2⟩, h3, h5⟩ := fullL_mem.mp hr
    obtain ⟨s, hs, rfl⟩ := List.mem_map.mp hy
    have hs' := List.mem_range.mp hs
    exact ⟨words_mem _ _ (by rw [turn_len (by omega), h1]) (turn_in h2), rt_turn hs' h5, by rw [canon_turn hs']; exact h3.symm⟩
  have nd : ((fullL m n k).flatMap turns ++ E).Nodup := by
    rw [List.nodup_append]
    refine ⟨?_, e1, fun x hx y hy e => ?_⟩
    · unfold List.Nodup
      rw [List.pairwise_flatMap]
      refine ⟨fun r hr => turns_nodup (fullL_mem.mp hr).2.2, (full_sorted h4).imp_of_mem fun {a b} ha hb hab x hx y hy e => ?_⟩
      have z1 := (each a ha x hx).2.2
      have z2 := (each b hb y hy).2.2
      rw [← z1, ← z2, e] at hab
      exact List.lt_irrefl _ hab
    · obtain ⟨r, hr, hx⟩ := List.mem_flatMap.mp hx
      have z1 := (each r hr x hx).2.1
      have z2 := (e2 y hy).2
      rw [e, z2] at z1
      cases z1
  have z := nodup_le ((fullL m n k).flatMap turns ++ E) (wordsL (sgn n).cps.toList k) nd fun x hx => by
    rcases List.mem_append.mp hx with q | q
    · obtain ⟨r, hr, q⟩ := List.mem_flatMap.mp q
      exact (each r hr x q).1
    · exact (e2 x q).1
  have len : ∀ l : List (List Nat), (∀ r ∈ l, r.length = k) → (l.flatMap turns).length = k * l.length := fun l => by
    induction l with
    | nil => exact fun _ => rfl
    | cons a r ih =>
      intro h
      rw [List.flatMap_cons, List.length_append, ih fun x hx => h x (List.mem_cons_of_mem _ hx)]
      unfold turns
      rw [List.length_map, List.length_range, h a List.mem_cons_self, List.length_cons, Nat.mul_succ]
      omega
  rw [List.length_append, len _ fun r hr => (fullL_mem.mp hr).1.1, words_len, len_l, sgn_len h4] at z
  exact z
theorem twice_get {u : List Nat} {x : Nat} (h0 : 0 < u.length) (h : x < 2 * u.length) : (u ++ u).getD x 0 = u.getD (x % u.length) 0 := by
  rw [List.getD_eq_getElem?_getD, List.getD_eq_getElem?_getD]
  congr 1
  by_cases q : x < u.length
  · rw [List.getElem?_append_left q, Nat.mod_eq_of_lt q]
  · rw [List.getElem?_append_right (by omega)]
    congr 1
    rw [show x = (x - u.length) + u.length by omega, Nat.add_mod_right, Nat.mod_eq_of_lt (by omega)]
    omega
theorem twice_no {m : Str} {u : List Nat} (h0 : 0 < u.length) : rt m (u ++ u) = false := by
  cases h : rt m (u ++ u) with
  | false => rfl
  | true =>
    exfalso
    have l : (u ++ u).length = 2 * u.length := by rw [List.length_append]; omega
    have h2 : 0 < 2 * u.length := by omega
    have z := rt_iff.mp h 0 u.length (by omega) (by omega) (by
      unfold rv
      refine List.map_congr_left fun p _ => ?_
      rw [l, twice_get h0 (Nat.mod_lt _ h2), twice_get h0 (Nat.mod_lt _ h2)]
      congr 1
      rw [Nat.mod_mul_left_mod, Nat.mod_mul_left_mod, Nat.add_comm u.length p, Nat.add_mod_right, Nat.zero_add])
    omega
theorem few_xxxx {m : Str} : (fullL m 2 16).length ≤ 4080 := by
  have z := few (m := m) (n := 2) (k := 16) (by decide) (by decide) ((wordsL (sgn 2).cps.toList 8).map fun u => u ++ u) (by
    have w := words_nodup (sg := (sgn 2).cps.toList) ((sgn_sorted (by decide)).imp fun h => Nat.ne_of_lt h) 8
    unfold List.Nodup at w ⊢
    rw [List.pairwise_map]
    refine w.imp_of_mem fun {a b} ha hb hab e => hab ?_
    exact (List.append_inj e (by rw [(words_each ha).1, (words_each hb).1])).1) (fun u hu => by
    obtain ⟨v, hv, rfl⟩ := List.mem_map.mp hu
    obtain ⟨v1, v2⟩ := words_each hv
    refine ⟨words_mem _ _ (by rw [List.length_append, v1]) (fun c hc => ?_), twice_no (by omega)⟩
    rcases List.mem_append.mp hc with q | q
    · exact v2 c q
    · exact v2 c q)
  rw [List.length_map, words_len, len_l, sgn_len (by decide)] at z
  have : (2 : Nat) ^ 16 = 65536 := by decide
  have : (2 : Nat) ^ 8 = 256 := by decide
  omega
theorem few_of {m : Str} {n k b : Nat} (h4 : n ≤ 4) (hk : 1 ≤ k) (h : n ^ k ≤ k * 4090) : (fullL m n k).length ≤ 4090 := by
  have z := few (m := m) h4 hk [] List.nodup_nil (fun u hu => by cases hu)
  rw [List.length_nil] at z
  exact Nat.le_of_mul_le_mul_left (by omega) (show 0 < k by omega)
end K13
namespace K13
open PySem PySem.Spec PyProof.Rows L2 Evl Qt
theorem full_head {m : Str} {n k : Nat} {r : List Nat} {t : List (List Nat)} (h4 : n ≤ 4) (hk : 1 ≤ k) (h : ringsL m n k = r :: t) : ∃ t', fullL m n k = r :: t' := filter_head h (first_least h4 hk h)
theorem full_some {m : Str} {n k : Nat} {x : List Nat} {t : List (List Nat)} (h4 : n ≤ 4) (hk : 1 ≤ k) (h : fullL m n k = x :: t) : ∃ t', ringsL m n k = x :: t' := by
  cases e : ringsL m n k with
  | nil =>
    have : x ∈ fullL m n k := by rw [h]; exact List.mem_cons_self
    obtain ⟨a, b⟩ := List.mem_filter.mp this
    rw [Bool.and_eq_true] at b
    have z : x ∈ ringsL m n k := List.mem_filter.mpr ⟨a, b.2⟩
    rw [e] at z
    cases z
  | cons r t =>
    obtain ⟨t', e2⟩ := full_head h4 hk e
    rw [h] at e2
    injection e2 with e3 _
    exact ⟨t, by rw [e3]⟩
/-- what the greatest ring is -/
theorem lring_facts {m : Str} {n : Nat} (h1 : 1 ≤ n) (h4 : n ≤ 4) : ∀ k, 1 ≤ k → (1 ≤ (lring m n k).length ∧ (lring m n k).length ≤ k) ∧ (∀ c ∈ lring m n k, c ∈ (sgn n).cps.toList) ∧ rt m (lring m n k) = true ∧ leastB (lring m n k) = true
  | 0, h => by omega
  | 1, _ => by
    refine ⟨⟨Nat.le_refl _, Nat.le_refl _⟩, fun c hc => ?_, rt_iff.mpr fun i j hi hj _ => ?_, by show leastB [97] = true; decide +kernel⟩
    · rw [List.mem_singleton.mp (show c ∈ [97] from hc), sgn_l h4]
      obtain ⟨j, rfl⟩ : ∃ j, n = j + 1 := ⟨n - 1, by omega⟩
      exact List.mem_cons_self
    · have a : i < 1 := hi
      have b : j < 1 := hj
      omega
  | k + 2, _ => by
    cases e : ringsL m n (k + 2) with
    | nil =>
      rw [lring_none (by omega) e]
      have z := lring_facts (m := m) h1 h4 (k + 1) (by omega)
      exact ⟨⟨z.1.1, by have := z.1.2; show (lring m n (k + 1)).length ≤ k + 2; omega⟩, z.2⟩
    | cons r t =>
      rw [lring_some (by omega) e]
      obtain ⟨a, b⟩ := List.mem_filter.mp (show r ∈ ringsL m n (k + 2) by rw [e]; exact List.mem_cons_self)
      obtain ⟨c, d⟩ := words_each a
      exact ⟨⟨by omega, by omega⟩, d, b, first_least h4 (by omega) e⟩
theorem lring_short {m : Str} {n k : Nat} (h1 : 1 ≤ n) (h4 : n ≤ 4) (h2 : 2 ≤ k) (h : ringsL m n k = []) : (lring m n k).length < k := by
  rw [lring_none h2 h]
  have := (lring_facts (m := m) h1 h4 (k - 1) (by omega)).1.2
  omega
/-- min([x[i:] + x[:i] for i in range(..)]) -/
theorem ev_minT {K : PySem.W.Frag} {σ : L2.St} {H : Hp} {j : Nat} {vs : List Nat} {tr : TA} {tx : TE} {r : List Nat} (hr : EvA tr σ H [.int (r.length : Int)]) (h1 : 1 ≤ r.length) (h60 : r.length ≤ 60) (hlow : ∀ c ∈ r, c < 256)
    (hw : ∀ x, wipe ((wipe σ vs).set j (some x)) vs = wipe σ vs) (hx : ∀ (x : V) H1, Ex H H1 → Ev tx ((wipe σ vs).set j (some x)) H1 (.str (txt r))) (hj : ∀ x, ((wipe σ vs).set j (some x))[j]? = some (some x)) :
    Ev (tCB (rMinG K) (tCons (tLc (iRng1 tr) (gName j) tYes (tOp (fun x y H Q => ∃ i j, x = .str i ∧ y = .str j ∧ i.length + j.length ≤ sizeLine ∧ Q (.str (i ++ j)) H) (tSl rSlS tx (tPart (tVar j)) tNoPart) (tSl rSlS tx tNoPart (tPart (tVar j)))) vs) tNil)) σ H (.str (txt (canon r))) := by
  refine ev_minS (l := turns r) (turns_ne h1) (turns_low hlow) (el_is (el_lcRn (n := (r.length : Int)) (fun _ => true) (fun i => V.str (txt (turnR r i))) hr (by omega) hw (fun i G e hi => et_yes) (fun i G e hi _ => ?_)) ?_)
  · have hi' : i < r.length := by omega
    refine ev_is (ev_op (ev_slS (hx _ _ e) (eo_some (i := (i : Int)) (ev_var (hj _))) eo_none (by rw [txt_len]; omega)) (ev_slS (hx _ _ e) eo_none (eo_some (i := (i : Int)) (ev_var (hj _))) (by rw [txt_len]; omega)) (rv_addS ?_)) (by rw [turn_txt (by omega)])
    rw [cut_txt, cut_from_txt (by omega), txt_len, txt_len, List.length_drop, List.length_take]
    omega
  · rw [given_all, Int.toNat_natCast]
    unfold turns
    rw [List.map_map]
    rfl
theorem ev_revS {te : TE} {σ : L2.St} {H : Hp} {z : Str} (h : Ev te σ H (.str z)) (hz : z.length ≤ 1000) : Ev (tRevS te) σ H (.str (revT z)) := fun H1 e Q q => h H1 e _ fun H2 e2 => ⟨z, rfl, by rw [sizeLine_eq]; omega, q H2 e2⟩
theorem merge_map {β : Type} (f : List Nat → β) (le : β → β → Bool) (l : List (List Nat)) (h : ∀ a ∈ l, ∀ b ∈ l, le (f a) (f b) = decide (a ≤ b)) : (l.map f).mergeSort le = (l.mergeSort fun x y => decide (x ≤ y)).map f := by
  rw [List.map_mergeSort]
  intro a ha b hb
  exact (h a ha b hb).symm
/-- sorted(a new list of texts) -/
theorem el_sortedT {K : PySem.W.Frag} {σ : L2.St} {H : Hp} {te : TE} {l : List (List Nat)} (h : EvL te σ H (tS l)) : EvL (tCB (rSortedG K) (tCons te tNil)) σ H (tS (l.mergeSort fun x y => decide (x ≤ y))) := fun H1 e Q q =>
  h H1 e _ fun p H2 np e2 hp => ⟨p, l.map fun u => (PyData.str (txt u), V.str (txt u)), rfl, sq_of (by rw [hp, List.map_map]; rfl), by
    rw [List.map_map, List.map_map]
    have z : ∀ l : List (List Nat), DpAll K H2 (l.map (Prod.snd ∘ fun u => (PyData.str (txt u), V.str (txt u)))) (l.map (Prod.fst ∘ fun u => (PyData.str (txt u), V.str (txt u)))) := fun l => by
      induction l with
      | nil => exact .nil
      | cons a r ih => exact .cons (.str _) ih
    exact z l, by
    rw [List.map_map]
    exact PySem.W.AllAlike.of fun x y => by simp only [Function.comp, PySem.W.alike], by
    rw [List.map_map]
    exact PySem.W.Sortable.others fun x => ⟨fun z => (by cases z), fun _ z => (by cases z)⟩, fun z hz => by
    obtain ⟨u, _, rfl⟩ := List.mem_map.mp hz
    exact Nat.zero_le _, fun p2 np2 => q p2 _ (fresh_back e2 np2) (e2.trans (Ex.new np2)) (by
    rw [upd_same, merge_map, List.map_map]
    · rfl
    · intro a _ b _
      show (!PySem.W.dataLt (.str (txt b)) (.str (txt a))) = decide (a ≤ b)
      rw [PySem.W.dataLt_str, txt_l, txt_l, PySem.W.not_lt_str])⟩
end K13
namespace K13
open PySem PySem.Spec PyProof.Rows L2 Evl Qt
def spLaw (K : PySem.W.Frag) : Sp := fun vs H Q _ => ∃ (a : Addr) (ns : List Int), vs = [.ref a] ∧ SqL K H a (ns.map V.int) ∧ ns.length ≤ 63 ∧ ∀ H', Q (.bl true) H'
/-- what a mask of the law and its number of letters are like -/
def KindOk (m : Str) (n : Nat) : Prop := SmallM m n ∧ 2 ≤ n ∧ 1 ≤ (openM m).length ∧ 2 ≤ n ^ (openM m).length ∧ n ^ (openM m).length ≤ 16 ∧ (fullL m n (n ^ (openM m).length)).length ≤ 4090 ∧ (fullL m n (n ^ (openM m).length) ≠ [] ∨ 46 ∈ m.cps.toList)
theorem full_ex {m : Str} {n k : Nat} (h4 : n ≤ 4) (hk : 1 ≤ k) (r : List Nat) (hl : r.length = k) (hi : ∀ c ∈ r, c ∈ (sgn n).cps.toList) (hr : rt m r = true) : fullL m n k ≠ [] := fun z => by
  have mem : r ∈ ringsL m n k := List.mem_filter.mpr ⟨words_mem _ _ hl hi, hr⟩
  cases e : ringsL m n k with
  | nil => rw [e] at mem; cases mem
  | cons x t =>
    obtain ⟨t', e2⟩ := full_head h4 hk e
    rw [z] at e2
    cases e2
theorem kind_mk {m : Str} {n L V0 : Nat} (hs : SmallM m n) (h2 : 2 ≤ n) (hL : (openM m).length = L) (h1 : 1 ≤ L) (hV : n ^ L = V0) (hV2 : 2 ≤ V0) (hV16 : V0 ≤ 16) (hf : (fullL m n V0).length ≤ 4090) (he : fullL m n V0 ≠ [] ∨ 46 ∈ m.cps.toList) : KindOk m n := by
  unfold KindOk
  rw [hL, hV]
  exact ⟨hs, h2, h1, hV2, hV16, hf, he⟩
theorem kinds {k : Int} (h0 : 0 ≤ k) (h1 : k < 8) : ∃ m : Str, atI [V.str (PySem.Str.ofString "xxx"), V.str (PySem.Str.ofString "xx.x"), V.str (PySem.Str.ofString "xxxx"), V.str (PySem.Str.ofString "x.xx"), V.str (PySem.Str.ofString "xx..x"), V.str (PySem.Str.ofString "xx"), V.str (PySem.Str.ofString "x.x"), V.str (PySem.Str.ofString "x..x")] k = some (.str m) ∧ KindOk m (if k < 5 then 2 else 3) := by
  have : k = 0 ∨ k = 1 ∨ k = 2 ∨ k = 3 ∨ k = 4 ∨ k = 5 ∨ k = 6 ∨ k = 7 := by omega
  have sm : ∀ (m : Str) (n : Nat), isMask m = true → 1 ≤ n → n ≤ 4 → m.length ≤ SW n → (openM m).length ≤ SS n → SmallM m n := fun m n a b c d e => ⟨a, b, c, d, e⟩
  rcases this with rfl | rfl | rfl | rfl | rfl | rfl | rfl | rfl
  · exact ⟨_, rfl, kind_mk (L := 3) (V0 := 8) (sm _ _ (by decide +kernel) (by decide) (by decide) (by decide +kernel) (by decide +kernel)) (by decide) (by decide +kernel) (by decide) rfl (by decide) (by decide) (few_of (b := 0) (by decide) (by decide) (by decide)) (.inl (full_ex (by decide) (by decide) [97, 97, 97, 98, 97, 98, 98, 98] rfl (by decide +kernel) (by decide +kernel)))⟩
  · exact ⟨_, rfl, kind_mk (L := 3) (V0 := 8) (sm _ _ (by decide +kernel) (by decide) (by decide) (by decide +kernel) (by decide +kernel)) (by decide) (by decide +kernel) (by decide) rfl (by decide) (by decide) (few_of (b := 0) (by decide) (by decide) (by decide)) (.inr (by decide +kernel))⟩
  · exact ⟨_, rfl, kind_mk (L := 4) (V0 := 16) (sm _ _ (by decide +kernel) (by decide) (by decide) (by decide +kernel) (by decide +kernel)) (by decide) (by decide +kernel) (by decide) rfl (by decide) (by decide) (Nat.le_trans few_xxxx (by decide)) (.inl (full_ex (by decide) (by decide) [97, 97, 97, 97, 98, 97, 97, 98, 98, 97, 98, 97, 98, 98, 98, 98] rfl (by decide +kernel) (by decide +kernel)))⟩
  · exact ⟨_, rfl, kind_mk (L := 3) (V0 := 8) (sm _ _ (by decide +kernel) (by decide) (by decide) (by decide +kernel) (by decide +kernel)) (by decide) (by decide +kernel) (by decide) rfl (by decide) (by decide) (few_of (b := 0) (by decide) (by decide) (by decide)) (.inr (by decide +kernel))⟩
  · exact ⟨_, rfl, kind_mk (L := 3) (V0 := 8) (sm _ _ (by decide +kernel) (by decide) (by decide) (by decide +kernel) (by decide +kernel)) (by decide) (by decide +kernel) (by decide) rfl (by decide) (by decide) (few_of (b := 0) (by decide) (by decide) (by decide)) (.inr (by decide +kernel))⟩
  · exact ⟨_, rfl, kind_mk (L := 2) (V0 := 9) (sm _ _ (by decide +kernel) (by decide) (by decide) (by decide +kernel) (by decide +kernel)) (by decide) (by decide +kernel) (by decide) rfl (by decide) (by decide) (few_of (b := 0) (by decide) (by decide) (by decide)) (.inl (full_ex (by decide) (by decide) [97, 97, 98, 97, 99, 98, 98, 99, 99] rfl (by decide +kernel) (by decide +kernel)))⟩
  · exact ⟨_, rfl, kind_mk (L := 2) (V0 := 9) (sm _ _ (by decide +kernel) (by decide) (by decide) (by decide +kernel) (by decide +kernel)) (by decide) (by decide +kernel) (by decide) rfl (by decide) (by decide) (few_of (b := 0) (by decide) (by decide) (by decide)) (.inr (by decide +kernel))⟩
  · exact ⟨_, rfl, kind_mk (L := 2) (V0 := 9) (sm _ _ (by decide +kernel) (by decide) (by decide) (by decide +kernel) (by decide +kernel)) (by decide) (by decide +kernel) (by decide) rfl (by decide) (by decide) (few_of (b := 0) (by decide) (by decide) (by decide)) (.inr (by decide +kernel))⟩
end K13
namespace K13
open PySem PySem.Spec PyProof.Rows L2 Evl Qt
theorem open_count (m : Str) : (openM m).length = m.cps.toList.countP fun d => decide (d = 120) := by
  rw [count_range, len_l]
  rfl
theorem open_rev_len (m : Str) : (openM (revT m)).length = (openM m).length := by
  rw [open_count, open_count, revT_l, List.countP_reverse]
theorem isMask_inv {z : Str} (h : isMask z = true) : (∀ c ∈ z.cps.toList, c = 120 ∨ c = 46) ∧ fst z = 120 ∧ lst z = 120 := by
  unfold isMask at h
  simp only [Bool.and_eq_true, Bool.not_eq_true', Bool.or_eq_false_iff, Bool.not_eq_false', decide_eq_true_eq] at h
  obtain ⟨⟨h1, _⟩, h3, h4⟩ := h
  refine ⟨fun c hc => ?_, h3, h4⟩
  have h1' : (z.cps.toList.all fun c => decide (c ∈ sx.cps.toList)) = true := h1
  rw [List.all_eq_true] at h1'
  have := of_decide_eq_true (h1' c hc)
  rw [show sx.cps.toList = [120, 46] by decide +kernel] at this
  simpa using this
theorem rev_mask {m : Str} (h : isMask m = true) : isMask (revT m) = true := by
  have l1 := isMask_len h
  obtain ⟨a, b, c⟩ := isMask_inv h
  have e : m.cps.toList.length = m.length := len_l m
  refine isMask_of (fun d hd => a d (by rw [revT_l] at hd; exact List.mem_reverse.mp hd)) (by rw [revT_len]; omega) (by rw [revT_len]; omega) ?_ ?_
  · unfold fst
    rw [revT_l, getD_rev (by omega), e]
    exact c
  · unfold lst
    rw [revT_l, revT_len, getD_rev (by omega), e, show m.length - 1 - (m.length - 1) = 0 by omega]
    exact b
theorem small_rev {m : Str} {n : Nat} (h : SmallM m n) : SmallM (revT m) n := ⟨rev_mask h.1, h.2.1, h.2.2.1, by rw [revT_len]; exact h.2.2.2.1, by rw [open_rev_len]; exact h.2.2.2.2⟩
theorem cut_fromV {xs : List V} {k : Nat} (h : k ≤ xs.length) : cutV xs (some (k : Int)) none = xs.drop k := by
  unfold cutV
  rw [HT.sIx_none, HT.sIx_nat, Nat.min_eq_left h, List.take_of_length_le]
  rw [List.length_drop]
  omega
theorem el_sset {K : PySem.W.Frag} {σ : L2.St} {H : Hp} {ta : TE} {a : Addr} {S : List (List Nat)} (h : Ev ta σ H (.ref a)) (ha : H a = some (.lst (tS S))) (hs : S.Pairwise (· < ·)) (hl : S.length ≤ 4090) : EvL (tSortedSetS K ta) σ H (tS S) := fun H1 e Q q =>
  h H1 e _ fun H2 e2 => ⟨a, S.map txt, rfl, sq_of (by rw [(e.trans e2) _ _ ha, tS_strs]), by rw [List.length_map]; exact hl, fun ys hy hm p np => by
    have e3 : ys.map (fun y => y.cps.toList) = S := by
      refine one_rising ?_ hs fun x => ⟨fun hx => ?_, fun hx => ?_⟩
      · rw [List.pairwise_map]
        exact hy
      · obtain ⟨y, hy2, rfl⟩ := List.mem_map.mp hx
        obtain ⟨u, hu, rfl⟩ := List.mem_map.mp ((hm y).mp hy2)
        rw [txt_l]
        exact hu
      · exact List.mem_map.mpr ⟨txt x, (hm _).mpr (List.mem_map.mpr ⟨x, hx, rfl⟩), txt_l x⟩
    have e4 : ys.map V.str = tS S := by
      rw [← e3]
      unfold tS
      rw [List.map_map]
      refine List.map_congr_left fun y _ => ?_
      show V.str y = V.str (txt y.cps.toList)
      rw [show txt y.cps.toList = y from str_ext (txt_l _)]
    exact q p _ (fresh_back e2 np) (e2.trans (Ex.new np)) (by rw [upd_same, e4])⟩
theorem ev_lenSetN {K : PySem.W.Frag} {σ : L2.St} {H : Hp} {te : TE} {xs : List Str} (h : EvL te σ H (xs.map V.str)) (hl : xs.length ≤ 2000) (hn : xs.Nodup) : Ev (tLenSetS K te) σ H (.int (xs.length : Int)) := fun H1 e Q q =>
  h H1 e _ fun p H2 np e2 hp => ⟨p, xs, rfl, sq_of hp, hl, fun n _ hx => by
    rw [hx.mpr hn]
    exact q H2 e2⟩
theorem full_low {m : Str} {n k : Nat} (h4 : n ≤ 4) : ∀ z ∈ (fullL m n k).map txt, lowS z := fun z hz => by
  obtain ⟨u, hu, rfl⟩ := List.mem_map.mp hz
  intro c hc
  rw [txt_l] at hc
  have := sgn_in h4 ((fullL_mem.mp hu).1.2 c hc)
  simp only [List.mem_cons, List.not_mem_nil, or_false] at this
  omega
section
variable {P : Program} {w : World} {K : PySem.W.Frag} {mg : Str → Option Value} {base : Heap} {CM CG fG a_SMALL_WIDTH a_SMALL_SEEN : Addr}
theorem ok_law {f : Addr} {fd : FuncData} (F : Fun K "law" "law" s_law f fd) (T : Top K mg CM CG fG a_SMALL_WIDTH a_SMALL_SEEN) (c1 : Cal P w K mg base CX0 1 "_law_taken" p__law_taken (spTaken K)) (c2 : Cal P w K mg base CX0 9 "longest_ring" p_longest_ring spLRing) (c3 : Cal P w K mg base CX0 9 "full_rings" p_full_rings spFRings)
    (c4 : Cal P w K mg base CX0 6 "ring_tells" p_ring_tells spRingTells) (c5 : Cal P w K mg base CX0 1 "_law_open" p__law_open spOpen) (c6 : Cal P w K mg base CX0 5 "ring_views" p_ring_views spRing) : FnOk P w K mg base CX0 10 f fd p_law (spLaw K) := by
  obtain ⟨f__law_taken, fd__law_taken, G__law_taken, m__law_taken, k__law_taken, b__law_taken⟩ := c1
  obtain ⟨f_longest_ring, fd_longest_ring, G_longest_ring, m_longest_ring, k_longest_ring, b_longest_ring⟩ := c2
  obtain ⟨f_full_rings, fd_full_rings, G_full_rings, m_full_rings, k_full_rings, b_full_rings⟩ := c3
  obtain ⟨f_ring_tells, fd_ring_tells, G_ring_tells, m_ring_tells, k_ring_tells, b_ring_tells⟩ := c4
  obtain ⟨f__law_open, fd__law_open, G__law_open, m__law_open, k__law_open, b__law_open⟩ := c5
  obtain ⟨f_ring_views, fd_ring_views, G_ring_views, m_ring_views, k_ring_views, b_ring_views⟩ := c6
  refine F.ok sc_law (fun vs H Q E h => ?_) (fun cdv A outer s H vs Q E hr h => ?_)
  · obtain ⟨a, ns, rfl, _⟩ := h
    rfl
  · obtain ⟨a, ns, rfl, hS, hlen, q⟩ := h
    refine ⟨_, (pss_cons (ps_set (i := 1) sc_law.nd rfl (Or.inl rfl) (pe_lst (pa_cons (pv 0) (pa_cons pe_int (pa_cons pe_int (pa_cons pe_int pa_nil))))))
      (pss_cons (ps_set (i := 2) sc_law.nd rfl (Or.inl rfl) (pe_call G__law_taken (hr.mono (by decide)) (by rfl) m__law_taken k__law_taken b__law_taken .nil pass0 (pa_cons (pv 1) (pa_cons pe_int pa_nil))))
      (pss_cons (ps_set (i := 3) sc_law.nd rfl (Or.inl rfl) (pe_ix ix_list (pe_lst (pa_cons pe_str (pa_cons pe_str (pa_cons pe_str (pa_cons pe_str (pa_cons pe_str (pa_cons pe_str (pa_cons pe_str (pa_cons pe_str pa_nil))))))))) (pv 2) (fun _ _ => rfl)))
      (pss_cons (ps_set (i := 4) sc_law.nd rfl (Or.inl rfl) (pe_ifExp (pt_cmpR op_lt (pv 2) pe_int (nomark _)) pe_int pe_int))
      (pss_cons (ps_asg (pe_tup (pa_cons (pe_call G_longest_ring (hr.mono (by decide)) (by rfl) m_longest_ring k_longest_ring b_longest_ring .nil pass0 (pa_cons (pv 3) (pa_cons (pv 4) pa_nil))) (pa_cons (pe_call G_full_rings (hr.mono (by decide)) (by rfl) m_full_rings k_full_rings b_full_rings .nil pass0 (pa_cons (pv 3) (pa_cons (pv 4) pa_nil))) pa_nil))) (pg_tup (by rfl) (pgs_cons (pg_name (i := 5) sc_law.nd rfl (Or.inr rfl)) (pgs_cons (pg_name (i := 6) sc_law.nd rfl (Or.inl rfl)) pgs_nil))))
      (pss_cons (ps_if (PW.pt (pw_or (pt_not (pt_val (pe_call G_ring_tells (hr.mono (by decide)) (by rfl) m_ring_tells k_ring_tells b_ring_tells .nil pass0 (pa_cons (pv 5) (pa_cons (pv 3) pa_nil))))) (pw_or1 (pt_cmpR op_ne (pv 5) (pe_callB (cr_minG rfl hr.units) (by rfl) T.m_min (by decide +kernel) (pa_cons (pe_lc (own := [("_law_at", 8)]) (g := gName 8) (by rfl) sc_law.nd (pi_range1 (by rfl) T.m_range (pa_cons (pe_callB call_len_str (by rfl) T.m_len (by decide +kernel) (pa_cons (pv 5) pa_nil)) pa_nil)) (blkOk_by (own := [("_law_at", 8)]) (N := n_law) (sc := (defScope s_law)) (by decide +kernel)) (fun _ _ _ _ _ => pg_name (i := 8) sc_law.nd rfl (Or.inl rfl)) (fun _ _ _ _ _ => pts_nil) (fun _ _ _ _ _ => (pe_op op_add_str (pe_slice sl_str (pv 5) (po_some (pv 8)) po_none) (pe_slice sl_str (pv 5) po_none (po_some (pv 8)))))) pa_nil)) (nomark _))))) (pss_one (ps_ret pe_bl)) pss_nil)
      (pss_cons (ps_set (i := 7) sc_law.nd rfl (Or.inr rfl) (pv 4))
      (pss_cons (ps_for PassesOwn.never rfl (pi_list (pe_slice sl_list (pe_call G__law_open (hr.mono (by decide)) (by rfl) m__law_open k__law_open b__law_open .nil pass0 (pa_cons (pv 3) pa_nil)) (po_some pe_int) po_none)) (pg_name (i := 8) sc_law.nd rfl (Or.inl rfl)) (pss_one (ps_set (i := 7) sc_law.nd rfl (Or.inr rfl) (pe_op op_mul (pv 7) (pv 4)))))
      (pss_cons (ps_if (PW.pt (pw_or (pt_cmpR op_ne (pe_cmpR (op_neD hr.units) (pv 6) (pe_lst pa_nil) (nomark _)) (pe_cmpR op_eq (pe_callB call_len_str (by rfl) T.m_len (by decide +kernel) (pa_cons (pv 5) pa_nil)) (pv 7) (nomark _)) (nomark _)) (pw_or (PW.pt (pw_and (pt_cmpR (op_neD hr.units) (pv 6) (pe_lst pa_nil) (nomark _)) (pw_and1 (pt_cmpR op_ne (pe_ix ix_list (pv 6) pe_int (fun _ _ => rfl)) (pv 5) (nomark _))))) (pw_or1 (pt_cmpR (op_neD hr.units) (pv 6) (pe_sortedSetS rfl hr.units (by rfl) T.m_sorted (by rfl) T.m_set (pv 6)) (nomark _)))))) (pss_one (ps_ret pe_bl)) pss_nil)
      (pss_cons (ps_for PassesOwn.never rfl (pi_list (pv 6)) (pg_name (i := 9) sc_law.nd rfl (Or.inl rfl)) (pss_one (ps_if (PW.pt (pw_or (pt_cmpR op_ne (pe_callB call_len_str (by rfl) T.m_len (by decide +kernel) (pa_cons (pv 9) pa_nil)) (pv 7) (nomark _)) (pw_or1 (pt_cmpR op_ne (pe_lenSetS rfl (by rfl) T.m_len (by rfl) T.m_set (pe_call G_ring_views (hr.mono (by decide)) (by rfl) m_ring_views k_ring_views b_ring_views .nil pass0 (pa_cons (pv 9) (pa_cons (pv 3) pa_nil)))) (pv 7) (nomark _))))) (pss_one (ps_ret pe_bl)) pss_nil)))
      (pss_cons (ps_set (i := 10) sc_law.nd rfl (Or.inl rfl) (pe_call G_full_rings (hr.mono (by decide)) (by rfl) m_full_rings k_full_rings b_full_rings .nil pass0 (pa_cons (pe_revS (pv 3)) (pa_cons (pv 4) pa_nil))))
      (pss_cons (ps_set (i := 11) sc_law.nd rfl (Or.inl rfl) (pe_callB (cr_sortedG hr.units) (by rfl) T.m_sorted (by decide +kernel) (pa_cons (pe_lc (own := [("_law_ring", 9)]) (g := gName 9) (by rfl) sc_law.nd (pi_list (pv 6)) (blkOk_by (own := [("_law_ring", 9)]) (N := n_law) (sc := (defScope s_law)) (by decide +kernel)) (fun _ _ _ _ _ => pg_name (i := 9) sc_law.nd rfl (Or.inr rfl)) (fun _ _ _ _ _ => pts_nil) (fun _ _ _ _ _ => (pe_callB (cr_minGK K rfl rfl hr.units) (by rfl) T.m_min (by decide +kernel) (pa_cons (by exact (pe_lc (own := [("_law_at", 8)]) (g := gName 8) (by rfl) sc_law.nd (pi_range1 (by rfl) T.m_range (pa_cons (pv 7) pa_nil)) (blkOk_by (own := [("_law_at", 8)]) (N := n_law) (sc := (relS _ (defScope s_law))) (by decide +kernel)) (fun _ _ _ _ _ => pg_name (i := 8) sc_law.nd rfl (Or.inl rfl)) (fun _ _ _ _ _ => pts_nil) (fun _ _ _ _ _ => (pe_op op_add_str (pe_slice sl_str (pe_revS (pv 9)) (po_some (pv 8)) po_none) (pe_slice sl_str (pe_revS (pv 9)) po_none (po_some (pv 8))))))) pa_nil)))) pa_nil)))
      (pss_one (ps_ret (pe_and (pe_cmpR (op_eqD hr.units) (pv 10) (pv 11) (nomark _)) (pe_one (pe_or (pe_cmpR op_gt (pe_callB call_len (by rfl) T.m_len (by decide +kernel) (pa_cons (pv 6) pa_nil)) pe_int (nomark _)) (pe_one (pe_cmpR op_in_sign pe_str (pv 3) (by rfl)))))))))))))))))))), ?_⟩
    refine ⟨_, rfl, by show 4 ≤ sizeLine; decide, fun r nr => ?_⟩
    have R0 : Qt.Row K r a ns (upd H r (.lst [.ref a, .int 0, .int 313, .int 0])) := ⟨0, 313, 0, upd_same, ex_l (Ex.new nr) hS, by omega, by omega, by omega, by omega⟩
    dsimp only [tSeq, gName]
    refine ⟨_, rfl, r, a, ns, 8, rfl, by omega, by omega, R0, fun k H1 k0 k1 X1 R1 => ?_⟩
    obtain ⟨n, hn⟩ : ∃ n, (if k < 5 then 2 else 3) = n := ⟨_, rfl⟩
    obtain ⟨m, hat, hok⟩ := kinds k0 k1
    rw [hn] at hok
    obtain ⟨hsm, hn2, ho1, hV2, hV16, hfew, hex⟩ := hok
    dsimp only [tSeq, gName]
    refine ⟨by show 8 ≤ sizeLine; decide, fun L nL => ⟨_, rfl, L, _, k, .str m, rfl, rfl, sq_of upd_same, hat, ?_⟩⟩
    dsimp only [tSeq, gName]
    refine q_asg (v := .int (n : Int)) (ev_if (b := decide (k < 5)) (et_test (ev_op (ev_var rfl) ev_c rv_I0)) (fun hb => by rw [← hn, if_pos (of_decide_eq_true hb)]; exact ev_c) (fun hb => by rw [← hn, if_neg (of_decide_eq_false hb)]; exact ev_c)) fun H3 e3 => ?_
    have w1 := isMask_len hsm.1
    have w2 := open_len m
    have h4 := hsm.2.2.1
    have h1 := hsm.2.1
    obtain ⟨V0, hV0⟩ : ∃ V0, n ^ (openM m).length = V0 := ⟨_, rfl⟩
    rw [hV0] at hV2 hV16 hfew hex
    obtain ⟨⟨x1, x2⟩, x3, x4, x5⟩ := lring_facts (m := m) h1 h4 V0 (by omega)
    refine ⟨_, rfl, _, rfl, m, n, rfl, hsm, fun H4 e4 => ⟨_, rfl, _, rfl, m, n, rfl, hsm, fun p H5 np e5 hp => ⟨by show 2 ≤ sizeLine; decide, fun t nt => ⟨t, _, rfl, st_of upd_same, rfl, _, _, rfl, _, _, rfl, rfl, ?_⟩⟩⟩⟩
    rw [hV0] at hp ⊢
    obtain ⟨x, hx⟩ : ∃ x, lring m n V0 = x := ⟨_, rfl⟩
    obtain ⟨S, hSS⟩ : ∃ S, fullL m n V0 = S := ⟨_, rfl⟩
    rw [hx] at x1 x2 x3 x4 x5 ⊢
    rw [hSS] at hp hfew hex
    have hp6 := (Ex.new (o := .tup [.str (txt x), .ref p]) nt) _ _ hp
    have xlow : ∀ c ∈ x, c < 256 := fun c hc => by
      have := sgn_in h4 (x3 c hc)
      simp only [List.mem_cons, List.not_mem_nil, or_false] at this
      omega
    have xcan : x = canon x := of_decide_eq_true x5
    have lenX : ∀ {σ : L2.St} {H : Hp} {i : Nat} {u : List Nat}, σ[i]? = some (some (.str (txt u))) → u.length ≤ 60 → Ev (tCB (fun xs H Q => ∃ z : Str, xs = [.str z] ∧ z.length ≤ sizeLine ∧ Q (.int (z.length : Int)) H) (tCons (tVar i) tNil)) σ H (.int (u.length : Int)) := fun {σ H i u} h hu => ev_is (ev_cb (ea_cons (ev_var h) ea_nil) (rc_lenS (z := txt u) (by rw [txt_len]; omega))) (by rw [txt_len])
    dsimp only [tSeq, gName]
    refine q_when (b := !rt m x || !decide (V.str (txt x) = V.str (txt (canon x)))) (et_or (et_not (et_B (ev_call (vs := [.str (txt x), .str m]) (ea_cons (ev_var rfl) (ea_cons (ev_var rfl) ea_nil)) fun G e Q q E => ⟨_, m, rfl, row_abcd h4 x3 (by omega), by rw [txt_len]; exact x1, hsm.1, q⟩))) fun _ => et_test (ev_op (ev_var rfl) (ev_minT (r := x) (ea_cons (lenX rfl (by omega)) ea_nil) x1 (by omega) xlow (fun _ => rfl) (fun _ _ _ => ev_var rfl) (fun _ => rfl)) (rv_ne rfl))) (fun h => ?_) (fun _ H7 e7 => ?_)
    · rw [x4, ← xcan] at h
      simp at h
    refine q_asg (v := .int ((n ^ (0 + 1) : Nat) : Int)) (ev_is (ev_var rfl) (by rw [Nat.zero_add, Nat.pow_one])) fun H8 e8 => ?_
    have hp8 := (e7.trans e8) _ _ hp6
    refine q_forNL (K := K) (xs := (natsV (openM m)).drop 1) (el_is (el_slN (K := K) (xs := natsV (openM m)) (lo := some ((1 : Nat) : Int)) (hi := none) (el_call (ea_cons (ev_var rfl) ea_nil) fun G e Q q E => ⟨m, rfl, by omega, q⟩) (eo_some ev_c) eo_none) (cut_fromV (by rw [natsV_len]; omega))) (fun p2 j σ' H' => Ex H8 H' ∧ H' p2 = some (.lst ((natsV (openM m)).drop 1)) ∧ ∃ x8, σ' = [some (.ref a), some (.ref r), some (.int k), some (.str m), some (.int (n : Int)), some (.str (txt x)), some (.ref p), some (.int ((n ^ (j + 1) : Nat) : Int)), x8, none, none, none])
      (fun p2 H9 np e9 hp2 => ⟨e9, hp2, _, rfl⟩) (fun p2 j σ' H' _ pp => sq_of pp.2.1) (fun p2 j y σ' H' hy pp => ?_) (fun p2 σ' H9 pp => ?_)
    · obtain ⟨e9, hp2, x8, rfl⟩ := pp
      refine s_asg (v := .int ((n ^ (j + 1 + 1) : Nat) : Int)) (ev_is (ev_op (ev_var rfl) (ev_var rfl) (rv_I (.inr ⟨by omega, by omega⟩))) (by rw [Nat.pow_succ]; rfl)) fun H10 e10 => ⟨e9.trans e10, e10 _ _ hp2, _, rfl⟩
    obtain ⟨e9, _, x8, rfl⟩ := pp
    rw [List.length_drop, natsV_len, show (openM m).length - 1 + 1 = (openM m).length by omega, hV0]
    have hp9 := e9 _ _ hp8
    have Sne : S ≠ [] ↔ x.length = V0 := by
      constructor
      · intro h
        cases hS2 : S with
        | nil => exact absurd hS2 h
        | cons y t =>
          obtain ⟨t2, h2⟩ := full_some h4 (by omega) (hSS.trans hS2)
          rw [lring_some (by omega) h2] at hx
          subst hx
          exact (words_each (List.mem_filter.mp (show y ∈ ringsL m n V0 by rw [h2]; exact List.mem_cons_self)).1).1
      · intro h h2
        have : ringsL m n V0 = [] := by
          cases e : ringsL m n V0 with
          | nil => rfl
          | cons y t =>
            obtain ⟨t', e2⟩ := full_head h4 (by omega) e
            rw [hSS, h2] at e2
            cases e2
        have z := lring_short h1 h4 hV2 this
        rw [hx] at z
        omega
    have Sfirst : ∀ y t, S = y :: t → y = x := fun y t h => by
      obtain ⟨t2, h2⟩ := full_some h4 (by omega) (hSS.trans h)
      rw [lring_some (by omega) h2] at hx
      exact hx
    have Slow : ∀ z ∈ S.map txt, lowS z := by rw [← hSS]; exact full_low h4
    have Srise : S.Pairwise (· < ·) := by rw [← hSS]; exact full_sorted h4
    have dpS : ∀ (G : Hp) (p3 : Addr), G p3 = some (.lst (tS S)) → Dp K G (.ref p3) (.list ((S.map txt).map PyData.str)) := fun G p3 h => .lst (sq_of (by rw [h, tS_strs])) (dp_texts _)
    have neB : ∀ {σ : L2.St} {H : Hp}, Ex H9 H → σ[6]? = some (some (.ref p)) → Ev (tOp (rNeD K) (tVar 6) (tLst tNil)) σ H (.bl (!(S.map txt).isEmpty)) := fun {σ H} e h6 => ev_opL (ev_var h6) (el_lst ea_nil (by simp)) fun p2 G hp2 e' => rv_neNil (l := S.map txt) (by rw [← tS_strs]; exact sq_of ((e.trans e') _ _ hp9)) (sq_of hp2) Slow
    have SE : (!(S.map txt).isEmpty) = decide (V.int (x.length : Int) = V.int (V0 : Int)) := by
      by_cases h : S = []
      · rw [h, decide_eq_false]
        · rfl
        · intro z
          injection z with z
          exact Sne.mpr (by omega) h
      · rw [decide_eq_true (by rw [Sne.mp h])]
        cases S with
        | nil => exact absurd rfl h
        | cons y t => rfl
    dsimp only [tSeq, gName]
    refine q_when (b := !decide (V.bl (!(S.map txt).isEmpty) = V.bl (decide (V.int (x.length : Int) = V.int (V0 : Int)))) || (((!(S.map txt).isEmpty) && !decide (V.str (txt x) = V.str (txt x))) || false)) (et_or (et_test (ev_op (neB (Ex.refl _) rfl) (ev_op (lenX rfl (by omega)) (ev_var rfl) (rv_eq rfl)) (rv_ne rfl))) fun _ => et_or (et_and (et_test (neB (Ex.refl _) rfl)) fun hb => et_test (ev_op (ev_op (ev_var rfl) ev_c (rv_ixL (v := .str (txt x)) (sq_of hp9) ?_)) (ev_var rfl) (rv_ne rfl)))
      fun _ => et_test (ev_opL (ev_var rfl) (el_sset (ev_var rfl) hp9 Srise hfew) fun p2 G hp2 e' => rv_ne_same (fun G1 e1 => dpS G1 p (e1 _ _ (e' _ _ hp9))) (fun G1 e1 => dpS G1 p2 (e1 _ _ hp2)) (shaped_texts Slow))) (fun h => ?_) (fun _ H10 e10 => ?_)
    · cases hS2 : S with
      | nil => rw [hS2] at hb; cases hb
      | cons y t =>
        rw [Sfirst y t hS2]
        exact atI_nat (j := 0) rfl
    · rw [SE] at h
      simp at h
    have hp10 := e10 _ _ hp9
    have each : ∀ u ∈ S, u.length = V0 ∧ (∀ c ∈ u, c ∈ (sgn n).cps.toList) ∧ rt m u = true := fun u hu => by
      rw [← hSS] at hu
      obtain ⟨⟨a1, a2⟩, _, a3⟩ := fullL_mem.mp hu
      exact ⟨a1, a2, a3⟩
    refine q_forL (xs := tS S) (ev_var rfl) (sq_of hp10) (fun j σ' H' => Ex H10 H' ∧ ∃ x9, σ' = [some (.ref a), some (.ref r), some (.int k), some (.str m), some (.int (n : Int)), some (.str (txt x)), some (.ref p), some (.int (V0 : Int)), x8, x9, none, none])
      (fun H11 e11 => ⟨e11, _, rfl⟩) (fun j σ' H' _ pp => sq_of (pp.1 _ _ hp10)) (fun j y σ' H' hy pp => ?_) (fun σ' H11 pp => ?_)
    · obtain ⟨e11, x9, rfl⟩ := pp
      obtain ⟨hj, rfl⟩ := tS_get hy
      obtain ⟨u, hu⟩ : ∃ u, S.getD j [] = u := ⟨_, rfl⟩
      obtain ⟨u1, u2, u3⟩ := each u (by rw [← hu]; exact mem_getDL hj)
      rw [hu]
      have lenR : (ringM (txt u) m).length = V0 := by rw [ringM_len, txt_len, u1]
      refine s_when (b := !decide (V.int (u.length : Int) = V.int (V0 : Int)) || !decide (V.int ((ringM (txt u) m).length : Int) = V.int (V0 : Int))) (et_or (et_test (ev_op (lenX rfl (by omega)) (ev_var rfl) (rv_ne rfl))) fun _ => et_test (ev_op (ev_lenSetN (xs := ringM (txt u) m) (el_call (vs := [.str (txt u), .str m]) (ea_cons (ev_var rfl) (ea_cons (ev_var rfl) ea_nil)) fun G e Q q E => ⟨txt u, m, rfl, row_abcd h4 u2 (by omega), by rw [txt_len]; omega, hsm.1, q⟩) (by omega) (of_decide_eq_true u3)) (ev_var rfl) (rv_ne rfl))) (fun h => ?_) (fun _ H12 e12 => ⟨e11.trans e12, _, rfl⟩)
      rw [u1, lenR] at h
      simp at h
    obtain ⟨e11, x9, rfl⟩ := pp
    have hp11 := e11 _ _ hp10
    dsimp only [tSeq, gName]
    refine q_asgL (xs := tS (fullL (revT m) n V0)) (el_call (vs := [.str (revT m), .int (n : Int)]) (ea_cons (ev_revS (ev_var rfl) (by omega)) (ea_cons (ev_var rfl) ea_nil)) fun G e Q q E => ⟨revT m, n, rfl, small_rev hsm, by rw [open_rev_len, hV0]; exact q⟩) fun A1 H12 nA1 e12 hA1 => ?_
    have hp12 := e12 _ _ hp11
    refine q_asgL (xs := tS (fullL (revT m) n V0)) (el_is (el_sortedT (l := S.map backR) (el_is (el_lcLB (xs := tS S) (fun _ => true) (fun j => (fun u => V.str (txt (backR u))) (S.getD j [])) (ev_var rfl) (sq_of hp12) (by rw [tS_len, sizeLine_eq]; omega) (fun _ => rfl) (fun _ _ _ _ _ => et_yes) (fun j y G e hy _ => ?_)) ?_)) (by rw [← hSS, back_sorted h4 (by omega) (by omega)])) fun A2 H13 nA2 e13 hA2 => ?_
    · obtain ⟨hj, rfl⟩ := tS_get hy
      obtain ⟨u, hu⟩ : ∃ u, S.getD j [] = u := ⟨_, rfl⟩
      obtain ⟨u1, u2, u3⟩ := each u (by rw [← hu]; exact mem_getDL hj)
      rw [hu]
      have ul : u.reverse.length = V0 := by rw [List.length_reverse, u1]
      exact ev_minT (r := u.reverse) (ea_cons (ev_is (ev_var rfl) (by rw [ul])) ea_nil) (by omega) (by omega) (fun c hc => by
        have := sgn_in h4 (u2 c (List.mem_reverse.mp hc))
        simp only [List.mem_cons, List.not_mem_nil, or_false] at this
        omega) (fun _ => rfl) (fun _ _ _ => ev_is (ev_revS (ev_var rfl) (by rw [txt_len]; omega)) (by rw [revT_txt])) (fun _ => rfl)
    · rw [tS_len, given_filter S [] (fun _ => true) fun u => V.str (txt (backR u)), List.filter_eq_self.mpr fun _ _ => rfl]
      unfold tS
      rw [List.map_map]
      rfl
    have hA13 := e13 _ _ hA1
    have hp13 := e13 _ _ hp12
    have hdot : PySem.Str.ofString "." = (⟨#[46]⟩ : Str) := by decide +kernel
    have dpF : ∀ (G : Hp) (p3 : Addr), G p3 = some (.lst (tS (fullL (revT m) n V0))) → Dp K G (.ref p3) (.list (((fullL (revT m) n V0).map txt).map PyData.str)) := fun G p3 h => .lst (sq_of (by rw [h, tS_strs])) (dp_texts _)
    refine s_ret (v := .bl true) (ev_is (ev_andV (a := true) (b := decide ((0 : Int) < ((tS S).length : Int)) || decide (46 ∈ m.cps.toList)) (ev_op (ev_var rfl) (ev_var rfl) (fun G e Q q => eq_same (dpF G A1 (e _ _ hA13)) (dpF G A2 (e _ _ hA2)) (shaped_texts (full_low h4)) (q G (Ex.refl G)))) fun _ => ev_orV (ev_op (ev_cb (ea_cons (ev_var rfl) ea_nil) (rc_lenL (sq_of hp13))) ev_c rv_I0) fun _ => ev_op (by rw [← hdot]; exact ev_c) (ev_var rfl) (fun G e Q q => ⟨46, m, rfl, rfl, q G (Ex.refl G)⟩)) ?_) fun HZ _ => q HZ
    rw [Bool.true_and]
    congr 1
    rcases hex with h | h
    · cases hS2 : S with
      | nil => exact absurd hS2 h
      | cons y t =>
        rw [decide_eq_true (by rw [tS_len, List.length_cons]; omega)]
        rfl
    · rw [decide_eq_true h, Bool.or_true]
end
end K13
namespace K13
open PySem PySem.Spec PyProof.Rows L2 Evl Qt
/-- the def x stands in the written part -/
def DefAt (K : PySem.W.Frag) (x : Str) (st : Stmt) : Prop := ∃ (f : Addr) (oc : Value) (od : Option Addr) (kV dc pm : Value) (an : Option Addr) (cd ct : Value) (sl : Array (Option Value)),
  PySem.W.nsIn K mainGlobals x = some (some (.ref f)) ∧ K.lookup f = some ⟨oc, od, .func (PySem.W.fnOf x x (defArgs st) (defBody st) (defScope st) .none kV dc pm an cd ct), sl⟩ ∧ PySem.W.codeIn K cd x = true ∧ PySem.W.keepIn K (.ref f) = true
theorem DefAt.mk {K : PySem.W.Frag} {x : Str} {st : Stmt} {f : Addr} {oc : Value} {od : Option Addr} {kV dc pm : Value} {an : Option Addr} {cd ct : Value} {sl : Array (Option Value)}
    (a : PySem.W.nsIn K mainGlobals x = some (some (.ref f))) (l : K.lookup f = some ⟨oc, od, .func (PySem.W.fnOf x x (defArgs st) (defBody st) (defScope st) .none kV dc pm an cd ct), sl⟩) (c : PySem.W.codeIn K cd x = true) (k : PySem.W.keepIn K (.ref f) = true) : DefAt K x st :=
  ⟨f, oc, od, kV, dc, pm, an, cd, ct, sl, a, l, c, k⟩
theorem DefAt.ent {K : PySem.W.Frag} {h : Heap} {mg : Str → Option Value} {x : Str} {st : Stmt} {ps : List Str} (D : DefAt K x st) (X : K.In h) (G : h.Ns mainGlobals mg)
    (hb : ∀ (kV doc pm : Value) (an : Option Addr) (cdv ct : Value) (us : List Value), us.length = ps.length → bindArgs (PySem.W.fnOf x x (defArgs st) (defBody st) (defScope st) .none kV doc pm an cdv ct) ⟨us, []⟩ = pure (ps.zip us)) : Ent K mg x st ps := by
  obtain ⟨f, oc, od, kV, dc, pm, an, cd, ct, sl, a, l, c, k⟩ := D
  have F := fun_mk (st := st) l c k
  exact ⟨f, _, F, PySem.W.mg_of X G a, F.binds hb⟩
/-- an error class of the text -/
def ErrAt (K : PySem.W.Frag) (x : Str) (C : Addr) : Prop := PySem.W.nsIn K mainGlobals x = some (some (.ref C)) ∧ PySem.W.excIn K C [.type "ValueError", .type "Exception", .type "BaseException", .type "object"] "ValueError.__new__" = true ∧
  PySem.W.keepIn K (.ref C) = true ∧ PySem.W.subIn K (.ref C) (.type "BaseException") = some true ∧ PySem.W.typeIn K (.ref C) = some (.type "type")
def IntAt (K : PySem.W.Frag) (x : Str) (n : Int) : Prop := ∃ t, PySem.W.nsIn K mainGlobals x = some (some (.int n t))
theorem IntAt.mk {K : PySem.W.Frag} {x : Str} {n : Int} {t : Nat} (h : PySem.W.nsIn K mainGlobals x = some (some (.int n t))) : IntAt K x n := ⟨t, h⟩
def StrAt (K : PySem.W.Frag) (x : Str) (n : Str) : Prop := ∃ t, PySem.W.nsIn K mainGlobals x = some (some (.str n t))
theorem StrAt.mk {K : PySem.W.Frag} {x : Str} {n : Str} {t : Nat} (h : PySem.W.nsIn K mainGlobals x = some (some (.str n t))) : StrAt K x n := ⟨t, h⟩
structure All (K : PySem.W.Frag) (CM CG fG a_SMALL_WIDTH a_SMALL_SEEN : Addr) : Prop where
  d_made_of : DefAt K "made_of" s_made_of
  d_is_mask : DefAt K "is_mask" s_is_mask
  d_check_mask : DefAt K "check_mask" s_check_mask
  d_is_row : DefAt K "is_row" s_is_row
  d_check_row : DefAt K "check_row" s_check_row
  d_check_ring : DefAt K "check_ring" s_check_ring
  d_is_number : DefAt K "is_number" s_is_number
  d_check_letters : DefAt K "check_letters" s_check_letters
  d_check_great : DefAt K "check_great" s_check_great
  d_check_small : DefAt K "check_small" s_check_small
  d_seen : DefAt K "seen" s_seen
  d_view_at : DefAt K "view_at" s_view_at
  d_others : DefAt K "others" s_others
  d_all_unlike : DefAt K "all_unlike" s_all_unlike
  d_words : DefAt K "words" s_words
  d_near_bits : DefAt K "near_bits" s_near_bits
  d_window_bits : DefAt K "window_bits" s_window_bits
  d_told_rows : DefAt K "told_rows" s_told_rows
  d_ring_view : DefAt K "ring_view" s_ring_view
  d_ring_views : DefAt K "ring_views" s_ring_views
  d_ring_tells : DefAt K "ring_tells" s_ring_tells
  d_count_views : DefAt K "count_views" s_count_views
  d_is_least : DefAt K "is_least" s_is_least
  d_longest_ring : DefAt K "longest_ring" s_longest_ring
  d_full_rings : DefAt K "full_rings" s_full_rings
  d__law_taken : DefAt K "_law_taken" s__law_taken
  d__law_open : DefAt K "_law_open" s__law_open
  bb : ∀ x ∈ (["isinstance", "str", "int", "bool", "all", "len", "enumerate", "range", "zip", "set", "min", "sorted", "sum"] : List Str), PySem.W.nsIn K mainGlobals x = some none
  h_LETTERS : StrAt K "LETTERS" (PySem.Str.ofString "abcd")
  h_UNREAD : StrAt K "UNREAD" (PySem.Str.ofString "?")
  h_WIDEST : IntAt K "WIDEST" 12
  h_LONGEST : IntAt K "LONGEST" 60
  k_SMALL_WIDTH : PySem.W.nsIn K mainGlobals "SMALL_WIDTH" = some (some (.ref a_SMALL_WIDTH)) ∧ TabI K a_SMALL_WIDTH [(1, 12), (2, 8), (3, 5), (4, 4)]
  k_SMALL_SEEN : PySem.W.nsIn K mainGlobals "SMALL_SEEN" = some (some (.ref a_SMALL_SEEN)) ∧ TabI K a_SMALL_SEEN [(1, 12), (2, 4), (3, 2), (4, 1)]
  o_Growth : OwnAt K "Growth" CG fG ["signs", "width", "bits"]
  i_Growth : FnAt K fG "__init__" "Growth.__init__" s_Growth___init__
  i_Growth_begun : MethAt K CG "begun" "Growth.begun" s_Growth_begun
  i_Growth_longer : MethAt K CG "longer" "Growth.longer" s_Growth_longer
  x_BadMask : ErrAt K "BadMask" CM
theorem all_mk {l : PySem.W.OpenLaw} {w : World} {K : PySem.W.Frag} {h : Heap} {mg : Str → Option Value} {fa f CM CG fG a_SMALL_WIDTH a_SMALL_SEEN : Addr} (X : K.In h) (G : h.Ns mainGlobals mg) (hfa : mg "law" = some (.ref fa)) (A : All K CM CG fG a_SMALL_WIDTH a_SMALL_SEEN)
    {od an : Option Addr} {sl : Array (Option Value)} {oc kV dc pm cd ct : Value} (a : PySem.W.nsIn K mainGlobals "law" = some (some (.ref f)))
    (lk : K.lookup f = some ⟨oc, od, .func (PySem.W.fnOf "law" "law" (defArgs s_law) (defBody s_law) (defScope s_law) .none kV dc pm an cd ct), sl⟩) (c : PySem.W.codeIn K cd "law" = true) (k : PySem.W.keepIn K (.ref f) = true) :
    ∃ fd : FuncData, (∀ (s : Shared) (v : Value), BindsTo s fd ⟨[v], []⟩ [("_law_script", v)]) ∧ ∀ base : Heap, K.In base → base.Ns mainGlobals mg → FnOk l.prog w K mg base CX0 10 fa fd ["_law_script"] (spLaw K) := by
  have e := hfa.symm.trans (PySem.W.mg_of X G a)
  cases e
  have F := fun_mk (st := s_law) lk c k
  have N : ∀ x ∈ (["isinstance", "str", "int", "bool", "all", "len", "enumerate", "range", "zip", "set", "min", "sorted", "sum"] : List Str), mg x = none := fun x hx => PySem.W.mg_none_of X G (A.bb x hx)
  obtain ⟨g1_BadMask, g2_BadMask, g3_BadMask, g4_BadMask, g5_BadMask⟩ := A.x_BadMask
  have T : Top K mg CM CG fG a_SMALL_WIDTH a_SMALL_SEEN :=
    { m_isinstance := N _ (by simp), m_str := N _ (by simp), m_int := N _ (by simp), m_bool := N _ (by simp), m_all := N _ (by simp), m_len := N _ (by simp), m_enumerate := N _ (by simp), m_range := N _ (by simp), m_zip := N _ (by simp), m_set := N _ (by simp), m_min := N _ (by simp), m_sorted := N _ (by simp), m_sum := N _ (by simp), g_LETTERS := A.h_LETTERS.imp fun _ q => PySem.W.mg_of X G q, g_UNREAD := A.h_UNREAD.imp fun _ q => PySem.W.mg_of X G q, g_WIDEST := A.h_WIDEST.imp fun _ q => PySem.W.mg_of X G q, g_LONGEST := A.h_LONGEST.imp fun _ q => PySem.W.mg_of X G q, g_SMALL_WIDTH := ⟨PySem.W.mg_of X G A.k_SMALL_WIDTH.1, A.k_SMALL_WIDTH.2⟩, g_SMALL_SEEN := ⟨PySem.W.mg_of X G A.k_SMALL_SEEN.1, A.k_SMALL_SEEN.2⟩, c_Growth := A.o_Growth.own X G, t_Growth_init := A.i_Growth.fn fun _ _ _ _ _ _ us hl => match us, hl with | [_, _, _, _], _ => rfl, t_Growth_begun := A.i_Growth_begun.meth fun _ _ _ _ _ _ us hl => match us, hl with | [_, _], _ => rfl, t_Growth_longer := A.i_Growth_longer.meth fun _ _ _ _ _ _ us hl => match us, hl with | [_, _], _ => rfl, e_BadMask := ⟨PySem.W.mg_of X G g1_BadMask, g2_BadMask, g3_BadMask, g4_BadMask, g5_BadMask⟩ }
  refine ⟨PySem.W.fnOf "law" "law" (defArgs s_law) (defBody s_law) (defScope s_law) .none kV dc pm an cd ct, fun s v => .of_eq rfl, fun base _ _ => ?_⟩
  have e_made_of := A.d_made_of.ent (ps := p_made_of) X G fun _ _ _ _ _ _ us hl => match us, hl with | [_, _], _ => rfl
  have e_is_mask := A.d_is_mask.ent (ps := p_is_mask) X G fun _ _ _ _ _ _ us hl => match us, hl with | [_], _ => rfl
  have e_check_mask := A.d_check_mask.ent (ps := p_check_mask) X G fun _ _ _ _ _ _ us hl => match us, hl with | [_], _ => rfl
  have e_is_row := A.d_is_row.ent (ps := p_is_row) X G fun _ _ _ _ _ _ us hl => match us, hl with | [_], _ => rfl
  have e_check_row := A.d_check_row.ent (ps := p_check_row) X G fun _ _ _ _ _ _ us hl => match us, hl with | [_], _ => rfl
  have e_check_ring := A.d_check_ring.ent (ps := p_check_ring) X G fun _ _ _ _ _ _ us hl => match us, hl with | [_], _ => rfl
  have e_is_number := A.d_is_number.ent (ps := p_is_number) X G fun _ _ _ _ _ _ us hl => match us, hl with | [_, _, _], _ => rfl
  have e_check_letters := A.d_check_letters.ent (ps := p_check_letters) X G fun _ _ _ _ _ _ us hl => match us, hl with | [_], _ => rfl
  have e_check_great := A.d_check_great.ent (ps := p_check_great) X G fun _ _ _ _ _ _ us hl => match us, hl with | [_, _, _], _ => rfl
  have e_check_small := A.d_check_small.ent (ps := p_check_small) X G fun _ _ _ _ _ _ us hl => match us, hl with | [_, _], _ => rfl
  have e_seen := A.d_seen.ent (ps := p_seen) X G fun _ _ _ _ _ _ us hl => match us, hl with | [_], _ => rfl
  have e_view_at := A.d_view_at.ent (ps := p_view_at) X G fun _ _ _ _ _ _ us hl => match us, hl with | [_, _, _], _ => rfl
  have e_others := A.d_others.ent (ps := p_others) X G fun _ _ _ _ _ _ us hl => match us, hl with | [_, _], _ => rfl
  have e_all_unlike := A.d_all_unlike.ent (ps := p_all_unlike) X G fun _ _ _ _ _ _ us hl => match us, hl with | [_], _ => rfl
  have e_words := A.d_words.ent (ps := p_words) X G fun _ _ _ _ _ _ us hl => match us, hl with | [_, _], _ => rfl
  have e_near_bits := A.d_near_bits.ent (ps := p_near_bits) X G fun _ _ _ _ _ _ us hl => match us, hl with | [_, _, _], _ => rfl
  have e_window_bits := A.d_window_bits.ent (ps := p_window_bits) X G fun _ _ _ _ _ _ us hl => match us, hl with | [_, _, _], _ => rfl
  have e_told_rows := A.d_told_rows.ent (ps := p_told_rows) X G fun _ _ _ _ _ _ us hl => match us, hl with | [_, _, _], _ => rfl
  have e_ring_view := A.d_ring_view.ent (ps := p_ring_view) X G fun _ _ _ _ _ _ us hl => match us, hl with | [_, _, _], _ => rfl
  have e_ring_views := A.d_ring_views.ent (ps := p_ring_views) X G fun _ _ _ _ _ _ us hl => match us, hl with | [_, _], _ => rfl
  have e_ring_tells := A.d_ring_tells.ent (ps := p_ring_tells) X G fun _ _ _ _ _ _ us hl => match us, hl with | [_, _], _ => rfl
  have e_count_views := A.d_count_views.ent (ps := p_count_views) X G fun _ _ _ _ _ _ us hl => match us, hl with | [_, _], _ => rfl
  have e_is_least := A.d_is_least.ent (ps := p_is_least) X G fun _ _ _ _ _ _ us hl => match us, hl with | [_], _ => rfl
  have e_longest_ring := A.d_longest_ring.ent (ps := p_longest_ring) X G fun _ _ _ _ _ _ us hl => match us, hl with | [_, _], _ => rfl
  have e_full_rings := A.d_full_rings.ent (ps := p_full_rings) X G fun _ _ _ _ _ _ us hl => match us, hl with | [_, _], _ => rfl
  have e__law_taken := A.d__law_taken.ent (ps := p__law_taken) X G fun _ _ _ _ _ _ us hl => match us, hl with | [_, _], _ => rfl
  have e__law_open := A.d__law_open.ent (ps := p__law_open) X G fun _ _ _ _ _ _ us hl => match us, hl with | [_], _ => rfl
  have c__law_taken := ok_taken (P := l.prog) (w := w) (base := base) e__law_taken T
  have c_made_of := ok_made_of (P := l.prog) (w := w) (base := base) e_made_of T
  have c_is_mask := ok_is_mask e_is_mask T c_made_of
  have c_check_mask := ok_check_mask e_check_mask T c_is_mask
  have c_is_number := ok_is_number (P := l.prog) (w := w) (base := base) e_is_number T
  have c_check_letters := ok_letters e_check_letters T c_is_number
  have c_check_great := ok_great (P := l.prog) (w := w) (base := base) e_check_great T
  have c_check_small := ok_small e_check_small T c_check_mask c_check_letters c_check_great
  have c_words := ok_words (P := l.prog) (w := w) (base := base) e_words T
  have c_count_views := ok_cviews e_count_views T c_words
  have c_seen := ok_seen e_seen T c_check_mask
  have c_view_at := ok_view_at (P := l.prog) (w := w) (base := base) e_view_at T
  have c_others := ok_others (P := l.prog) (w := w) (base := base) e_others T
  have c_near_bits := ok_near_bits e_near_bits T c_others
  have c_window_bits := ok_bits e_window_bits T (seen0 c_seen) c_words c_view_at c_near_bits
  have c_told_rows := ok_told e_told_rows T c_window_bits
  have c_is_row := ok_is_row e_is_row T c_made_of
  have c_check_row := ok_check_row e_check_row T c_is_row
  have c_check_ring := ok_check_ring e_check_ring T c_check_row
  have c_ring_view := ok_ring_view (P := l.prog) (w := w) (base := base) e_ring_view T
  have c_ring_views := ok_ring_views e_ring_views T c_check_ring (seen0 c_seen) c_ring_view
  have c_all_unlike := ok_all_unlike (P := l.prog) (w := w) (base := base) e_all_unlike T
  have c_ring_tells := ok_ring_tells e_ring_tells T c_ring_views c_all_unlike
  have c_longest_ring := ok_lring e_longest_ring T (small0 c_check_small) c_count_views c_told_rows c_ring_tells
  have c_is_least := ok_least (P := l.prog) (w := w) (base := base) e_is_least T
  have c_full_rings := ok_frings e_full_rings T (small0 c_check_small) c_told_rows c_count_views c_is_least c_ring_tells
  have c__law_open := ok_open (P := l.prog) (w := w) (base := base) e__law_open T
  exact ok_law F T c__law_taken c_longest_ring c_full_rings c_ring_tells c__law_open c_ring_views
end K13
open PySem PySem.W PyProof.Rows
set_option maxHeartbeats 0
theorem PySem.Challenge.cw_holedwindows_k13_greater_rings_holds : PySem.Challenge.rw_holedwindows_k13_greater_rings.Holds := by
  w_on; o_law; k_head; (case hw => w_witness2)
  k_fill
  refine L2.walk_of (l := PySem.Challenge.rw_holedwindows_k13_greater_rings) (n := 63) (k := 10) (x := "_law_script") (CX := fun _ => L2.CX0) (sp := fun w => K13.spLaw _) rfl (by decide) rfl ⟨rfl, by decide, by decide⟩ (fun w h Y => PySem.W.kIn_of Y) ?F (fun _ _ a ns hl _ hS => ⟨a, ns, rfl, hS, hl, fun _ => rfl⟩) (fun _ _ _ _ _ h => h)
  case F =>
    intro w mg fa h KX G hmg
    refine' K13.all_mk KX G hmg ?A ?a ?l ?c ?k
    (case a => k_is); (case l => k_is); (case c => k_is); (case k => k_is)
    case A =>
      refine' ⟨?zd0, ?zd1, ?zd2, ?zd3, ?zd4, ?zd5, ?zd6, ?zd7, ?zd8, ?zd9, ?zd10, ?zd11, ?zd12, ?zd13, ?zd14, ?zd15, ?zd16, ?zd17, ?zd18, ?zd19, ?zd20, ?zd21, ?zd22, ?zd23, ?zd24, ?zd25, ?zd26, ?zbb, ?zh0, ?zh1, ?zh2, ?zh3, ?zk0, ?zk1, ?zo0, ?zi0, ?zm0_0, ?zm0_1, ?zx0⟩
      (case zd0 => refine' K13.DefAt.mk ?x1 ?x2 ?x3 ?x4; (case x1 => k_is); (case x2 => k_is); (case x3 => k_is); (case x4 => k_is))
      (case zd1 => refine' K13.DefAt.mk ?x1 ?x2 ?x3 ?x4; (case x1 => k_is); (case x2 => k_is); (case x3 => k_is); (case x4 => k_is))
      (case zd2 => refine' K13.DefAt.mk ?x1 ?x2 ?x3 ?x4; (case x1 => k_is); (case x2 => k_is); (case x3 => k_is); (case x4 => k_is))
      (case zd3 => refine' K13.DefAt.mk ?x1 ?x2 ?x3 ?x4; (case x1 => k_is); (case x2 => k_is); (case x3 => k_is); (case x4 => k_is))
      (case zd4 => refine' K13.DefAt.mk ?x1 ?x2 ?x3 ?x4; (case x1 => k_is); (case x2 => k_is); (case x3 => k_is); (case x4 => k_is))
      (case zd5 => refine' K13.DefAt.mk ?x1 ?x2 ?x3 ?x4; (case x1 => k_is); (case x2 => k_is); (case x3 => k_is); (case x4 => k_is))
      (case zd6 => refine' K13.DefAt.mk ?x1 ?x2 ?x3 ?x4; (case x1 => k_is); (case x2 => k_is); (case x3 => k_is); (case x4 => k_is))
      (case zd7 => refine' K13.DefAt.mk ?x1 ?x2 ?x3 ?x4; (case x1 => k_is); (case x2 => k_is); (case x3 => k_is); (case x4 => k_is))
      (case zd8 => refine' K13.DefAt.mk ?x1 ?x2 ?x3 ?x4; (case x1 => k_is); (case x2 => k_is); (case x3 => k_is); (case x4 => k_is))
      (case zd9 => refine' K13.DefAt.mk ?x1 ?x2 ?x3 ?x4; (case x1 => k_is); (case x2 => k_is); (case x3 => k_is); (case x4 => k_is))
      (case zd10 => refine' K13.DefAt.mk ?x1 ?x2 ?x3 ?x4; (case x1 => k_is); (case x2 => k_is); (case x3 => k_is); (case x4 => k_is))
      (case zd11 => refine' K13.DefAt.mk ?x1 ?x2 ?x3 ?x4; (case x1 => k_is); (case x2 => k_is); (case x3 => k_is); (case x4 => k_is))
      (case zd12 => refine' K13.DefAt.mk ?x1 ?x2 ?x3 ?x4; (case x1 => k_is); (case x2 => k_is); (case x3 => k_is); (case x4 => k_is))
      (case zd13 => refine' K13.DefAt.mk ?x1 ?x2 ?x3 ?x4; (case x1 => k_is); (case x2 => k_is); (case x3 => k_is); (case x4 => k_is))
      (case zd14 => refine' K13.DefAt.mk ?x1 ?x2 ?x3 ?x4; (case x1 => k_is); (case x2 => k_is); (case x3 => k_is); (case x4 => k_is))
      (case zd15 => refine' K13.DefAt.mk ?x1 ?x2 ?x3 ?x4; (case x1 => k_is); (case x2 => k_is); (case x3 => k_is); (case x4 => k_is))
      (case zd16 => refine' K13.DefAt.mk ?x1 ?x2 ?x3 ?x4; (case x1 => k_is); (case x2 => k_is); (case x3 => k_is); (case x4 => k_is))
      (case zd17 => refine' K13.DefAt.mk ?x1 ?x2 ?x3 ?x4; (case x1 => k_is); (case x2 => k_is); (case x3 => k_is); (case x4 => k_is))
      (case zd18 => refine' K13.DefAt.mk ?x1 ?x2 ?x3 ?x4; (case x1 => k_is); (case x2 => k_is); (case x3 => k_is); (case x4 => k_is))
      (case zd19 => refine' K13.DefAt.mk ?x1 ?x2 ?x3 ?x4; (case x1 => k_is); (case x2 => k_is); (case x3 => k_is); (case x4 => k_is))
      (case zd20 => refine' K13.DefAt.mk ?x1 ?x2 ?x3 ?x4; (case x1 => k_is); (case x2 => k_is); (case x3 => k_is); (case x4 => k_is))
      (case zd21 => refine' K13.DefAt.mk ?x1 ?x2 ?x3 ?x4; (case x1 => k_is); (case x2 => k_is); (case x3 => k_is); (case x4 => k_is))
      (case zd22 => refine' K13.DefAt.mk ?x1 ?x2 ?x3 ?x4; (case x1 => k_is); (case x2 => k_is); (case x3 => k_is); (case x4 => k_is))
      (case zd23 => refine' K13.DefAt.mk ?x1 ?x2 ?x3 ?x4; (case x1 => k_is); (case x2 => k_is); (case x3 => k_is); (case x4 => k_is))
      (case zd24 => refine' K13.DefAt.mk ?x1 ?x2 ?x3 ?x4; (case x1 => k_is); (case x2 => k_is); (case x3 => k_is); (case x4 => k_is))
      (case zd25 => refine' K13.DefAt.mk ?x1 ?x2 ?x3 ?x4; (case x1 => k_is); (case x2 => k_is); (case x3 => k_is); (case x4 => k_is))
      (case zd26 => refine' K13.DefAt.mk ?x1 ?x2 ?x3 ?x4; (case x1 => k_is); (case x2 => k_is); (case x3 => k_is); (case x4 => k_is))
      (case zh0 => refine' K13.StrAt.mk ?x1; (case x1 => k_is))
      (case zh1 => refine' K13.StrAt.mk ?x1; (case x1 => k_is))
      (case zh2 => refine' K13.IntAt.mk ?x1; (case x1 => k_is))
      (case zh3 => refine' K13.IntAt.mk ?x1; (case x1 => k_is))
      (case zk0 => refine' ⟨?x1, ?x2⟩; (case x1 => k_is); (case x2 => intro kv hkv; simp only [List.mem_cons, List.not_mem_nil, or_false] at hkv; rcases hkv with rfl | rfl | rfl | rfl <;> (refine' Qt.KDctI.mk ?y1 ?y2 ?y3 ?y4; (case y1 => k_is); (case y2 => exact (Qt.KeysInt.cons rfl rfl (Qt.KeysInt.cons rfl rfl (Qt.KeysInt.cons rfl rfl (Qt.KeysInt.cons rfl rfl Qt.KeysInt.nil))))); (case y3 => rfl); (case y4 => exact ⟨_, rfl⟩))))
      (case zk1 => refine' ⟨?x1, ?x2⟩; (case x1 => k_is); (case x2 => intro kv hkv; simp only [List.mem_cons, List.not_mem_nil, or_false] at hkv; rcases hkv with rfl | rfl | rfl | rfl <;> (refine' Qt.KDctI.mk ?y1 ?y2 ?y3 ?y4; (case y1 => k_is); (case y2 => exact (Qt.KeysInt.cons rfl rfl (Qt.KeysInt.cons rfl rfl (Qt.KeysInt.cons rfl rfl (Qt.KeysInt.cons rfl rfl Qt.KeysInt.nil))))); (case y3 => rfl); (case y4 => exact ⟨_, rfl⟩))))
      (case zo0 => refine' ⟨?x1, ?x2, ?x3, ?x4, ?x5, ?x6, ?x7, ?x8, ?x9, ?y1⟩; (case x1 => k_is); (case x2 => k_is); (case x3 => k_is); (case x4 => k_is); (case x5 => k_is); (case x6 => k_is); (case x7 => k_is); (case x8 => k_is); (case x9 => k_is); (case y1 => intro x hx; simp only [List.mem_cons, List.not_mem_nil, or_false] at hx; rcases hx with rfl | rfl | rfl <;> k_is))
      (case zi0 => refine' Qt.FnAt.mk ?x1 ?x2 ?x3; (case x1 => k_is); (case x2 => k_is); (case x3 => k_is))
      (case zm0_0 => refine' Qt.MethAt.mk ?x1 ?x2 ?x3 ?x4 ?x5; (case x1 => k_is); (case x2 => k_is); (case x3 => k_is); (case x4 => k_is); (case x5 => k_is))
      (case zm0_1 => refine' Qt.MethAt.mk ?x1 ?x2 ?x3 ?x4 ?x5; (case x1 => k_is); (case x2 => k_is); (case x3 => k_is); (case x4 => k_is); (case x5 => k_is))
      (case zx0 => refine' ⟨?x1, ?x2, ?x3, ?x4, ?x5⟩; (case x1 => k_is); (case x2 => kernel_rfl); (case x3 => k_is); (case x4 => k_is); (case x5 => k_is))
      (case zbb =>
        intro x hx
        simp only [List.mem_cons, List.not_mem_nil, or_false] at hx
        rcases hx with rfl | rfl | rfl | rfl | rfl | rfl | rfl | rfl | rfl | rfl | rfl | rfl | rfl <;> k_is)
