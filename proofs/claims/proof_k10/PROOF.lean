import PyProof.Rows.All
import Wide.All
import OpenK.AllK
import Wide.FinOn
import HandS.ForMost
import HandS.ForExc
import HandS.ExcInit
import HandS.TryMany
import HandS.IsInst
import HandS.Strs
import HandS.Evl
import HandS.Wide
import HandS.Conv
import HandS.SetFor
import HandS.SetKeys
import HandS.ExcField
import HandS.Walk
import KE.GoesMore
import HandS.TupMul
import HandS.SortKw
import KE.GoesEnum
import HandS.NoneIn
import PyProof.ListStr
import HandS.Sort
import HandS.Flow
import HandS.WordsDict
import HandS.DictComp
import HandS.Defaults
import KE.SortData
import KE.DataMinMax
import HandS.Style
import HandS.Replace
import KE.KDictZip
import PySem.Challenge.RW_holedwindows_k10_letters_refused
set_option Elab.async false
set_option linter.all false
set_option maxRecDepth 100000
set_option maxHeartbeats 4000000
/-! Rules of our own: the base class's __init__ by an own class's name. -/
namespace Qt
open PySem PySem.Spec PyProof.Rows L2

section
variable {X : Cx} {e : Expr} {es : List Expr} {ta : TA} {x : Str} {p p1 p2 pos : Pos} {W : Addr}
/-- what the top says of an own class W over ValueError: W.__init__ is ValueError's -/
structure OwnBase (K : PySem.W.Frag) (W : Addr) : Prop where
  rd : PySem.W.readsIn K W (.type "type") = true
  ga : PySem.W.specialIn K (.ref W) "__getattribute__" = some (some (.builtin "type.__getattribute__"))
  it : PySem.W.findCls K (.ref W) (.type "type") "__init__" = some (.val (.builtin "ValueError.__init__"))
theorem pe_ownInit {pl : Sem Bool} (hg : Gl X x) (hm : X.mg x = some (.ref W)) (o : OwnBase X.K W) (ha : PA X (e :: es) ta)
    (hdb : (x == ("__debug__" : Str)) = false := by decide)
    (hc : eval (.Call (.Attribute (.Name x p1) "__init__" p2) (e :: es) [] pos) X.env = (do
      let ov ← eval (.Name x p1) X.env
      standAt p2.atName
      let (f, first) ← holding [ov] (getMethod ov "__init__" pl)
      callWith pos f first (backTo pos (starEach (e :: es) X.env)) (backToKw pos (keywordEach [] X.env))) := by rfl)
    (he : starEach (e :: es) X.env = (false, eval e X.env) :: starEach es X.env := by rfl) (hpl : (backTo pos (starEach es X.env)).any (·.1) = false := by rfl) :
    PE X (.Call (.Attribute (.Name x p1) "__init__" p2) (e :: es) [] pos) (tVeI X.K ta) := by
  refine ⟨fun pins s σ H Q I h => ?_⟩
  refine PySem.W.methodCall_KW (ld_glob I hg hm ?_ hdb) hc
  refine PySem.W.method_cls I.kIn o.ga (PySem.W.cls_value I.kIn o.rd o.it (by decide +kernel) ?_)
  show wpAny _ _ (callWith pos (Value.builtin "ValueError.__init__") [] (backTo pos (starEach (e :: es) X.env)) []) _ _ _
  refine callWith_method1 (thn (ha.run pos pins _ σ H _ (I.tok _) h) fun us s1 hh => ?_) he hpl
  obtain ⟨vs, H1, I1, r1, a, C, ws, ev, hl, T, ea, q⟩ := hh
  subst ev
  cases r1 with
  | @cons _ u0 _ ur ra rw' =>
    obtain rfl : u0 = Value.ref a := ra
    have hlen : ur.length ≤ sizeLine := by
      rw [← Paired.length rw', sizeLine_eq]
      omega
    exact oinit_ok T I1 ea hlen fun s' J => ⟨.non, H1, J, rfl, q⟩
end
end Qt
/-! del xs[a:] of a list. -/
namespace Qt
open PySem PySem.Spec PyProof.Rows L2

theorem keepFront {α : Type} (a : Nat) : ∀ (f : α × Nat → Option α) (l : List α) (i n : Nat), i + l.length = n → (∀ x k, k < n → f (x, k) = if a ≤ k then none else some x) →
    ((l.zipIdx i).filterMap f) = l.take (a - i)
  | f, [], i, n, _, _ => by simp
  | f, x :: l, i, n, e, hs => by
    have ih := keepFront a f l (i + 1) n (by rw [List.length_cons] at e; omega) hs
    rw [List.length_cons] at e
    rw [List.zipIdx_cons, List.filterMap_cons, hs x i (by omega)]
    by_cases h : a ≤ i
    · have e0 : a - i = 0 := by omega
      have e1 : a - (i + 1) = 0 := by omega
      rw [if_pos h, e0, List.take_zero]
      rw [e1, List.take_zero] at ih
      exact ih
    · have e1 : a - i = (a - (i + 1)) + 1 := by omega
      rw [if_neg h, e1, List.take_succ_cons, ← ih]
section
variable {prog : Program} {w : World} {A : Around} {E : Value → Shared → Prop} {s : Shared}
theorem tail_bounds {a n : Nat} (h : a ≤ n) : sliceBounds (some (a : Int)) none none n = ((a : Int), (n : Int), 1) := by
  have h1 : ¬ ((a : Int) < 0) := by omega
  simp only [sliceBounds, Option.getD_none, h1, if_false, show (1 : Int) > 0 by decide, if_true]
  congr 1
  omega
theorem take_le' {α : Type} (a : Nat) (l : List α) : (l.take a).length ≤ l.length := by rw [List.length_take]; omega
theorem delItem_tail {l sl : Addr} {items : List Value} {n : Nat} {vl : Value} {a : Nat} {Q : Unit → Shared → Prop}
    (e : s.heap.get? l = some { cls := .type "list", data := .seq items.toArray n }) (hs : s.heap.IsSliceOf sl vl .none .none) (pl : IsPart vl (some (a : Int))) (ha : a ≤ items.length) (hz : items.length ≤ sizeLine)
    (h : ∀ f : Array Value → Array Value, f items.toArray = (items.take a).toArray → Q () { s with heap := s.heap.update l (Obj.mapSeq f) }) :
    wpAny (model prog w) A (delItem (.ref l) (.ref sl)) Q E s := by
  have hl : s.heap.IsList l items.toArray := PySem.IsL.isList e
  obtain ⟨os, hos, hcs, hds⟩ := id hs
  have hTs : s.TypeIs (.ref sl) "slice" := ⟨os, hos, hcs⟩
  have hsize : items.toArray.size = items.length := List.size_toArray ..
  have hstep : ¬ ((rawPart none == rawInt 0) = true) := Bool.false_ne_true
  refine wpAny_delItem_slot hl.typeIs (by decide) F.slot_list_delitem (wpAny_call_entry F.slot_list_delitem hl.typeIs F.entry_list_delitem ?_ (F.args_list_delitem_2 _ _))
  unfold Builtin.«list.__delitem__»
  refine wpAny_bind (wpAny_pure ?_)
  dsimp only
  refine wpAny_bind ?_
  unfold Builtin.List.listSubscript?
  refine wpAny_bind (wpAny_specialOf hTs slice_no_index ?_)
  simp only [Option.isNone_none, if_true]
  refine wpAny_pure ?_
  dsimp only
  refine wpAny_bind (wpAny_typeOf hTs ?_)
  rw [if_neg (by decide), listSliceParts_eq]
  refine wpAny_bind (wpAny_bind (wpAny_field hos hds (x := .none) rfl (wpAny_bind (wpAny_listPart .none ?_))))
  rw [if_neg hstep]
  refine wpAny_bind (wpAny_field hos hds (x := vl) rfl (wpAny_bind (wpAny_listPart pl ?_)))
  refine wpAny_bind (wpAny_field hos hds (x := .none) rfl (wpAny_bind (wpAny_listPart .none (wpAny_pure ?_))))
  unfold Builtin.List.listItems
  refine wpAny_bind (wpAny_bind (wpAny_seqItems e rfl (wpAny_pure ?_)))
  rw [hsize]
  refine wpAny_bind (wpAny_of_eq ((sliceIndices_raw (some (a : Int)) none none items.length (by simp)).trans (congrArg (pure : Int × Int × Int → Sem (Int × Int × Int)) (tail_bounds ha))) ?_)
  refine wpAny_bind (wpAny_rule ?_)
  have key : ∀ f : Value × Nat → Option Value, (∀ x k, k < items.length → f (x, k) = if a ≤ k then none else some x) → (items.zipIdx.filterMap f).toArray = (items.take a).toArray := fun f hf => by
    rw [keepFront a f items 0 items.length (by omega) hf, Nat.sub_zero]
  have hk : ∀ (x : Value) (k : Nat), k < items.length → (if (if (1 : Int) > 0 then (decide ((a : Int) ≤ (k : Int)) && decide ((k : Int) < (items.length : Int)) && (((k : Int) - (a : Int)) % 1 == 0)) else false) = true then none else some x) = if a ≤ k then none else some x := fun x k hk => by
    rw [if_pos (show (1 : Int) > 0 by decide)]
    have e1 : (((k : Int) - (a : Int)) % 1 == 0) = true := by rw [Int.emod_one]; rfl
    rw [e1, Bool.and_true, decide_eq_true (by omega : (k : Int) < (items.length : Int)), Bool.and_true]
    by_cases h1 : a ≤ k
    · rw [if_pos (decide_eq_true (by omega)), if_pos h1]
    · rw [if_neg (by simp; omega), if_neg h1]
  refine wpAny_bind ?_
  show wpAny _ _ (updateSeq l _) _ _ s
  refine wpAny_updateSeq e rfl ?_ (by rw [hsize]; exact hz) ?_
  · refine wpAny_bind (wpAny_letGo (wpAny_pure ⟨.none, rfl, h _ ?_⟩))
    exact key _ hk
  · refine Nat.le_trans (m := items.length) ?_ (Nat.le_succ_of_le hz)
    refine Nat.le_trans (Nat.le_of_eq (congrArg Array.size (key _ hk))) ?_
    rw [List.size_toArray]
    exact take_le' a items
end
section
variable {X : Cx} {o i : Expr} {to ti : TE} {p2 tpos pos : Pos}
def tDelTail (to : TE) (ti : TE) : TS := fun D σ H => to σ H fun x H1 => ti σ H1 fun y H2 => ∃ (l : Addr) (xs : List V) (a : Nat), x = .ref l ∧ y = .int (a : Int) ∧ H2 l = some (.lst xs) ∧ a ≤ xs.length ∧ D.nx σ (upd H2 l (.lst (xs.take a)))
theorem ps_delTail (ho : PE X o to) (hi : PE X i ti) : PS X (.Delete [.Subscript o (.Slice (some i) none none p2) tpos] pos) (tDelTail to ti) := by
  refine ⟨fun pins s σ H D I h => ?_⟩
  refine wpAny_Delete (wpAny_deleteEach_cons (wpAny_delete_Subscript (thn (ho.run pins s σ H _ I h) fun u s1 hh => ?_)))
  obtain ⟨x, H1, I1, rx, q1⟩ := hh
  refine wpAny_Slice ?_
  rw [evalPart_some]
  refine thn (hi.run pins s1 σ H1 _ I1 q1) fun iv s2 hh => ?_
  obtain ⟨y, H2, I2, ry, q2⟩ := hh
  rw [evalPart_none]
  refine wpAny_pure (wpAny_pure ?_)
  obtain ⟨l, xs, a, ex, ey, hH, ha, q2⟩ := q2
  subst ex
  subst ey
  cases (show u = Value.ref l from rx)
  obtain ⟨t, rfl⟩ := (show ∃ t, iv = Value.int (a : Int) t from ry)
  have I4 : Inv X pins σ H2 { s2 with heap := s2.heap.push { cls := .type "slice", data := .fields #[.int (a : Int) t, .none, .none] } } := I2.kept (t' := s2.toks) fun b ob q => Heap.get?_push_of_some _ q
  obtain ⟨z, its, n, r, hl, e⟩ := I4.lstM hH
  refine delItem_tail (a := a) e (Heap.IsSliceOf.new ..) (.int _ _) (by rw [← hl]; exact ha) (by rw [← hl]; exact z) fun f hf => ?_
  refine wpAny_deleteEach_nil ⟨σ, _, ?_, q2⟩
  exact I4.lset (its' := its.take a) (t' := s2.toks) hH e hf (r.take a) (Nat.le_trans (take_le' a xs) z)
end
end Qt
/-! set(xs) of a list: whatever the turns of its loop leave. -/
namespace Qt
open PySem PySem.Spec PyProof.Rows L2

/-- a set that was just made -/
abbrev sob (w : World) : Obj := { cls := .type "set", dict := none, data := .set #[] 0 (.fresh 0 0 (!w.params.followText "set-order")) }
section
variable {P : Program} {w : World} {A : Around} {E : Value → Shared → Prop} {s : Shared}
/-- the loop of set(xs) over these items leaves the set as Post says -/
def Fills (P : Program) (w : World) (items : Array Value) (Post : Addr → Heap → Prop) : Prop :=
  ∀ (A' : Around) (I : Addr) (fp wr : List Addr) (G : Array GenState → Array GenState → Prop) (St : Nat → Shared → Prop) (R : Result → Shared → Prop),
    WalksS P w A'.in1 I fp wr G items.size (fun i v => items[i]? = some v) St → ∀ (S : Addr), S ∉ fp → ∀ s0 : Shared, St 0 s0 → s0.heap.get? S = some (sob w) →
    (∀ s', Moved (S :: wr) G s0 s' → Post S s'.heap → R (.ok (.ret .none)) s') → codeAny (model P w) A' (.builtin "set.update.loop" ⟨[.ref S, .ref I], []⟩) R s0
set_option maxHeartbeats 16000000 in
theorem set_of_list {l : Addr} {items : Array Value} {Post : Addr → Heap → Prop} {Q : Value → Shared → Prop} (hh : A.handled = none) (hl : s.heap.IsList l items) (loop : Fills P w items Post)
    (h : ∀ (h' : Heap) (tk : Nat), Post s.heap.objs.size h' → (∀ b o, s.heap.get? b = some o → h'.get? b = some o) → Q (.ref s.heap.objs.size) { s with heap := h', toks := tk }) :
    wpAny (model P w) A (call (.type "set") [.ref l]) Q E s := by
  obtain ⟨c, tl, hmro⟩ := F.called_set.mro
  have hmade := F.called_set.made
  have hsub := F.called_set.sub
  have h1 := F.called_set.notType
  have h2 := F.called_set.canCreate
  have hct := F.typeCall_set_1 (.ref l)
  refine wpAny_call (codeAny_of_tree ?_)
  show wpAny _ _ (callAny (.type "set") _) _ _ _
  refine wpAny_pure ⟨Code.quiet_builtin _ (by decide +kernel), codeAny_builtin F.entry_type_call ?_⟩
  rw [Around.under_plain (weight_type_call_type "set" [.ref l] []) rfl]
  repeat (any_goals (first | assumption | wp_step))
  refine codeAny_mono (code_set_led1 (.ref l) (E := E) (Q₁ := fun obj s₁ => obj = .ref s.heap.objs.size ∧ s₁ = { s with heap := s.heap.push (sob w) }) ⟨rfl, rfl⟩) fun r s₁ hr => ?_
  rcases r with er | fl
  · exact hr
  cases fl
  case ret obj =>
    obtain ⟨rfl, rfl⟩ := hr
    have hS : (s.heap.push (sob w)).get? s.heap.objs.size = some (sob w) := Heap.get?_push_size _ rfl
    have hT : Shared.TypeIs { s with heap := s.heap.push (sob w) } (.ref s.heap.objs.size) "set" := ⟨_, hS, rfl⟩
    have hli := F.called_set.init.lookup
    have hbi := F.called_set.init.bind (.ref s.heap.objs.size)
    repeat (any_goals (first | assumption | wp_step))
    refine codeAny_mono (codeAny_call_builtin (R := wants (fun r s₂ => r = .none ∧ ∃ h' tk, s₂ = { s with heap := h', toks := tk } ∧ Post s.heap.objs.size h' ∧ ∀ b o, s.heap.get? b = some o → h'.get? b = some o) E)
      F.called_set.init.plain F.entry_set_init (check_set_init_1 hT ?_)) fun r₂ s₂ hr₂ => ?_
    · obtain ⟨ol, hol, hcl, nl, hdl⟩ := hl
      obtain ⟨ocls, odict, odata, oslots⟩ := ol
      simp only at hcl hdl
      subst hcl
      subst hdl
      have hol' : (s.heap.push (sob w)).get? l = some { cls := .type "list", dict := odict, data := .seq items nl, slots := oslots } := Heap.get?_push_of_some _ hol
      have hsls := F.sub_list_set
      have hslf := F.sub_list_frozenset
      have hne : (Value.type "list" == Value.type "dict") = false := by decide
      have hl1 : (s.heap.push (sob w)).IsList l items := ⟨_, hol', rfl, nl, rfl⟩
      unfold Builtin.«set.__init__» noKeywords Builtin.Frozenset.updateFrom
      generalize hPI : pyIter = PI
      wp_walk
      subst hPI
      refine wpAny_pyIter_list hl1 ?_
      refine wpAny_bind (wpAny_runValue ?_)
      have hlS : l < s.heap.objs.size := Heap.lt_size hol
      have hz : (s.heap.push (sob w)).objs.size = s.heap.objs.size + 1 := Heap.size_push ..
      have hneI : l ≠ (s.heap.push (sob w)).objs.size := by
        rw [hz]
        exact Nat.ne_of_lt (Nat.lt_succ_of_lt hlS)
      have hSf : s.heap.objs.size ∉ [(s.heap.push (sob w)).objs.size, l] := fun z => by
        rcases List.mem_cons.mp z with z | z
        · rw [hz] at z
          exact absurd z (Nat.ne_of_lt (Nat.lt_succ_self _))
        · exact absurd (List.mem_singleton.mp z) (Nat.ne_of_gt hlS)
      refine loop _ _ _ _ _ _ _ ((Walks.list (by simp [hh]) _ l hneI items).toS) s.heap.objs.size hSf _ ⟨⟨_, Heap.get?_push_size _ rfl, rfl, rfl⟩, (hl1.push _)⟩ (Heap.get?_push_of_some _ hS) fun s' hm hp => ?_
      obtain ⟨h', g2, d', tk', os'⟩ := s'
      obtain rfl : g2 = s.gens := hm.gens
      obtain rfl : d' = s.drawn := hm.drawn
      obtain rfl : os' = s.os := hm.os
      show wpAny _ _ _ _ _ _
      refine wpAny_pure ?_
      show wpAny _ _ (ret Value.none) _ _ _
      refine wpAny_pure ⟨rfl, h', tk', rfl, hp, fun b o e => ?_⟩
      have hb0 : b < s.heap.objs.size := Heap.lt_size e
      refine hm.heap b o (fun z => ?_) (Heap.get?_push_of_some _ (Heap.get?_push_of_some _ e))
      rcases List.mem_cons.mp z with z | z
      · exact absurd z (Nat.ne_of_lt hb0)
      · have z' := List.mem_singleton.mp z
        rw [hz] at z'
        exact absurd z' (Nat.ne_of_lt (Nat.lt_succ_of_lt hb0))
    · rcases r₂ with er | fl₂
      · exact hr₂
      cases fl₂
      case ret r =>
        obtain ⟨rfl, h', tk, rfl, hp, hk'⟩ := hr₂
        repeat (any_goals (first | assumption | wp_step))
        exact h _ _ hp hk'
      all_goals exact hr₂.elim
  all_goals exact hr.elim
/-- ints -/
theorem fills_ints {items : Array Value} {ns : List Int} (hit : IntsAre items.toList ns) (hb : ns.length + 1 < scanBound) :
    Fills P w items fun S h => ∃ c, c ≤ ns.length ∧ SetR w h S (fun j => decide (j ∈ ns)) c := by
  have hn : items.size = ns.length := by
    have q := IntsAre.length hit
    rwa [Array.length_toList] at q
  intro A' I fp wr G St R W S hS s0 hst h0 hR
  refine set_update_ints W S hS ns hn hb (fun i v hv => ?_) (items.size - 0) 0 s0 rfl (Nat.zero_le _) hst ⟨0, Nat.le_refl 0, setR_new_at h0⟩ fun s' c hm hc hS' => hR s' hm ⟨c, by omega, hS'⟩
  have hi : i < ns.length := by
    rw [← hn]
    exact (Array.getElem?_eq_some_iff.mp hv).1
  obtain ⟨t, e⟩ := IntsAre.int_at hit i v (by rw [Array.getElem?_toList]; exact hv)
  refine ⟨ns[i], t, List.getElem?_eq_getElem hi, ?_⟩
  rw [e, List.getD_eq_getElem?_getD, List.getElem?_eq_getElem hi] <;> rfl
end
section
variable {X : Cx}
/-- set(xs), xs a list of ints -/
def rSetI (K : PySem.W.Frag) (w : World) : List V → Hp → VK → Prop := fun xs H Q => ∃ (l : Addr) (ns : List Int), xs = [.ref l] ∧ SqL K H l (ns.map V.int) ∧ ns.length ≤ 1000 ∧
  ∀ p c, c ≤ ns.length → H p = none → Q (.ref p) (upd H p (SetO w p (fun j => decide (j ∈ ns)) c))
theorem cr_setI (hc : X.calm = true) : CallR X (.type "set") (rSetI X.K X.w) := by
  intro pins s σ H xs us Q I r h
  obtain ⟨l, ns, rfl, hs, hz, q⟩ := h
  rw [Vals.ref1 r]
  obtain ⟨its, rv, hl, _⟩ := I.list hs
  have fl : Fills X.prog X.w its.toArray fun S h => ∃ c, c ≤ ns.length ∧ SetR X.w h S (fun j => decide (j ∈ ns)) c := fills_ints (ns := ns) (by simpa using rv.ints) (by unfold scanBound; omega)
  refine set_of_list (I.ok.hd hc) hl.isList fl fun h' tk hp hk => ?_
  obtain ⟨c, hc', hS⟩ := hp
  exact ⟨.ref _, _, I.laid (t' := tk) hk (Nat.le_refl _) (setO_new hS), rfl, q _ c hc' (I.hok.fresh (Nat.le_refl _))⟩
end
end Qt
/-! try with several clauses, with a name and without one. -/
namespace Qt
open PySem PySem.Spec PyProof.Rows L2

/-- the ends of a suite whose error has the name in slot i -/
def unnamed (i : Nat) (D : Ends) : Ends := { nx := fun σ' H' => D.nx (σ'.set i none) H', rt := D.rt, bk := fun σ' H' => D.bk (σ'.set i none) H', ct := fun σ' H' => D.ct (σ'.set i none) H' }
abbrev Suite := Addr → Value → Option Addr → TS
/-- what the clauses wish of an error, one behind the other -/
def wMix (K : PySem.W.Frag) (Wout : WX) (D : Ends) : List (Value × Option Nat × Suite) → WX
  | [] => Wout
  | (c, o, ts) :: r => fun cls d σ H => ∃ b, PySem.W.exmOne K cls c = some b ∧
      (b = true → ∀ a, H a = none → match o with
        | none => ts a cls d D σ H
        | some i => ts a cls d (unnamed i D) (σ.set i (some (.ref a))) H) ∧ (b = false → wMix K Wout D r cls d σ H)
inductive Hds (X : Cx) : List ExceptHandler → List (Value × Option Nat × Suite) → Prop
  | nil : Hds X [] []
  | plain {x : Str} {c : Value} {ts : Suite} {b₀ : Stmt} {suite : List Stmt} {np pos' : Pos} {hds : List ExceptHandler} {l : List (Value × Option Nat × Suite)} (hc : Names X x c)
      (hsu : ∀ (a : Addr) (oe : Obj) (cls : Value) (d : Option Addr) (pn : List (Addr × Obj)), Zc cls d oe → (∃ vs, oe.data = .fields vs) → PSs (X.suite a ((a, oe) :: pn)) (b₀ :: suite) (ts a cls d)) (r : Hds X hds l) :
      Hds X (.ExceptHandler (some (.Name x np)) none (b₀ :: suite) pos' :: hds) ((c, none, ts) :: l)
  | named {x n : Str} {i : Nat} {c : Value} {ts : Suite} {b₀ : Stmt} {suite : List Stmt} {np pos' : Pos} {hds : List ExceptHandler} {l : List (Value × Option Nat × Suite)} (hc : Names X x c) (hi : X.N[i]? = some n) (hln : X.env.kindOf n = some .local)
      (hsu : ∀ (a : Addr) (oe : Obj) (cls : Value) (d : Option Addr) (pn : List (Addr × Obj)), Zc cls d oe → (∃ vs, oe.data = .fields vs) → PSs (X.suite a ((a, oe) :: pn)) (b₀ :: suite) (ts a cls d)) (r : Hds X hds l) :
      Hds X (.ExceptHandler (some (.Name x np)) (some n) (b₀ :: suite) pos' :: hds) ((c, some i, ts) :: l)
section
variable {X : Cx} {body : List Stmt} {h₀ : ExceptHandler} {hds : List ExceptHandler} {l : List (Value × Option Nat × Suite)} {pos : Pos} {tb : WX → TS} {Wout : WX}
theorem ps_try_mix (hs : X.stack = X.env :: X.outer) (hf : X.env.frame = some X.env.locals) (hN : X.N.Nodup) (tk : Takes X Wout)
    (hb : ∀ (W : WX) (pn : List (Addr × Obj)) (xe : Value → Shared → Prop), Takes (X.tr pn xe) W → PassesOwn (model X.prog X.w) X.A X.env xe → PSs (X.tr pn xe) body (tb W))
    (hh : Hds X (h₀ :: hds) l) : PS X (.Try body (h₀ :: hds) [] [] pos) (fun D σ H => tb (wMix X.K Wout D l) D σ H) := by
  refine ⟨fun pins s σ H D I h => ?_⟩
  have ok := I.ok
  have hfr : X.A.frames = some (X.env :: X.outer) := by rw [ok.frames, hs]
  refine wpAny_Try_except ?_
  have catch_ : ∀ (u : Value) (s' : Shared), XE (X.tr (X.pn ++ pins) (fun e s₁ => wpAny (model X.prog X.w) X.A (noteFrame e X.env) (fun _ s₂ => wpAny (model X.prog X.w) X.A (setFlight e none) (fun _ s₃ =>
      wpAny (model X.prog X.w) X.A (handleBy e X.env (h₀ :: hds)) (SP X pins D) X.xe s₃) X.xe s₂) X.xe s₁)) (wMix X.K Wout D l) u s' →
      wpAny (model X.prog X.w) X.A (noteFrame u X.env) (fun _ s₂ => wpAny (model X.prog X.w) X.A (setFlight u none) (fun _ s₃ => wpAny (model X.prog X.w) X.A (handleBy u X.env (h₀ :: hds)) (SP X pins D) X.xe s₃) X.xe s₂) X.xe s' := by
    intro u s' xx
    obtain ⟨a, B, sI, pins', σ', H', cls, d, rfl, J', nb, up, sky, na, os, ag, w⟩ := xx
    have J : Inv X pins σ' H' sI := J'.ofTry ok
    have sky' : Sky B (X.env :: X.outer) a (Zc cls d) X.env.locals s'.heap := by
      rw [← hs]
      exact sky
    refine Sky.land Zc.steady hfr hf sky' fun h3 fl3 up3 => ?_
    have J3 : Inv X pins σ' H' { s' with heap := h3 } := J.landed nb fl3.1 (up.trans up3) os ag
    obtain ⟨oe3, vs3, he3, hz3, hd3⟩ := fl3.there
    have nfr : a ∉ frs (X.env :: X.outer) := fun hm => by
      obtain ⟨_, o', e', hnf⟩ := fl3.2.2.1.mem hm
      rw [he3] at e'
      cases e'
      exact hnf _ hd3
    have nL : a ≠ X.env.locals := fun z => nfr (List.mem_filterMap.mpr ⟨X.env, List.mem_cons_self, by rw [hf, z]⟩)
    have nF : a ∉ X.fs := fun hm => by
      obtain ⟨e, he, q⟩ := List.mem_filterMap.mp hm
      exact nfr (List.mem_filterMap.mpr ⟨e, List.mem_cons_of_mem _ he, q⟩)
    have S3 := J3.suite he3 hd3 na nL nF
    have LT : PySem.W.Looks (model X.prog X.w) h3 (typeOf (.ref a)) cls := fun A Q E s k q => wpAny_typeOf_ref (k _ _ he3) (by rw [hz3.1]; exact q)
    have test : ∀ {x : Str} {c : Value} {np : Pos} {Q : Value → Shared → Prop} {E : Value → Shared → Prop}, Names X x c → Q c { s' with heap := h3 } →
        wpAny (model X.prog X.w) (X.A.mark (some (.ref a))) (eval (.Name x np) X.env) Q E { s' with heap := h3 } := fun {x c np Q E} hc q => by
      obtain ⟨hg, hdbg, hm | ⟨hm, hv, hnn⟩⟩ := hc
      · exact ld_glob (X := X.suite a ((a, oe3) :: (X.pn ++ pins))) S3 hg hm q hdbg
      · exact ld_blt (X := X.suite a ((a, oe3) :: (X.pn ++ pins))) S3 hg hm hv q hnn hdbg
    have go : ∀ {hds' : List ExceptHandler} {l' : List (Value × Option Nat × Suite)}, Hds X hds' l' → wMix X.K Wout D l' cls d σ' H' →
        wpAny (model X.prog X.w) X.A (handleBy (.ref a) X.env hds') (SP X pins D) X.xe { s' with heap := h3 } := by
      intro hds' l' hk
      induction hk with
      | nil =>
        intro w
        refine wpAny_handleBy_nil ?_
        obtain ⟨k1, k2, k3, oe, vs, T, oT, ts', he, hz, hd, h1, hr⟩ := id fl3
        unfold PySem.passOn
        refine wpAny_bind (wpAny_field he hd h1 ?_)
        rw [if_neg (show ¬ ((Value.ref T == Value.none) = true) from by simp)]
        have fin : wpAny (model X.prog X.w) X.A (setFlight (.ref a) X.env.frame) (fun _ s4 => wpAny (model X.prog X.w) X.A (throw (.ref a) : Sem Flow) (SP X pins D) X.xe s4) X.xe { s' with heap := h3 } := by
          rw [hf]
          refine HandSPX.setFlight_upZ fl3 fun h4 hh4 up4 => wpAny_throw (tk _ _ ?_)
          exact ⟨a, B, sI, pins, σ', H', cls, d, rfl, J, nb, (up.trans up3).trans up4, .inr (.inr (by rw [hs]; exact hh4)), na, os, ag, w⟩
        first
          | exact wpAny_bind (wpAny_pure (wpAny_bind fin))
          | exact wpAny_bind fin
      | @plain x c ts b₀ suite np pos' hds2 l2 hc hsu r ih =>
        intro w
        obtain ⟨b, hb1, hyes, hno⟩ := w
        have LM := PySem.W.exm_one (M := model X.prog X.w) (J3.kIn) LT hb1
        refine wpAny_handleBy_cons (codeAny_handlers_test ?_) (by intro q; cases q)
        refine test hc (LM.here ?_)
        cases b with
        | true =>
          refine codeAny_handlers_suite ?_
          refine HandSPX.lands_againZ fl3 fun h4 fl4 up4 => ?_
          have J4 : Inv X pins σ' H' { s' with heap := h4 } := J.landed nb fl4.1 ((up.trans up3).trans up4) os ag
          obtain ⟨oe4, vs4, he4, hz4, hd4⟩ := fl4.there
          have S4 := J4.suite he4 hd4 na nL nF
          refine wpAny_mono ((hsu a oe4 cls d (X.pn ++ pins) hz4 ⟨_, hd4⟩).run [] _ _ H' _ S4 (hyes rfl a na)) (fun f s6 hsp => ?_) (fun _ _ z => False.elim z)
          cases f
          case ret u =>
            obtain ⟨v6, σ6, H6, S6, r6, q6⟩ := hsp
            exact ⟨_, _, _, S6.unsuite ok, r6, q6⟩
          all_goals
            obtain ⟨σ6, H6, S6, q6⟩ := hsp
            exact ⟨_, _, S6.unsuite ok, q6⟩
        | false =>
          show wpAny _ X.A (handleBy (.ref a) X.env hds2) _ _ _
          exact ih (hno rfl)
      | @named x n i c ts b₀ suite np pos' hds2 l2 hc hi hln hsu r ih =>
        intro w
        obtain ⟨b, hb1, hyes, hno⟩ := w
        have LM := PySem.W.exm_one (M := model X.prog X.w) (J3.kIn) LT hb1
        refine wpAny_handleBy_cons (codeAny_handlers_test ?_) (by intro q; cases q)
        refine test hc (LM.here ?_)
        cases b with
        | true =>
          refine codeAny_handlers_suite_as ?_
          refine HandSPX.lands_againZ fl3 fun h4 fl4 up4 => ?_
          have J4 : Inv X pins σ' H' { s' with heap := h4 } := J.landed nb fl4.1 ((up.trans up3).trans up4) os ag
          obtain ⟨oe4, vs4, he4, hz4, hd4⟩ := fl4.there
          have S4 := J4.suite he4 hd4 na nL nF
          refine store_ok (X := X.suite a ((a, oe4) :: (X.pn ++ pins))) (v := .ref a) S4 hN hi (.inl hln) rfl (fun s5 S5 => ?_) (.inr hln)
          refine wpAny_mono ((hsu a oe4 cls d (X.pn ++ pins) hz4 ⟨_, hd4⟩).run [] s5 _ H' _ S5 (hyes rfl a na)) (fun f s6 hsp => ?_) (fun _ _ z => False.elim z)
          have end_ : ∀ {σ6 : L2.St} {H6 : Hp} {Q : Shared → Prop}, Inv (X.suite a ((a, oe4) :: (X.pn ++ pins))) [] σ6 H6 s6 → (∀ s7, Inv X pins (σ6.set i none) H6 s7 → Q s7) →
              wpAny (model X.prog X.w) X.A (do bindName X.env n .none; unbindBehindTheSuite X.env n pos') (fun _ s7 => Q s7) X.xe s6 := fun {σ6 H6 Q} S6 hq => gone_ok (S6.unsuite ok) hN hi hln hq
          cases f
          case ret u =>
            obtain ⟨v6, σ6, H6, S6, r6, q6⟩ := hsp
            exact end_ S6 fun s7 J7 => ⟨_, _, _, J7, r6, q6⟩
          all_goals
            obtain ⟨σ6, H6, S6, q6⟩ := hsp
            exact end_ S6 fun s7 J7 => ⟨_, _, J7, q6⟩
        | false =>
          show wpAny _ X.A (handleBy (.ref a) X.env hds2) _ _ _
          exact ih (hno rfl)
    exact go hh w
  refine wpAny_mono ((hb (wMix X.K Wout D l) (X.pn ++ pins) _ (fun u s' xx => catch_ u s' xx) PassesOwn.looking).run [] s σ H D (I.toTry _) h) (fun f s1 hsp => ?_) (fun e s1 he => he)
  cases f with
  | next =>
    obtain ⟨σ', H', J', q⟩ := hsp
    exact wpAny_execs_nil ⟨σ', H', J'.ofTry ok, q⟩
  | brk =>
    obtain ⟨σ', H', J', q⟩ := hsp
    exact ⟨σ', H', J'.ofTry ok, q⟩
  | cont =>
    obtain ⟨σ', H', J', q⟩ := hsp
    exact ⟨σ', H', J'.ofTry ok, q⟩
  | ret u =>
    obtain ⟨v, σ', H', J', r, q⟩ := hsp
    exact ⟨v, σ', H', J'.ofTry ok, r, q⟩
end
end Qt
/-! text * number. -/
namespace Qt
open PySem PySem.Spec PyProof.Rows L2

def repS (z : Str) (k : Nat) : Str := ⟨((List.replicate k z.cps.toList).flatten).toArray⟩
theorem foldl_app (l : List (Array Nat)) : ∀ a : Array Nat, (l.foldl (· ++ ·) a).toList = a.toList ++ (l.map Array.toList).flatten := by
  induction l with
  | nil => intro a; simp
  | cons x l ih => intro a; rw [List.foldl_cons, ih]; simp
theorem repS_fold (z : Str) (k : Nat) : (⟨(List.replicate k z.cps).foldl (· ++ ·) #[]⟩ : Str) = repS z k := by
  unfold repS
  congr 1
  apply Array.toList_inj.mp
  rw [foldl_app]
  simp
theorem repS_one (z : Str) : repS z 1 = z := by
  unfold repS
  simp
theorem repS_zero (z : Str) : repS z 0 = Str.empty := rfl
theorem repS_nil (z : Str) (k : Nat) (h : z.cps.toList = []) : repS z k = z := by
  unfold repS
  rw [h]
  obtain ⟨c⟩ := z
  have e : c = #[] := by simpa using h
  subst e
  simp
section
variable {X : Cx}
theorem op_mulS : OpR X (binaryOp .Mult) (fun x y H Q => ∃ (z : Str) (k : Nat), x = .str z ∧ y = .int (k : Int) ∧ k ≤ 1000 ∧ z.length ≤ 1000 ∧ Q (.str (repS z k)) H) := by
  intro pins s σ H x y v u Q I rx ry h
  obtain ⟨z, k, rfl, rfl, hk, hz, q⟩ := h
  obtain ⟨t, rfl⟩ := rx
  obtain ⟨t', rfl⟩ := ry
  have hcap : z.length * k ≤ 1000000 := Nat.le_trans (Nat.mul_le_mul hz hk) (by decide)
  refine PySem.P.mul_str (x := z) (n := (k : Int)) (by
      have h1 : ¬ (k : Int) < -(2 ^ 63 : Int) := by omega
      have h2 : ¬ (k : Int) ≥ 2 ^ 63 := by omega
      rw [decide_eq_false h1, decide_eq_false h2]; rfl) (fun h1 _ hh => ?_) (fun h1 _ => ?_) ?_
  · have h3 : (2 ^ 63 - 1 : Int) / (k : Int) ≥ 1000 := by
      refine (Int.le_ediv_iff_mul_le (by omega)).mpr ?_
      omega
    omega
  · rw [Int.toNat_natCast]
    exact notLongL (by rw [sizeLine_eq]; omega)
  · by_cases h1 : (k : Int) < 1
    · rw [if_pos h1]
      have e : k = 0 := by omega
      subst e
      exact ⟨by decide, .str Str.empty, H, I.tok _, ⟨_, rfl⟩, q⟩
    · rw [if_neg h1]
      by_cases h2 : ((k : Int) == 1 || z.length == 0) = true
      · rw [if_pos h2]
        have e : repS z k = z := by
          rcases Bool.or_eq_true_iff.mp h2 with h3 | h3
          · have : k = 1 := by have := of_decide_eq_true h3; omega
            rw [this, repS_one]
          · refine repS_nil z k ?_
            have h4 : z.cps.size = 0 := beq_iff_eq.mp h3
            exact List.eq_nil_of_length_eq_zero (by rw [Array.length_toList]; exact h4)
        rw [e] at q
        exact ⟨.str z, H, I, ⟨_, rfl⟩, q⟩
      · rw [if_neg h2, Int.toNat_natCast, repS_fold]
        refine ⟨?_, .str (repS z k), H, I.tok _, ⟨_, rfl⟩, q⟩
        have : (repS z k).length = k * z.length := by
          show ((List.replicate k z.cps.toList).flatten).toArray.size = k * z.length
          rw [List.size_toArray, List.length_flatten]
          simp
          rfl
        rw [this, sizeLine_eq, Nat.mul_comm]
        omega
end
end Qt
/-! enumerate of a text; a promise without errors out of one with errors. -/
namespace Qt
open PySem PySem.Spec PyProof.Rows L2

/-- the signs of a text with their numbers, in new pairs -/
def Itse (x : Str) : It := ⟨fun i _ => i < x.cps.size, fun i H v H' => ∃ (T : Addr) (c : Nat), v = .ref T ∧ H T = none ∧ H' = upd H T (.tup [.int (i : Nat), .str ⟨#[c]⟩]) ∧ x.cps[i]? = some c, fun i _ => i = x.cps.size⟩
/-- where enumerate over a text stands -/
def AtEnumS (x : Str) (t : Tok) (ty : String) (e it : Addr) (i : Nat) (h : Heap) : Prop := (∃ old, IsEnum h e it ((i : Nat) : Int) old) ∧ h.IsStrIter it ty x t i
theorem draws_str {P : Program} {w : World} {A : Around} {ty : String} (hh : A.handled = none) (hty : ty = "str_ascii_iterator" ∨ ty = "str_iterator") (it : Addr) (x : Str) (t : Tok) :
    Draws P w A it [it] x.cps.size (fun i v => ∃ c u, x.cps[i]? = some c ∧ v = .str ⟨#[c]⟩ u) (fun i h => h.IsStrIter it ty x t i) := by
  rcases hty with e | e
  · rw [e]; exact Draws.strAscii hh it x t
  · rw [e]; exact Draws.strWide hh it x t
theorem turn_enumS {P : Program} {w : World} {K : PySem.W.Frag} {elts : List Expr} {kk : Nat} {tpos : Pos} {x : Str} {t : Tok} {ty : String} (hty : ty = "str_ascii_iterator" ∨ ty = "str_iterator") {e it : Addr} (hne : e ≠ it) :
    Turn P w K (.Tuple elts kk tpos) (Itse x) [e, it] e (fun i h => AtEnumS x t ty e it i h) where
  mem := by simp
  obj := fun i h st b hb => by
    obtain ⟨⟨old, he⟩, o, ho, hc, hd⟩ := st
    have e' : b = e ∨ b = it := by simpa using hb
    rcases e' with z | z
    · rw [z]; exact ⟨_, he, fun v q => nomatch q⟩
    · rw [z]; exact ⟨o, ho, fun v q => by rw [hd] at q; cases q⟩
  keep := fun i h h' st k => by
    obtain ⟨⟨old, he⟩, o, ho, r⟩ := st
    exact ⟨⟨old, k e (by simp) _ he⟩, o, k it (by simp) o ho, r⟩
  item := by
    intro X hP hw hK hc i pins s σ H E I hf st hg
    subst hP hw hK
    obtain ⟨⟨old, he⟩, hit⟩ := st
    have hel : e < s.heap.objs.size := Heap.lt_size he
    have hil : it < s.heap.objs.size := by obtain ⟨_, q, _⟩ := hit; exact Heap.lt_size q
    have W := WalksT.enumerateD (draws_str (P := X.prog) (w := X.w) (A := X.A.in1) (I.ok.hd hc) hty it x t) e hne (by simpa using hne) (by simp)
    refine W.item i s _ _ hg ⟨⟨old, he⟩, hit⟩ fun T vals h' tk hp hT ht hm hk => ?_
    obtain ⟨tt, v, ⟨c, u, hcx, rfl⟩, rfl⟩ := hp
    refine ⟨.ref T, rfl, W.go elts kk tpos i T { s with heap := h', toks := tk } _ _ hm fun h'' hst hk2 => ?_⟩
    obtain ⟨oT, hT1, hT2, nT, hT3⟩ := ht
    have nT' : T ∉ [e, it] := W.apart i T _ hm
    have hT4 : h''.get? T = some oT := hk2 T oT nT' hT1
    have new : ObjOk X.prog X.w (upd H T (.tup [.int (i : Nat), .str ⟨#[c]⟩])) h'' T (.tup [.int (i : Nat), .str ⟨#[c]⟩]) :=
      ⟨by show 2 ≤ sizeLine; decide, [.int i tt, .str ⟨#[c]⟩ u], .cons ⟨_, rfl⟩ (.cons ⟨_, rfl⟩ .nil), ⟨_, hT4, hT2, _, hT3⟩⟩
    have I1 : Inv X pins σ (upd H T (.tup [.int (i : Nat), .str ⟨#[c]⟩])) { s with heap := h'', toks := tk } :=
      I.turnedNew (ch := [e, it]) (fun b ob hb q => hk2 b ob hb (hk b ob hb q)) hf hT new
    refine ⟨.ref T, _, I1, rfl, ⟨T, c, rfl, I.hok.fresh hT, rfl, hcx⟩, hst, fun b hb => ?_⟩
    have hb' : b < s.heap.objs.size := by
      have e' : b = e ∨ b = it := by simpa using hb
      rcases e' with z | z
      · rw [z]; exact hel
      · rw [z]; exact hil
    rw [upd_ne (Nat.ne_of_lt (Nat.lt_of_lt_of_le hb' hT))]
    exact (hf b hb).1
  done := by
    intro X hP hw hK hc i pins s σ H E I hf st hg
    subst hP hw hK
    obtain ⟨⟨old, he⟩, hit⟩ := st
    obtain ⟨f0, f1, f2, f3, f4, f5⟩ := hf it (by simp)
    have D := draws_str (P := X.prog) (w := X.w) (A := X.A.in1) (I.ok.hd hc) hty it x t
    have hi : i = x.cps.size := hg
    rw [hi] at he hit
    exact wpAny_pyNext_enum_endD D he hit fun h' eb => ⟨rfl, I.turned (t' := s.toks) (fun b o hb q => eb b o hb q) f0 f1 f3 f4 f5⟩
  self := fun A i s Q E st h => let ⟨⟨_, he⟩, _⟩ := st; wpAny_pyIter_enum he h
def iEnumS (ta : TA) : TI := fun σ H R => ta σ H fun vs H1 => ∃ x, vs = [.str x] ∧ R (Itse x) H1
theorem pi_enumS {X : Cx} {e : Expr} {ta : TA} {p pos tpos : Pos} {elts : List Expr} {kk : Nat} (hg : Gl X "enumerate") (hm : X.mg "enumerate" = none) (ha : PA X [e] ta) (hs : starEach [e] X.env = [(false, eval e X.env)] := by rfl) :
    PI X (.Tuple elts kk tpos) (.Call (.Name "enumerate" p) [e] [] pos) (iEnumS ta) := by
  refine ⟨fun pins s σ H R I h => ?_⟩
  refine Call_ (ld_blt I hg hm boot_enumerate (PyProof.Rows.callWith_type1 (thn (ha.run pos pins s σ H _ I h) fun us s1 hh => ?_) hs rfl))
  obtain ⟨vs, H1, I1, r1, x, ex, q⟩ := hh
  subst ex
  cases r1 with
  | cons r rr =>
    cases rr
    obtain ⟨t, rfl⟩ := r
    refine call_enumerate_str fun h' he hit hsz hk => wpAny_pyIter_enum he ?_
    have I2 : Inv X pins σ H1 { s1 with heap := h' } := I1.kept (t' := s1.toks) hk
    have hty : strIterType x = "str_ascii_iterator" ∨ strIterType x = "str_iterator" := by
      unfold strIterType
      split
      · exact .inl rfl
      · exact .inr rfl
    refine ⟨s1.heap.objs.size + 1, [s1.heap.objs.size + 1, s1.heap.objs.size], _, _, H1, rfl, I2, turn_enumS (x := x) (t := t) hty (e := s1.heap.objs.size + 1) (it := s1.heap.objs.size) (Nat.succ_ne_self _), ⟨⟨.none, he⟩, hit⟩, fun b hb => ?_, q⟩
    have e' : b = s1.heap.objs.size + 1 ∨ b = s1.heap.objs.size := by simpa using hb
    have hle : s1.heap.objs.size ≤ b := by
      rcases e' with z | z
      · rw [z]; exact Nat.le_add_right _ _
      · rw [z]; exact Nat.le_refl _
    exact I1.fpOk hle (I1.hok.fresh hle)
/-- a promise that lets no error out -/
theorem calm {P : Program} {w : World} {K : PySem.W.Frag} {mg : Str → Option Value} {base : Heap} {k : Nat} {f : Addr} {fd : FuncData} {ps : List Str} {sp sp0 : Sp} (F : FnOk P w K mg base (L2.CX P w) k f fd ps sp)
    (h : ∀ vs H Q E, sp0 vs H Q E → sp vs H Q (fun _ _ _ => False)) : FnOk P w K mg base CX0 k f fd ps sp0 := by
  refine ⟨fun vs H Q E q => F.len vs H Q _ (h vs H Q E q), fun A outer s H args us vs Q E hr he hb hv hs => ?_⟩
  refine codeAny_mono (F.run A outer s H args us vs Q (fun _ _ _ => False) hr he hb hv (h _ _ _ _ hs)) fun r s' q => ?_
  cases r with
  | error er =>
    obtain ⟨a, B, H', cls, d, _, _, _, _, _, _, _, z⟩ := q
    exact z.elim
  | ok fl => cases fl <;> exact q
end Qt
/-! Defs and classes as they stand behind the top; the law's row of draws; data. -/
namespace Qt
open PySem PySem.Spec PyProof.Rows L2 Evl

section
variable (P : Program) (w : World) (K : PySem.W.Frag) (mg : Str → Option Value) (base : Heap)
/-- the def x stands there -/
def Ent (x : Str) (st : Stmt) (ps : List Str) : Prop := ∃ (f : Addr) (fd : FuncData), Fun K x x st f fd ∧ mg x = some (.ref f) ∧ Binds K fd ps []
/-- the def x is there and keeps sp -/
def Cal (CX : CXT) (k : Nat) (x : Str) (ps : List Str) (sp : Sp) : Prop := ∃ (f : Addr) (fd : FuncData), FnOk P w K mg base CX k f fd ps sp ∧ mg x = some (.ref f) ∧ PySem.W.keepIn K (.ref f) = true ∧ Binds K fd ps []
/-- an own error class without an __init__ of its own -/
structure ExcC (x : Str) (C : Addr) : Prop where
  g : mg x = some (.ref C)
  x : PySem.W.excIn K C [.type "ValueError", .type "Exception", .type "BaseException", .type "object"] "ValueError.__new__" = true
  k : PySem.W.keepIn K (.ref C) = true
  b : PySem.W.subIn K (.ref C) (.type "BaseException") = some true
  t : PySem.W.typeIn K (.ref C) = some (.type "type")
/-- an own error class with an __init__ (at fI) that stores the field n -/
structure ExcI (x : Str) (n : Str) (C fI : Addr) : Prop where
  g : mg x = some (.ref C)
  o : OexC K C
  i : PySem.W.findIn K (.ref C) "__init__" = some (some (.ref fI))
  t : PySem.W.typeIn K (.ref fI) = some (.type "function")
  xf : XfC K C
  no : PySem.W.findIn K (.ref C) n = some none
end
/-- the same promise for the calls that let no error out -/
theorem Cal.calm {P : Program} {w : World} {K : PySem.W.Frag} {mg : Str → Option Value} {base : Heap} {k : Nat} {x : Str} {ps : List Str} {sp sp0 : Sp} (c : Cal P w K mg base (L2.CX P w) k x ps sp)
    (h : ∀ vs H Q E, sp0 vs H Q E → sp vs H Q (fun _ _ _ => False)) : Cal P w K mg base CX0 k x ps sp0 := by
  obtain ⟨f, fd, F, m, kp, b⟩ := c
  exact ⟨f, fd, Qt.calm F h, m, kp, b⟩
theorem Cal.imp {P : Program} {w : World} {K : PySem.W.Frag} {mg : Str → Option Value} {base : Heap} {CX : CXT} {k : Nat} {x : Str} {ps : List Str} {sp sp0 : Sp} (c : Cal P w K mg base CX k x ps sp)
    (h : ∀ vs H Q E, sp0 vs H Q E → sp vs H Q E) : Cal P w K mg base CX k x ps sp0 := by
  obtain ⟨f, fd, F, m, kp, b⟩ := c
  exact ⟨f, fd, F.imp h, m, kp, b⟩

/-! ### the law's row of draws -/
def Row (K : PySem.W.Frag) (r sc : Addr) (ns : List Int) (H : Hp) : Prop := ∃ (i s x : Int),
  H r = some (.lst [.ref sc, .int i, .int s, .int x]) ∧ SqL K H sc (ns.map V.int) ∧ ns.length ≤ 1000 ∧ 0 ≤ i ∧ 0 ≤ s ∧ s < 2147483647
/-- what happens where only the row is changed and new objects come -/
def Xr (K : PySem.W.Frag) (r : Addr) (H H' : Hp) : Prop := ∀ a o, a ≠ r → H a = some o → H' a = some o
section
variable {K : PySem.W.Frag} {r : Addr} {H H1 H2 : Hp}
theorem Xr.refl : Xr K r H H := fun _ _ _ h => h
theorem Xr.trans (a : Xr K r H H1) (b : Xr K r H1 H2) : Xr K r H H2 := fun c o n h => b c o n (a c o n h)
theorem Xr.of (e : Ex H H1) : Xr K r H H1 := fun a o _ h => e a o h
theorem Xr.l {a : Addr} {xs : List V} (e : Xr K r H H1) (n : a ≠ r) (h : SqL K H a xs) : SqL K H1 a xs := by
  rcases h with (h | ⟨o, h⟩) | h
  · exact .inl (.inl (e _ _ n h))
  · exact .inl (.inr ⟨o, e _ _ n h⟩)
  · exact .inr h
theorem Row.ex {sc : Addr} {ns : List Int} (h : Row K r sc ns H) (e : Ex H H1) : Row K r sc ns H1 := by
  obtain ⟨i, s, x, h1, h3, h4⟩ := h
  exact ⟨i, s, x, e _ _ h1, ex_l e h3, h4⟩
/-- the script stays where it is -/
theorem Row.sq {sc : Addr} {ns : List Int} (h : Row K r sc ns H) (X : Xr K r H H1) : SqL K H1 sc (ns.map V.int) := by
  obtain ⟨i, s, x, h1, h3, h4⟩ := h
  rcases h3 with (h3 | ⟨o, h3⟩) | h3
  · have ne : sc ≠ r := fun z => by
      rw [z, h1] at h3
      cases ns with
      | nil => cases h3
      | cons n l => injection h3 with h3; injection h3 with h3; cases h3
    exact .inl (.inl (X _ _ ne h3))
  · have ne : sc ≠ r := fun z => by rw [z, h1] at h3; cases h3
    exact .inl (.inr ⟨o, X _ _ ne h3⟩)
  · exact .inr h3
theorem Row.ne {sc : Addr} {ns : List Int} (h : Row K r sc ns H) {p : Addr} (n : H p = none) : p ≠ r := fun z => by
  obtain ⟨i, s, x, h1, _⟩ := h
  rw [z, h1] at n
  cases n
/-- what is new may change -/
theorem Row.mut {sc : Addr} {ns : List Int} (h : Row K r sc ns H) {p : Addr} (n : H p = none) (h' : Row K r sc ns H1) {o : HO} : Row K r sc ns (upd H1 p o) := by
  have npr := h.ne n
  obtain ⟨_, _, _, _, g3, _⟩ := h
  obtain ⟨i, s, x, h1, h3, h4⟩ := h'
  refine ⟨i, s, x, by rw [upd_ne npr.symm]; exact h1, ?_, h4⟩
  rcases g3 with g3 | g3
  · have ne : sc ≠ p := fun z => by
      rcases g3 with g3 | ⟨o, g3⟩
      · rw [z, n] at g3; cases g3
      · rw [z, n] at g3; cases g3
    rcases h3 with (h3 | ⟨o, h3⟩) | h3
    · exact .inl (.inl (by rw [upd_ne ne]; exact h3))
    · exact .inl (.inr ⟨o, by rw [upd_ne ne]; exact h3⟩)
    · exact .inr h3
  · exact .inr g3
end
/-- _law_taken(row, many) -/
def spTaken (K : PySem.W.Frag) : Sp := fun vs H Q _ => ∃ (r sc : Addr) (ns : List Int) (m : Int), vs = [.ref r, .int m] ∧ 1 ≤ m ∧ m ≤ 1000000 ∧ Row K r sc ns H ∧
  ∀ (n : Int) (H' : Hp), 0 ≤ n → n < m → Xr K r H H' → Row K r sc ns H' → Q (.int n) H'

/-! ### values -/
/-- a value whose class is a built-in one -/
def Kind (K : PySem.W.Frag) (H : Hp) (v : V) (t : String) : Prop := TyX K H v (.type t)
theorem Kind.ex {K : PySem.W.Frag} {H H1 : Hp} {v : V} {t : String} (h : Kind K H v t) (e : Ex H H1) : Kind K H1 v t := by
  unfold Kind at *
  generalize ht : Value.type t = tv at h
  cases h with
  | base b =>
    cases b with
    | non => exact .base .non
    | bl x => exact .base (.bl x)
    | int i => exact .base (.int i)
    | str x => exact .base (.str x)
    | flt x => exact .base (.flt x)
    | lst q => exact .base (.lst (e _ _ q))
    | frz q => exact .base (.frz (e _ _ q))
    | tup q => exact .base (.tup (e _ _ q))
    | dK q => exact .base (.dK (e _ _ q))
    | dT q => exact .base (.dT (e _ _ q))
    | ins => cases ht
  | byt b => exact .byt b
  | set q => exact .set (e _ _ q)
  | kList q c => exact .kList q c
  | kTuple q c => exact .kTuple q c
  | kDict q c => exact .kDict q c
  | fTuple q => exact .fTuple (e _ _ q)
  | fDict q => exact .fDict (e _ _ q)
theorem Kind.xr {K : PySem.W.Frag} {r : Addr} {H H1 : Hp} {v : V} {t : String} (h : Kind K H v t) (n : v ≠ .ref r) (e : Xr K r H H1) : Kind K H1 v t := by
  unfold Kind at *
  generalize ht : Value.type t = tv at h
  have ne : ∀ {a : Addr}, v = .ref a → a ≠ r := fun z q => n (by rw [z, q])
  cases h with
  | base b =>
    cases b with
    | non => exact .base .non
    | bl x => exact .base (.bl x)
    | int i => exact .base (.int i)
    | str x => exact .base (.str x)
    | flt x => exact .base (.flt x)
    | lst q => exact .base (.lst (e _ _ (ne rfl) q))
    | frz q => exact .base (.frz (e _ _ (ne rfl) q))
    | tup q => exact .base (.tup (e _ _ (ne rfl) q))
    | dK q => exact .base (.dK (e _ _ (ne rfl) q))
    | dT q => exact .base (.dT (e _ _ (ne rfl) q))
    | ins => cases ht
  | byt b => exact .byt b
  | set q => exact .set (e _ _ (ne rfl) q)
  | kList q c => exact .kList q c
  | kTuple q c => exact .kTuple q c
  | kDict q c => exact .kDict q c
  | fTuple q => exact .fTuple (e _ _ (ne rfl) q)
  | fDict q => exact .fDict (e _ _ (ne rfl) q)
/-- the data of a value, at most one tuple of flat things deep, as an error's field keeps it -/
def Flat : PyData → Prop
  | .none => True
  | .bool _ => True
  | .int _ => True
  | .str _ => True
  | _ => False
def Keeps (d : PyData) : Prop := Flat d ∨ ∃ e, Flat e ∧ d = .tuple [e]
end Qt
/-! Comprehensions over texts; lists of signs. -/
namespace Qt
open PySem PySem.Spec PyProof.Rows L2 Evl
/-- an expression that is never asked -/
theorem pe_never {X : Cx} {e : Expr} : PE X e (fun _ _ _ => False) := ⟨fun _ _ _ _ _ _ h => h.elim⟩

theorem walk_enumS {x : Str} : Walk (Itse x) x.cps.size (fun _ => True) (fun i H v H' => ∃ (T : Addr) (c : Nat), v = .ref T ∧ H T = none ∧ H' = upd H T (.tup [.int (i : Nat), .str ⟨#[c]⟩]) ∧ x.cps[i]? = some c) :=
  ⟨fun _ _ h _ => h, fun _ _ => rfl, fun _ _ _ _ _ _ h => h⟩
section
variable {K : PySem.W.Frag} {σ : L2.St} {H : Hp} {te tl : TE} {t : TT} {ta : TA}
/-- the i-th sign of a text, as a text -/
def sg (z : Str) (i : Nat) : V := .str ⟨#[z.cps.toList.getD i 0]⟩
theorem sg_of {z : Str} {i c : Nat} (h : z.cps[i]? = some c) : V.str ⟨#[c]⟩ = sg z i := by
  unfold sg
  have h2 : z.cps.toList[i]? = some c := by rw [Array.getElem?_toList]; exact h
  rw [List.getD_eq_getElem?_getD, h2]
  rfl
/-- over the signs of a text -/
theorem el_lcS {z : Str} {j : Nat} {vs : List Nat} (f : Nat → Bool) (v : Nat → V) (h : Ev tl σ H (.str z)) (hz : z.length ≤ 40000) (hw : ∀ x, wipe ((wipe σ vs).set j (some x)) vs = wipe σ vs)
    (ht : ∀ (i : Nat) H1, Ex H H1 → i < z.length → EvT t ((wipe σ vs).set j (some (sg z i))) H1 (f i)) (he : ∀ (i : Nat) H1, Ex H H1 → i < z.length → f i = true → Ev te ((wipe σ vs).set j (some (sg z i))) H1 (v i)) :
    EvL (tLc (iStr tl) (gName j) t te vs) σ H (given z.length f v) := fun H0 e Q q => h H0 e _ fun H1 e1 => ⟨z, rfl, fun Dl hD =>
  lc_it walk_str (Cw H1 f v Dl) ⟨hD, Ex.new hD, upd_same⟩ (fun _ _ _ _ => trivial) (fun i x H2 H' hi p y => by
    obtain ⟨rfl, c, hc, rfl⟩ := y
    have hi' : i < z.length := hi
    rw [sg_of hc]
    exact ⟨hw _, cw_turn p (by omega) (ht i H1 (e.trans e1) hi') (fun hf => he i H1 (e.trans e1) hi' hf)⟩) (fun H' p => q Dl H' (fresh_back e1 p.1) (e1.trans p.2.1) p.2.2)⟩
/-- over the numbered signs of a text -/
theorem el_lcSE {z : Str} {j k : Nat} {vs : List Nat} (f : Nat → Bool) (v : Nat → V) (h : EvA ta σ H [.str z]) (hz : z.length ≤ 40000)
    (hw : ∀ x y, wipe (((wipe σ vs).set j (some x)).set k (some y)) vs = wipe σ vs)
    (ht : ∀ (i : Nat) H1, Ex H H1 → i < z.length → EvT t (((wipe σ vs).set j (some (.int (i : Int)))).set k (some (sg z i))) H1 (f i))
    (he : ∀ (i : Nat) H1, Ex H H1 → i < z.length → f i = true → Ev te (((wipe σ vs).set j (some (.int (i : Int)))).set k (some (sg z i))) H1 (v i)) :
    EvL (tLc (iEnumS ta) (gTup K 2 (gCons (gName j) (gCons (gName k) gNil))) t te vs) σ H (given z.length f v) := fun H0 e Q q => h H0 e _ fun H1 e1 => ⟨z, rfl, fun Dl hD =>
  lc_it walk_enumS (Cw H1 f v Dl) ⟨hD, Ex.new hD, upd_same⟩ (fun _ _ _ _ => trivial) (fun i x H2 H' hi p y => by
    obtain ⟨T, c, rfl, nT, rfl, hc⟩ := y
    have hi' : i < z.length := hi
    obtain ⟨p1, p2, p3⟩ := p
    have nTD : Dl ≠ T := ne_of_none p3 nT
    have p' : Cw H1 f v Dl i (upd H2 T (.tup [.int (i : Nat), .str ⟨#[c]⟩])) := ⟨p1, p2.trans (Ex.new nT), by rw [upd_ne nTD]; exact p3⟩
    refine ⟨T, _, rfl, st_of upd_same, rfl, _, _, rfl, _, _, rfl, rfl, ?_⟩
    rw [sg_of hc] at p' ⊢
    exact ⟨hw _ _, cw_turn p' (by omega) (ht i H1 (e.trans e1) hi') (fun hf => he i H1 (e.trans e1) hi' hf)⟩) (fun H' p => q Dl H' (fresh_back e1 p.1) (e1.trans p.2.1) p.2.2)⟩
/-- ... without a test -/
theorem et_yes : EvT tYes σ H true := fun H1 _ _ q => q H1 (Ex.refl H1)
theorem given_all (n : Nat) (v : Nat → V) : given n (fun _ => true) v = (List.range n).map v := by
  unfold given
  rw [List.filter_eq_self.mpr (fun _ _ => rfl)]
/-- a call of a new list -/
theorem ev_cbL {r : List V → Hp → VK → Prop} {xs : List V} {z : V} (h : EvL te σ H xs) (hr : ∀ p H1, H1 p = some (.lst xs) → Ex H H1 → RC r [.ref p] H1 z) : Ev (tCB r (tCons te tNil)) σ H z := fun H1 e Q q =>
  h H1 e _ fun p H2 _ e2 h2 => hr p H2 h2 (e.trans e2) H2 (Ex.refl H2) Q fun H3 e3 => q H3 (e2.trans e3)
theorem rc_all {p : Addr} {bs : List Bool} (h : H p = some (.lst (bs.map V.bl))) : RC (rAll K) [.ref p] H (.bl (bs.all id)) := fun H1 e Q q => ⟨p, bs, rfl, sq_of (e _ _ h), q H1 (Ex.refl H1)⟩
/-- a text sign by sign -/
theorem ev_inSign {c : Nat} {z : Str} {ta tb : TE} (ha : Ev ta σ H (.str ⟨#[c]⟩)) (hb : Ev tb σ H (.str z)) :
    Ev (tOp (fun x y H Q => ∃ (c : Nat) (z : Str), x = .str ⟨#[c]⟩ ∧ y = .str z ∧ Q (.bl (decide (c ∈ z.cps.toList))) H) ta tb) σ H (.bl (decide (c ∈ z.cps.toList))) :=
  ev_op ha hb fun H1 _ _ q => ⟨c, z, rfl, rfl, q H1 (Ex.refl H1)⟩
end
theorem all_range (l : List Nat) (p : Nat → Bool) : ((List.range l.length).map fun i => p (l.getD i 0)).all id = l.all p := by
  rw [List.all_map, Bool.eq_iff_iff, List.all_eq_true, List.all_eq_true]
  constructor
  · intro h c hc
    obtain ⟨i, hi, e⟩ := List.getElem_of_mem hc
    have := h i (List.mem_range.mpr hi)
    simp only [Function.comp, id, List.getD_eq_getElem?_getD, List.getElem?_eq_getElem hi, Option.getD_some] at this
    rw [← e]
    exact this
  · intro h i hi
    have hi' := List.mem_range.mp hi
    simp only [Function.comp, id, List.getD_eq_getElem?_getD, List.getElem?_eq_getElem hi', Option.getD_some]
    exact h _ (List.getElem_mem hi')
end Qt
/-! Lists put together, texts joined, membership. -/
namespace Qt
open PySem PySem.Spec PyProof.Rows L2 Evl
/-! within a comprehension's block the written part is named, since its own is told by what is not known outside -/
theorem op_in_seqK {X : Cx} (K : PySem.W.Frag) (h : X.K = K) : OpR X (compareOp .In) (rIn K false) := h ▸ op_in_seq
theorem op_notIn_seqK {X : Cx} (K : PySem.W.Frag) (h : X.K = K) : OpR X (compareOp .NotIn) (rIn K true) := h ▸ op_notIn_seq
theorem ix_listK {X : Cx} (K : PySem.W.Frag) (h : X.K = K) : IxR X (rIxL K) := h ▸ ix_list
theorem ix_tupK {X : Cx} (K : PySem.W.Frag) (h : X.K = K) : IxR X (rIxT K) := h ▸ ix_tup
theorem sl_listK {X : Cx} (K : PySem.W.Frag) (h : X.K = K) : SlR X (rSlL K) := h ▸ sl_list
theorem op_eqDK {X : Cx} (K : PySem.W.Frag) (h : X.K = K) (hu : X.A.units + 64 < cLine) : OpR X (compareOp .Eq) (rEqD K) := h ▸ op_eqD hu
theorem op_neDK {X : Cx} (K : PySem.W.Frag) (h : X.K = K) (hu : X.A.units + 64 < cLine) : OpR X (compareOp .NotEq) (rNeD K) := h ▸ op_neD hu
section
variable {K : PySem.W.Frag} {σ : L2.St} {H : Hp} {ta tb te tl : TE} {t : TT}
theorem el_cat {xs ys : List V} (ha : EvL ta σ H xs) (hb : ∀ H1, Ex H H1 → EvL tb σ H1 ys) (hz : xs.length + ys.length ≤ 100000) : EvL (tOp rCat ta tb) σ H (xs ++ ys) := fun H1 e Q q =>
  ha H1 e _ fun p H2 np e2 h2 => hb H2 (e.trans e2) H2 (Ex.refl H2) _ fun b H3 nb e3 h3 => ⟨p, b, xs, ys, rfl, rfl, e3 _ _ h2, h3, sz_of hz, fun l hl => q l _ (fresh_back (e2.trans e3) hl) ((e2.trans e3).trans (Ex.new hl)) upd_same⟩
theorem str_app (a b : Str) : (a ++ b).cps.toList = a.cps.toList ++ b.cps.toList := by
  show (a.cps ++ b.cps).toList = _
  simp
theorem sjoin_flat {sep : Str} (hs : sep.cps.toList = []) : ∀ ys : List Str, (Str.join sep ys).cps.toList = (ys.map (·.cps.toList)).flatten
  | [] => rfl
  | [x] => by
    show x.cps.toList = _
    simp
  | x :: y :: r => by
    show (x ++ sep ++ Str.join sep (y :: r)).cps.toList = _
    rw [str_app, str_app, hs, sjoin_flat hs (y :: r)]
    simp
theorem join_flat {sep : Str} (hs : sep.cps.toList = []) (ys : List Str) : (Txt.join sep ys).cps.toList = (ys.map (·.cps.toList)).flatten := by
  show (Builtin.Str.glued sep ys).cps.toList = _
  rw [StrLaws.glued_eq_join, sjoin_flat hs]
theorem str_ext {a b : Str} (h : a.cps.toList = b.cps.toList) : a = b := by
  obtain ⟨x⟩ := a
  obtain ⟨y⟩ := b
  congr 1
  exact Array.toList_inj.mp h
/-- a text of these signs -/
def txt (l : List Nat) : Str := ⟨l.toArray⟩
theorem txt_l (l : List Nat) : (txt l).cps.toList = l := by simp [txt]
theorem txt_len (l : List Nat) : (txt l).length = l.length := by simp [txt, Str.length]
theorem len_l (z : Str) : z.cps.toList.length = z.length := by simp [Str.length]
theorem join_signs {sep : Str} (hs : sep.cps.toList = []) (l : List Nat) : Txt.join sep (l.map fun c => (⟨#[c]⟩ : Str)) = txt l := by
  apply str_ext
  rw [join_flat hs, txt_l, List.map_map]
  induction l with
  | nil => rfl
  | cons c r ih =>
    rw [List.map_cons, List.flatten_cons, ih]
    rfl
theorem sum_signs : ∀ l : List Nat, ((l.map fun c => (⟨#[c]⟩ : Str)).map (·.length)).sum = l.length
  | [] => rfl
  | c :: r => by
    rw [List.map_cons, List.map_cons, List.sum_cons, sum_signs r, List.length_cons, Nat.add_comm]
    rfl
/-- ''.join of a new list of signs -/
theorem ev_join {sep : Str} {l : List Nat} (hs : sep.cps.toList = []) (h : EvL te σ H (l.map fun c => V.str ⟨#[c]⟩)) (hz : l.length ≤ 100000) :
    Ev (tM1 (fun x xs H Q => ∃ a p, ∃ ys : List Str, x = .str a ∧ xs = [.ref p] ∧ (SqL K H p (ys.map V.str) ∨ SqT K H p (ys.map V.str)) ∧ (ys.map (·.length)).sum + ys.length * a.length ≤ 16777216 ∧ Q (.str (Txt.join a ys)) H) (tC (.str sep)) te) σ H (.str (txt l)) := fun H1 e Q q =>
  ⟨⟨sep, rfl⟩, h H1 e _ fun p H2 np e2 h2 => ⟨sep, p, l.map fun c => (⟨#[c]⟩ : Str), rfl, rfl, .inl (sq_of (by rw [h2, List.map_map]; rfl)), by
    have e0 : sep.length = 0 := by rw [← len_l, hs]; rfl
    rw [e0, sum_signs]
    omega, by
    rw [join_signs hs]
    exact q H2 e2⟩⟩
theorem inV_ints {i : Int} {ns : List Int} : inV (.int i) (ns.map V.int) = decide (i ∈ ns) := by
  unfold inV
  rw [List.any_map, Bool.eq_iff_iff, List.any_eq_true, decide_eq_true_iff]
  constructor
  · rintro ⟨x, hx, e⟩
    have e' : (x == i) = true := e
    rw [← beq_iff_eq.mp e']
    exact hx
  · intro h
    exact ⟨i, h, by show (i == i) = true; exact beq_self_eq_true i⟩
theorem flat_ints (ns : List Int) : (ns.map V.int).all flatV = true := by
  rw [List.all_map, List.all_eq_true]
  intro x _
  rfl
theorem rc_lenS {z : Str} (h : z.length ≤ 100000) : RC (fun xs H Q => ∃ z : Str, xs = [.str z] ∧ z.length ≤ sizeLine ∧ Q (.int (z.length : Int)) H) [.str z] H (.int (z.length : Int)) := fun H1 _ _ q => ⟨z, rfl, sz_of h, q H1 (Ex.refl H1)⟩
end
end Qt
/-! Data that is compared. -/
namespace Qt
open PySem PySem.Spec PyProof.Rows L2 Evl
theorem lay_all : ∀ {ds : List PyData}, (∀ d ∈ ds, d.canLay0 = true) → PyData.canLayAll0 ds = true
  | [], _ => rfl
  | d :: r, h => by
    have h1 := h d List.mem_cons_self
    have h2 := lay_all (ds := r) fun x hx => h x (List.mem_cons_of_mem _ hx)
    show (d.canLay0 && PyData.canLayAll0 r) = true
    rw [h1, h2]
    rfl
theorem depth_all {n : Nat} : ∀ {ds : List PyData}, (∀ d ∈ ds, d.depth ≤ n) → PyData.depthAll ds ≤ n
  | [], _ => Nat.zero_le _
  | d :: r, h => by
    have h1 := h d List.mem_cons_self
    have h2 := depth_all (ds := r) fun x hx => h x (List.mem_cons_of_mem _ hx)
    show max d.depth (PyData.depthAll r) ≤ n
    omega
theorem shaped_list {ds : List PyData} (h : ∀ d ∈ ds, d.canLay0 = true ∧ d.depth ≤ 10) : SeqAt.shaped (.list ds) = true := by
  unfold SeqAt.shaped
  have h1 : (PyData.list ds).canLay0 = true := lay_all fun d hd => (h d hd).1
  have h2 : PyData.depthAll ds ≤ 10 := depth_all fun d hd => (h d hd).2
  have h3 : (PyData.list ds).depth ≤ 64 := by
    show PyData.depthAll ds + 1 ≤ 64
    omega
  rw [h1, decide_eq_true h3]
  rfl
def dInts (l : List Int) : PyData := .list (l.map PyData.int)
theorem shaped_ints (l : List Int) : SeqAt.shaped (dInts l) = true := shaped_list fun d hd => by
  obtain ⟨i, _, rfl⟩ := List.mem_map.mp hd
  exact ⟨rfl, by show 0 ≤ 10; omega⟩
section
variable {K : PySem.W.Frag} {H : Hp}
theorem dp_ints : ∀ l : List Int, DpAll K H (l.map V.int) (l.map PyData.int)
  | [] => .nil
  | i :: r => .cons (.int i) (dp_ints r)
theorem dp_list {p : Addr} {l : List Int} (h : SqL K H p (l.map V.int)) : Dp K H (.ref p) (dInts l) := .lst h (dp_ints l)
/-- != of two that are the same -/
theorem ne_same {x y : V} {d : PyData} {Q : VK} (a : Dp K H x d) (b : Dp K H y d) (s : SeqAt.shaped d = true) (q : Q (.bl false) H) : rNeD K x y H Q := by
  refine ⟨d, d, a, b, s, s, ?_⟩
  have e : PyData.eqv d d = true := SeqAt.eqv_refl d (SeqAt.canLay_of_shaped s)
  rw [e]
  exact q
theorem eq_same {x y : V} {d : PyData} {Q : VK} (a : Dp K H x d) (b : Dp K H y d) (s : SeqAt.shaped d = true) (q : Q (.bl true) H) : rEqD K x y H Q := by
  refine ⟨d, d, a, b, s, s, ?_⟩
  have e : PyData.eqv d d = true := SeqAt.eqv_refl d (SeqAt.canLay_of_shaped s)
  rw [e]
  exact q
theorem rv_ne_same {x y : V} {d : PyData} (a : ∀ H1, Ex H H1 → Dp K H1 x d) (b : ∀ H1, Ex H H1 → Dp K H1 y d) (s : SeqAt.shaped d = true) : RV (rNeD K) x y H (.bl false) := fun H1 e Q q => ne_same (a H1 e) (b H1 e) s (q H1 (Ex.refl H1))
/-- sorted(set(xs)) of a new list of ints, where it is known what that is -/
theorem el_sortedSet {w : World} {σ : L2.St} {te : TE} {ns due : List Int} (h : EvL te σ H (ns.map V.int)) (hz : ns.length < 64) (hu : ∀ ns' : List Int, ns'.Pairwise (· < ·) → (∀ k : Int, k ∈ ns' ↔ decide (k ∈ ns) = true) → ns' = due) :
    EvL (tCB (rSortedSet w) (tCons (tCB (rSetI K w) (tCons te tNil)) tNil)) σ H (due.map V.int) := fun H1 e Q q =>
  h H1 e _ fun p H2 np e2 h2 => ⟨p, ns, rfl, sq_of h2, by omega, fun S c hc nS => ⟨S, _, c, rfl, upd_same, by omega, fun ns' D hp hm _ nD => by
    rw [hu ns' hp hm]
    exact q D _ (fresh_back (e2.trans (Ex.new nS)) nD) ((e2.trans (Ex.new nS)).trans (Ex.new nD)) upd_same⟩⟩
end
end Qt
/-! zip of two texts. -/
namespace Qt
open PySem PySem.Spec PyProof.Rows L2 Evl
/-- the signs of two texts, side by side, in new pairs -/
def Itzs (x y : Str) : It := ⟨fun i _ => i < min x.cps.size y.cps.size, fun i H v H' => ∃ (T : Addr) (c d : Nat), v = .ref T ∧ H T = none ∧ H' = upd H T (.tup [.str ⟨#[c]⟩, .str ⟨#[d]⟩]) ∧ x.cps[i]? = some c ∧ y.cps[i]? = some d, fun i _ => i = min x.cps.size y.cps.size⟩
def AtZipS (x y : Str) (t u : Tok) (z TI TO i1 i2 : Addr) (i : Nat) (h : Heap) : Prop := IsZip h z TI TO .none ∧ IsTupOf2 h TI (.ref i1) (.ref i2) ∧ (∃ a1 a2, IsTupOf2 h TO a1 a2) ∧ h.IsStrIter i1 (strIterType x) x t i ∧ h.IsStrIter i2 (strIterType y) y u i
theorem turn_zipS {P : Program} {w : World} {K : PySem.W.Frag} {elts : List Expr} {kk : Nat} {tpos : Pos} {x y : Str} {t u : Tok} {z TI TO i1 i2 : Addr} (D : ZipSep2 z TI TO i1 i2 [i1] [i2]) :
    Turn P w K (.Tuple elts kk tpos) (Itzs x y) [z, TI, TO, i1, i2] z (fun i h => AtZipS x y t u z TI TO i1 i2 i h) where
  mem := by simp
  obj := fun i h st c hc => by
    obtain ⟨hz, hTI, ⟨a, b, hTO⟩, ⟨o1, e1, _, d1⟩, ⟨o2, e2, _, d2⟩⟩ := st
    have e' : c = z ∨ c = TI ∨ c = TO ∨ c = i1 ∨ c = i2 := by simpa using hc
    rcases e' with q | q | q | q | q
    · rw [q]; exact ⟨_, hz, fun v q => nomatch q⟩
    · rw [q]; exact ⟨_, hTI, fun v q => nomatch q⟩
    · rw [q]; exact ⟨_, hTO, fun v q => nomatch q⟩
    · rw [q]; exact ⟨o1, e1, fun v q => by rw [d1] at q; cases q⟩
    · rw [q]; exact ⟨o2, e2, fun v q => by rw [d2] at q; cases q⟩
  keep := fun i h h' st k => by
    obtain ⟨hz, hTI, ⟨a, b, hTO⟩, ⟨o1, e1, r1⟩, ⟨o2, e2, r2⟩⟩ := st
    exact ⟨k z (by simp) _ hz, k TI (by simp) _ hTI, ⟨a, b, k TO (by simp) _ hTO⟩, ⟨o1, k i1 (by simp) _ e1, r1⟩, ⟨o2, k i2 (by simp) _ e2, r2⟩⟩
  item := by
    intro X hP hw hK hc i pins s σ H E I hf st hg
    subst hP hw hK
    have W := WalksT.zipD2 D (Draws.text (prog := X.prog) (w := X.w) (A := X.A.in1) (I.ok.hd hc) i1 x t) (Draws.text (prog := X.prog) (w := X.w) (A := X.A.in1) (I.ok.hd hc) i2 y u)
    have live : ∀ b ∈ [z, TI, TO, i1, i2], b < s.heap.objs.size := fun b hb => by
      obtain ⟨hz, hTI, ⟨a, b', hTO⟩, ⟨o1, e1, _, d1⟩, ⟨o2, e2, _, d2⟩⟩ := st
      have e' : b = z ∨ b = TI ∨ b = TO ∨ b = i1 ∨ b = i2 := by simpa using hb
      rcases e' with q | q | q | q | q
      · rw [q]; exact Heap.lt_size hz
      · rw [q]; exact Heap.lt_size hTI
      · rw [q]; exact Heap.lt_size hTO
      · rw [q]; exact Heap.lt_size e1
      · rw [q]; exact Heap.lt_size e2
    refine W.item i s _ _ hg st fun T vals h' tk hp hT ht hm hk => ?_
    obtain ⟨v1, v2, ⟨c, t1, hcx, rfl⟩, ⟨d, t2, hdy, rfl⟩, rfl⟩ := hp
    refine ⟨.ref T, rfl, W.go elts kk tpos i T { s with heap := h', toks := tk } _ _ hm fun h'' hst hk2 => ?_⟩
    obtain ⟨oT, hT1, hT2, nT, hT3⟩ := ht
    have nT' : T ∉ [z, TO, i1, i2] := W.apart i T _ hm
    have hT4 : h''.get? T = some oT := hk2 T oT nT' hT1
    have new : ObjOk X.prog X.w (upd H T (.tup [.str ⟨#[c]⟩, .str ⟨#[d]⟩])) h'' T (.tup [.str ⟨#[c]⟩, .str ⟨#[d]⟩]) :=
      ⟨by show 2 ≤ sizeLine; decide, [.str ⟨#[c]⟩ t1, .str ⟨#[d]⟩ t2], .cons ⟨_, rfl⟩ (.cons ⟨_, rfl⟩ .nil), ⟨_, hT4, hT2, _, hT3⟩⟩
    have sub : ∀ b, b ∉ [z, TI, TO, i1, i2] → b ∉ [z, TO, i1, i2] := fun b hb h => hb (by
      have e' : b = z ∨ b = TO ∨ b = i1 ∨ b = i2 := by simpa using h
      rcases e' with q | q | q | q <;> simp [q])
    have I1 : Inv X pins σ (upd H T (.tup [.str ⟨#[c]⟩, .str ⟨#[d]⟩])) { s with heap := h'', toks := tk } :=
      I.turnedNew (ch := [z, TI, TO, i1, i2]) (fun b ob hb q => hk2 b ob (sub b hb) (hk b ob (sub b hb) q)) hf hT new
    refine ⟨.ref T, _, I1, rfl, ⟨T, c, d, rfl, I.hok.fresh hT, rfl, hcx, hdy⟩, hst, fun b hb => ?_⟩
    rw [upd_ne (Nat.ne_of_lt (Nat.lt_of_lt_of_le (live b hb) hT))]
    exact (hf b hb).1
  done := by
    intro X hP hw hK hc i pins s σ H E I hf st hg
    subst hP hw hK
    have W := WalksT.zipD2 D (Draws.text (prog := X.prog) (w := X.w) (A := X.A.in1) (I.ok.hd hc) i1 x t) (Draws.text (prog := X.prog) (w := X.w) (A := X.A.in1) (I.ok.hd hc) i2 y u)
    have hi : i = min x.cps.size y.cps.size := hg
    have st' : AtZipS x y t u z TI TO i1 i2 (min x.cps.size y.cps.size) s.heap := hi ▸ st
    have sub : ∀ b, b ∉ [z, TI, TO, i1, i2] → b ∉ [z, TO, i1, i2] := fun b hb h => hb (by
      have e' : b = z ∨ b = TO ∨ b = i1 ∨ b = i2 := by simpa using h
      rcases e' with q | q | q | q <;> simp [q])
    exact W.done s _ _ st' fun h' tk hk => ⟨rfl, I.turnedL (t' := tk) (ch := [z, TI, TO, i1, i2]) (fun c o hb q => hk c o (sub c hb) q) hf⟩
  self := fun A i s Q E st h => wpAny_pyIter_zip st.1 h
def iZipS (ta : TA) : TI := fun σ H R => ta σ H fun vs H1 => ∃ x y, vs = [.str x, .str y] ∧ R (Itzs x y) H1
theorem pi_zipS {X : Cx} {e e2 : Expr} {ta : TA} {p pos tpos : Pos} {elts : List Expr} {kk : Nat} (hg : Gl X "zip") (hm : X.mg "zip" = none) (ha : PA X [e, e2] ta)
    (hs : starEach [e, e2] X.env = (false, eval e X.env) :: starEach [e2] X.env := by rfl) (hpl : (backTo pos (starEach [e2] X.env)).any (·.1) = false := by rfl) :
    PI X (.Tuple elts kk tpos) (.Call (.Name "zip" p) [e, e2] [] pos) (iZipS ta) := by
  refine ⟨fun pins s σ H R I h => ?_⟩
  refine Call_ (ld_blt I hg hm PyProof.Rows.boot_zip (PyProof.Rows.callWith_type1 (thn (ha.run pos pins s σ H _ I h) fun us s1 hh => ?_) hs hpl))
  obtain ⟨vs, H1, I1, r1, x, y, ex, q⟩ := hh
  subst ex
  cases r1 with
  | cons r rr =>
    cases rr with
    | cons r' rr =>
      cases rr
      obtain ⟨t, rfl⟩ := r
      obtain ⟨u, rfl⟩ := r'
      refine zip_begins2 (begins_text x t) (begins_text y u) trivial trivial fun h' hz hTI hTO g1 g2 hsz hk => wpAny_pyIter_zip hz ?_
      have I2 : Inv X pins σ H1 { s1 with heap := h' } := I1.kept (t' := s1.toks) hk
      have D : ZipSep2 (s1.heap.objs.size + 4) (s1.heap.objs.size + 2) (s1.heap.objs.size + 3) s1.heap.objs.size (s1.heap.objs.size + 1) [s1.heap.objs.size] [s1.heap.objs.size + 1] := by
        generalize s1.heap.objs.size = n
        constructor <;> (try simp only [List.mem_singleton]) <;> (show _ → False; intro (z : (_ : Nat) = _); omega) <;> omega
      refine ⟨s1.heap.objs.size + 4, [s1.heap.objs.size + 4, s1.heap.objs.size + 2, s1.heap.objs.size + 3, s1.heap.objs.size, s1.heap.objs.size + 1], _, _, H1, rfl, I2, turn_zipS D, ⟨hz, hTI, ⟨_, _, hTO⟩, ⟨_, g1, rfl, rfl⟩, ⟨_, g2, rfl, rfl⟩⟩, fun c hcm => ?_, q⟩
      have e' : c = s1.heap.objs.size + 4 ∨ c = s1.heap.objs.size + 2 ∨ c = s1.heap.objs.size + 3 ∨ c = s1.heap.objs.size ∨ c = s1.heap.objs.size + 1 := by simpa using hcm
      have hle : s1.heap.objs.size ≤ c := by
        rcases e' with z | z | z | z | z
        · rw [z]; exact Nat.le_add_right _ _
        · rw [z]; exact Nat.le_add_right _ _
        · rw [z]; exact Nat.le_add_right _ _
        · rw [z]; exact Nat.le_refl _
        · rw [z]; exact Nat.le_add_right _ _
      exact I1.fpOk hle (I1.hok.fresh hle)
end Qt
/-! Comprehensions over pairs; counting signs; a tuple of one taken many times. -/
namespace Qt
open PySem PySem.Spec PyProof.Rows L2 Evl
theorem walk_zipS {x y : Str} : Walk (Itzs x y) (min x.cps.size y.cps.size) (fun _ => True) (fun i H v H' => ∃ (T : Addr) (c d : Nat), v = .ref T ∧ H T = none ∧ H' = upd H T (.tup [.str ⟨#[c]⟩, .str ⟨#[d]⟩]) ∧ x.cps[i]? = some c ∧ y.cps[i]? = some d) :=
  ⟨fun _ _ h _ => h, fun _ _ => rfl, fun _ _ _ _ _ _ h => h⟩
section
variable {K : PySem.W.Frag} {σ : L2.St} {H : Hp} {te tl to : TE} {t : TT} {ta : TA}
/-- over the signs of two texts of one length -/
theorem el_lcZS {x y : Str} {j k : Nat} {vs : List Nat} (f : Nat → Bool) (v : Nat → V) (h : EvA ta σ H [.str x, .str y]) (hz : x.length ≤ 40000) (hl : y.length = x.length)
    (hw : ∀ a b, wipe (((wipe σ vs).set j (some a)).set k (some b)) vs = wipe σ vs)
    (ht : ∀ (i : Nat) H1, Ex H H1 → i < x.length → EvT t (((wipe σ vs).set j (some (sg x i))).set k (some (sg y i))) H1 (f i))
    (he : ∀ (i : Nat) H1, Ex H H1 → i < x.length → f i = true → Ev te (((wipe σ vs).set j (some (sg x i))).set k (some (sg y i))) H1 (v i)) :
    EvL (tLc (iZipS ta) (gTup K 2 (gCons (gName j) (gCons (gName k) gNil))) t te vs) σ H (given x.length f v) := fun H0 e Q q => h H0 e _ fun H1 e1 => ⟨x, y, rfl, fun Dl hD => by
  have hm : min x.cps.size y.cps.size = x.length := by
    have : y.cps.size = x.cps.size := hl
    rw [this, Nat.min_self]
    rfl
  refine lc_it walk_zipS (Cw H1 f v Dl) ⟨hD, Ex.new hD, upd_same⟩ (fun _ _ _ _ => trivial) (fun i z H2 H' hi p y' => ?_) (fun H' p => ?_)
  · obtain ⟨T, c, d, rfl, nT, rfl, hc, hd⟩ := y'
    have hi' : i < x.length := by rw [← hm]; exact hi
    obtain ⟨p1, p2, p3⟩ := p
    have nTD : Dl ≠ T := ne_of_none p3 nT
    have p' : Cw H1 f v Dl i (upd H2 T (.tup [.str ⟨#[c]⟩, .str ⟨#[d]⟩])) := ⟨p1, p2.trans (Ex.new nT), by rw [upd_ne nTD]; exact p3⟩
    refine ⟨T, _, rfl, st_of upd_same, rfl, _, _, rfl, _, _, rfl, rfl, ?_⟩
    rw [sg_of hc, sg_of hd] at p' ⊢
    exact ⟨hw _ _, cw_turn p' (by omega) (ht i H1 (e.trans e1) hi') (fun hf => he i H1 (e.trans e1) hi' hf)⟩
  · rw [hm] at p
    exact q Dl H' (fresh_back e1 p.1) (e1.trans p.2.1) p.2.2⟩
/-- over the numbered items of a list -/
theorem el_lcLE {a : Addr} {xs : List V} {j k : Nat} {vs : List Nat} (f : Nat → Bool) (v : Nat → V) (h : EvA ta σ H [.ref a]) (hx : SqL K H a xs) (hz : xs.length ≤ 40000)
    (hw : ∀ a b, wipe (((wipe σ vs).set j (some a)).set k (some b)) vs = wipe σ vs)
    (ht : ∀ (i : Nat) y H1, Ex H H1 → xs[i]? = some y → EvT t (((wipe σ vs).set j (some (.int (i : Int)))).set k (some y)) H1 (f i))
    (he : ∀ (i : Nat) y H1, Ex H H1 → xs[i]? = some y → f i = true → Ev te (((wipe σ vs).set j (some (.int (i : Int)))).set k (some y)) H1 (v i)) :
    EvL (tLc (iEnum K ta) (gTup K 2 (gCons (gName j) (gCons (gName k) gNil))) t te vs) σ H (given xs.length f v) := fun H0 e Q q => h H0 e _ fun H1 e1 => ⟨a, xs, rfl, ex_l (e.trans e1) hx, fun Dl hD => by
  refine lc_it (walk_enum (xs := xs)) (Cw H1 f v Dl) ⟨hD, Ex.new hD, upd_same⟩ (fun _ _ _ p => ex_l p.2.1 (ex_l (e.trans e1) hx)) (fun i z H2 H' hi p y' => ?_) (fun H' p => ?_)
  · obtain ⟨T, n, y, rfl, nT, rfl, hn, hy⟩ := y'
    obtain rfl : V.int (i : Nat) = n := Option.some.inj hn
    obtain ⟨p1, p2, p3⟩ := p
    have nTD : Dl ≠ T := ne_of_none p3 nT
    have p' : Cw H1 f v Dl i (upd H2 T (.tup [.int (i : Nat), y])) := ⟨p1, p2.trans (Ex.new nT), by rw [upd_ne nTD]; exact p3⟩
    refine ⟨T, _, rfl, st_of upd_same, rfl, _, _, rfl, _, _, rfl, rfl, ?_⟩
    exact ⟨hw _ _, cw_turn p' (by omega) (ht i y H1 (e.trans e1) hy) (fun hf => he i y H1 (e.trans e1) hy hf)⟩
  · exact q Dl H' (fresh_back e1 p.1) (e1.trans p.2.1) p.2.2⟩
/-- the length of a new list -/
theorem rc_lenL {a : Addr} {xs : List V} (h : SqL K H a xs) : RC (fun xs H Q => ∃ x n, xs = [x] ∧ LenV K x H n ∧ Q (.int (n : Int)) H) [.ref a] H (.int (xs.length : Int)) := fun H1 e _ q =>
  ⟨.ref a, xs.length, rfl, .inl ⟨xs, ex_l e h, rfl⟩, q H1 (Ex.refl H1)⟩
theorem ev_lenL {xs : List V} (h : EvL te σ H xs) : Ev (tCB (fun xs H Q => ∃ x n, xs = [x] ∧ LenV K x H n ∧ Q (.int (n : Int)) H) (tCons te tNil)) σ H (.int (xs.length : Int)) := ev_cbL h fun _ _ hp _ => rc_lenL (sq_of hp)
theorem cnt_len (c : Nat) : ∀ l : List Nat, cnt c l = ((l.countP fun d => decide (d = c) : Nat) : Int)
  | [] => rfl
  | d :: r => by
    rw [cnt_cons, cnt_len c r, List.countP_cons]
    by_cases h : d = c
    · rw [if_pos h, if_pos (by simpa using h)]; omega
    · rw [if_neg h, if_neg (by simpa using h)]; omega
/-- how often a sign stands in a text -/
theorem ev_count {z : Str} {c : Nat} (h0 : Ev to σ H (.str z)) (h : Ev te σ H (.str ⟨#[c]⟩)) :
    Ev (tM1 (fun x xs H Q => ∃ a b, x = .str a ∧ xs = [.str b] ∧ Q (.int (Txt.count a b)) H) to te) σ H (.int ((z.cps.toList.countP fun d => decide (d = c) : Nat) : Int)) := fun H1 e Q q =>
  h0 H1 e _ fun H2 e2 => ⟨⟨z, rfl⟩, h H2 (e.trans e2) _ fun H3 e3 => ⟨z, ⟨#[c]⟩, rfl, rfl, by
    rw [count_cnt, cnt_len]
    exact q H3 (e2.trans e3)⟩⟩
theorem count_range (l : List Nat) (p : Nat → Bool) : l.countP p = ((List.range l.length).filter fun i => p (l.getD i 0)).length := by
  rw [← List.countP_eq_length_filter]
  have e : l = (List.range l.length).map fun i => l.getD i 0 := by
    apply List.ext_getElem
    · simp
    · intro i h1 h2
      simp [List.getD_eq_getElem?_getD, List.getElem?_eq_getElem h1]
  conv => lhs; rw [e, List.countP_map]
  rfl
end
/-! ### a tuple of one, taken k times -/
theorem tuple_mul1 (l : Addr) (items : Array Value) (n : Nat) (dd : Option Addr) (sl : Array (Option Value)) (u : Tok) (hi : items.isEmpty = false) :
    Meets (Builtin.«tuple.__mul__» ⟨[.ref l, .int 1 u], []⟩) (fun _ R s => s.heap.get? l = some { cls := .type "tuple", dict := dd, data := .seq items n, slots := sl } ∧ R (.ok (.ret (Value.ref l))) s) :=
  .of_wp fun prog w A R s h => by
    obtain ⟨hp, g, d, tk, os⟩ := s
    obtain ⟨hl, h⟩ := h
    have f1 := AutoSeq1.idx_int
    have c1 : (items.isEmpty || (1 : Int) == 1) = true := by simp
    wp_walk using wpAny_loadPart' hl
    exact ⟨_, rfl, h⟩
def rRepT1 (K : PySem.W.Frag) : R2 := fun x y H Q => ∃ l k xs, x = .ref l ∧ y = .int k ∧ SqT K H l xs ∧ xs ≠ [] ∧ 1 ≤ k ∧ k ≤ 1000 ∧ xs.length ≤ 1000 ∧ (k = 1 → Q (.ref l) H) ∧ (2 ≤ k → ∀ p, H p = none → Q (.ref p) (upd H p (.tup (List.replicate k.toNat xs).flatten)))
theorem op_repT1 {X : Cx} : OpR X (binaryOp .Mult) (rRepT1 X.K) := by
  intro pins s σ H x y v u Q I rx ry h
  obtain ⟨l, k, xs, rfl, rfl, hT, hne, h1, h2, hz, q1, q2⟩ := h
  by_cases hk : 2 ≤ k
  · exact op_repT pins s σ H _ _ v u Q I rx ry ⟨l, k, xs, rfl, rfl, hT, hne, hk, h2, hz, q2 hk⟩
  · have e1 : k = 1 := by omega
    subst e1
    cases rx
    obtain ⟨t, rfl⟩ := ry
    obtain ⟨its, r, ⟨⟨cls, dd, data, sl⟩, ho, hc, n, hd⟩, hs⟩ := I.tuple hT
    simp only at hc hd
    subst hc hd
    have hle : its.length = xs.length := r.length.symm
    have hn : its ≠ [] := fun e => hne (by
      rw [e] at hle
      exact List.eq_nil_of_length_eq_zero hle.symm)
    have hi : its.toArray.isEmpty = false := by
      cases its with
      | nil => exact absurd rfl hn
      | cons a b => rfl
    refine wpAny_binaryOp_repeat_ref (T := "tuple") (U := "int") (by decide) ⟨_, ho, rfl⟩ (fun s' => typeIs_int s' 1 t) noFill_tuple_mul F.fills_int_mul F.slot_int_rmul repeat_tuple F.slot_int_index.lookup
      (call_meets F.slot_int_rmul (typeIs_int s 1 t) F.entry_int_rmul (F.args_int_rmul_2 _ _) (int_rmul_tuple 1 t l its.toArray n dd sl)
        ⟨ho, rfl, ⟨_, ho, rfl⟩, call_meets F.slot_tuple_mul ⟨_, ho, rfl⟩ F.entry_tuple_mul (F.args_tuple_mul_2 _ _) (tuple_mul1 l its.toArray n dd sl t hi) ⟨ho, ?_⟩⟩)
    exact ⟨.ref l, H, I, rfl, q1 rfl⟩
end Qt
namespace Qt
open PySem PySem.Spec PyProof.Rows L2 Evl
section
variable {K : PySem.W.Frag} {σ : L2.St} {H : Hp} {te : TE} {t : TT} {ta : TA} {D : Ends} {tu tz : TS}
/-- over range(n), n of either sign -/
theorem el_lcRn {j : Nat} {vs : List Nat} {n : Int} (f : Nat → Bool) (v : Nat → V) (h : EvA ta σ H [.int n]) (hn : -40000 ≤ n ∧ n ≤ 40000)
    (hw : ∀ x, wipe ((wipe σ vs).set j (some x)) vs = wipe σ vs)
    (ht : ∀ (i : Nat) H1, Ex H H1 → (i : Int) < n → EvT t ((wipe σ vs).set j (some (.int (i : Int)))) H1 (f i))
    (he : ∀ (i : Nat) H1, Ex H H1 → (i : Int) < n → f i = true → Ev te ((wipe σ vs).set j (some (.int (i : Int)))) H1 (v i)) :
    EvL (tLc (iRng1 ta) (gName j) t te vs) σ H (given n.toNat f v) := fun H0 e Q q => h H0 e _ fun H1 e1 => by
  refine ⟨n, rfl, by omega, by omega, fun Dl hD => ?_⟩
  refine lc_it (walk_range (lo := 0) (n := n.toNat)) (Cw H1 f v Dl) ⟨hD, Ex.new hD, upd_same⟩ (fun _ _ _ _ => trivial) (fun i x H2 H' hi p y => ?_) (fun H' p => q Dl H' (fresh_back e1 p.1) (e1.trans p.2.1) p.2.2)
  obtain ⟨rfl, rfl⟩ := y
  dsimp only
  rw [Int.zero_add]
  have hi' : (i : Int) < n := by omega
  exact ⟨hw _, cw_turn p (by omega) (ht i H1 (e.trans e1) hi') (fun hf => he i H1 (e.trans e1) hi' hf)⟩
/-- for over range(n), n of either sign -/
theorem q_forRn {j : Nat} {n : Int} (h : EvA ta σ H [.int n]) (hn : -100000 ≤ n ∧ n ≤ 100000) (Pv : Nat → L2.St → Hp → Prop) (h0 : ∀ H1, Ex H H1 → Pv 0 σ H1)
    (hs : ∀ (i : Nat) σ' H', (i : Int) < n → Pv i σ' H' → tu { D with nx := Pv (i + 1), ct := Pv (i + 1), bk := tz D } (σ'.set j (some (.int (i : Int)))) H')
    (hd : ∀ σ' H', Pv n.toNat σ' H' → tz D σ' H') : tSeq (tFor (iRng1 ta) (gName j) tu) tz D σ H :=
  h H (Ex.refl H) _ fun H1 e => by
  refine ⟨n, rfl, by omega, by omega, ?_⟩
  refine for_it (D := { D with nx := tz D }) (walk_range (lo := 0) (n := n.toNat)) Pv (h0 H1 e) (fun _ _ _ _ _ => trivial) (fun i x σ' H2 H' hi p y => ?_) hd
  obtain ⟨rfl, rfl⟩ := y
  dsimp only
  rw [Int.zero_add]
  exact hs i σ' _ (by omega) p
end
end Qt
/-! len(set(xs)) of a list of texts. -/
namespace Qt
open PySem PySem.Spec PyProof.Rows L2 Evl
section
variable {P : Program} {w : World}
theorem nodup_snoc {α : Type} [DecidableEq α] {l : List α} {x : α} : (l ++ [x]).Nodup ↔ l.Nodup ∧ x ∉ l := by
  rw [List.nodup_append]
  constructor
  · rintro ⟨a, _, c⟩
    exact ⟨a, fun h => c x h x List.mem_cons_self rfl⟩
  · rintro ⟨a, b⟩
    refine ⟨a, by simp, fun y hy z hz e => ?_⟩
    rw [List.mem_singleton.mp hz] at e
    exact b (e ▸ hy)
/-- a set of these texts, n of them distinct -/
def SetS (P : Program) (w : World) (xs : List Str) (S : Addr) (h : Heap) : Prop := ∃ n, n ≤ xs.length ∧ (n = xs.length ↔ xs.Nodup) ∧ h.SetOf (PySem.strKind P w) S (fun k => decide (k ∈ xs)) n
theorem fill_strs {A : Around} {I : Addr} {fp wr : List Addr} {G : Array GenState → Array GenState → Prop} {m : Nat} {Pv : Nat → Value → Prop} {St : Nat → Shared → Prop} {R : Result → Shared → Prop}
    (W : WalksS P w A.in1 I fp wr G m Pv St) (S : Addr) (hSf : S ∉ fp) (xs : List Str) (hn : m = xs.length) (hb : xs.length + 1 < scanBound) (hval : ∀ i v, Pv i v → ∃ k t, xs[i]? = some k ∧ v = .str k t) :
    ∀ (k i : Nat) (s : Shared), m - i = k → i ≤ m → St i s → SetS P w (xs.take i) S s.heap → (∀ s', Moved (S :: wr) G s s' → SetS P w xs S s'.heap → R (.ok (.ret .none)) s') →
      codeAny (model P w) A (.builtin "set.update.loop" ⟨[.ref S, .ref I], []⟩) R s := by
  have out : S ∉ wr := fun h => hSf (W.sub _ h)
  have into : ∀ b ∈ wr, b ∈ S :: wr := fun b hb => List.mem_cons_of_mem _ hb
  have stay : ∀ {h h' : Heap} {ys : List Str}, (∀ o, h.get? S = some o → h'.get? S = some o) → SetS P w ys S h → SetS P w ys S h' := by
    rintro h h' ys hk ⟨n, a, b, o, es, ep, t, ho, r⟩
    exact ⟨n, a, b, o, es, ep, t, hk o ho, r⟩
  intro k
  induction k with
  | zero =>
    intro i s hk' hi hst hS hR
    obtain rfl : i = m := by omega
    refine codeAny_builtin F.entry_set_update_loop ?_
    rw [Around.under_plainId F.plain_set_update_loop _]
    show wpAny _ A.in1 (pyNext (.ref I) >>= _) _ _ s
    refine wpAny_bind (W.done s _ _ hst fun s' hm => ?_)
    show wpAny _ A.in1 (ret Value.none) _ _ s'
    rw [List.take_of_length_le (by omega)] at hS
    exact wpAny_pure (hR s' (hm.mono into) (stay (fun o e => hm.heap S o out e) hS))
  | succ k ih =>
    intro i s hk' hi hst hS hR
    have hlt : i < m := by omega
    refine codeAny_builtin F.entry_set_update_loop ?_
    rw [Around.under_plainId F.plain_set_update_loop _]
    show wpAny _ A.in1 (pyNext (.ref I) >>= _) _ _ s
    refine wpAny_bind (W.item i s _ _ hlt hst fun v s' hP hst' hm => ?_)
    obtain ⟨z, t, hz, rfl⟩ := hval i v hP
    obtain ⟨c, hc1, hc2, hS'⟩ := stay (h' := s'.heap) (fun o e => hm.heap S o out e) hS
    have hil : i < xs.length := by omega
    rw [List.length_take, Nat.min_eq_left (by omega)] at hc1 hc2
    show wpAny _ A.in1 (holding [Value.str z t] (setAdd S (.str z t)) >>= _) _ _ s'
    refine wpAny_bind (wpAny_holding ?_)
    unfold setAdd
    refine wpAny_holding ?_
    refine wpAny_bind ((PySem.strKind P w).pyHash (k := z) (strKind_is _ _ _ _) ?_)
    refine wpAny_setAddHashed_of (knd := PySem.strKind P w) (s := { s' with toks := s'.toks + 1 }) (strKind_is _ _ _ _) rfl hS' (by omega) fun h' hsb hS2 => ?_
    have eT : xs.take (i + 1) = xs.take i ++ [z] := by rw [List.take_add_one, hz]; rfl
    have hS3 : SetS P w (xs.take (i + 1)) S h' := by
      refine ⟨_, ?_, ?_, SetOf_congr hS2 (fun j => ?_) rfl⟩
      · rw [List.length_take, Nat.min_eq_left (by omega)]
        split <;> omega
      · rw [List.length_take, Nat.min_eq_left (by omega), eT, nodup_snoc]
        by_cases hmem : z ∈ xs.take i
        · rw [if_pos (decide_eq_true hmem)]
          exact ⟨fun h => by omega, fun h => absurd hmem h.2⟩
        · rw [if_neg (by rw [decide_eq_false hmem]; exact Bool.false_ne_true)]
          exact ⟨fun h => ⟨hc2.mp (by omega), hmem⟩, fun h => by have := hc2.mpr h.1; omega⟩
      · rw [eT]
        simp [List.mem_append]
    refine wpAny_pure ⟨plainId_quiet F.plain_set_update_loop _, ih (i + 1) _ (by omega) hlt (W.frame _ s' _ _ hst' (Nat.le_succ _) fun b hb o e => ?_) hS3 fun s'' hm'' hS'' => ?_⟩
    · rw [hsb.2 b (fun h : b = S => hSf (by rw [← h]; exact hb))]; exact e
    · refine hR s'' (Moved.trans W.gtrans ((hm.mono into).then_heap (Nat.le_succ _) fun b o hb e => ?_) hm'') hS''
      rw [hsb.2 b (fun h : b = S => hb (by rw [h]; exact List.mem_cons_self))]; exact e
theorem fills_strs {items : Array Value} {xs : List Str} (hit : StrsAre items.toList xs) (hb : xs.length + 1 < scanBound) : Fills P w items (SetS P w xs) := by
  have hn : items.size = xs.length := by
    have q : ∀ {us : List Value} {ys : List Str}, StrsAre us ys → us.length = ys.length := by
      intro us ys h
      induction h with
      | nil => rfl
      | cons _ _ _ ih => rw [List.length_cons, List.length_cons, ih]
    have q := q hit
    rwa [Array.length_toList] at q
  have at_ : ∀ {us : List Value} {ys : List Str}, StrsAre us ys → ∀ (i : Nat) (v : Value), us[i]? = some v → ∃ k t, ys[i]? = some k ∧ v = .str k t := by
    intro us ys h
    induction h with
    | nil => intro i v e; simp at e
    | cons y t _ ih =>
      intro i v e
      cases i with
      | zero =>
        have e' := Option.some.inj e
        exact ⟨y, t, rfl, e'.symm⟩
      | succ i => exact ih i v e
  intro A' I fp wr G St R W S hS s0 hst h0 hR
  refine fill_strs W S hS xs hn hb (fun i v hv => at_ hit i v (by rw [Array.getElem?_toList]; exact hv)) (items.size - 0) 0 s0 rfl (Nat.zero_le _) hst
    ⟨0, Nat.zero_le _, by simp, ⟨_, #[], 0, _, h0, ⟨rfl, rfl, rfl⟩, rfl, (fun e he => by simp at he), (fun k => by simp), (by decide), (by rfl), rfl⟩⟩ fun s' hm hs => hR s' hm hs
end
section
variable {X : Cx}
def tLenSetS (K : PySem.W.Frag) (ta : TE) : TE := fun σ H Q => ta σ H fun x H1 => ∃ (l : Addr) (xs : List Str), x = .ref l ∧ SqL K H1 l (xs.map V.str) ∧ xs.length ≤ 2000 ∧ ∀ n : Nat, n ≤ xs.length → (n = xs.length ↔ xs.Nodup) → Q (.int (n : Int)) H1
theorem pe_lenSetS {a : Expr} {ta : TE} {p p2 q pos : Pos} (hc : X.calm = true) (hg : Gl X "len") (hm : X.mg "len" = none) (hg2 : Gl X "set") (hm2 : X.mg "set" = none) (ha : PE X a ta)
    (na : starEach [a] X.env = (false, eval a X.env) :: starEach [] X.env := by rfl) : PE X (.Call (.Name "len" p) [.Call (.Name "set" p2) [a] [] q] [] pos) (tLenSetS X.K ta) := by
  refine ⟨fun pins s σ H Q I h => Call_ (ld_blt I hg hm PySem.boot_len (PyProof.Rows.callWith_builtin1 (PyProof.Rows.args_cons (Call_ (ld_blt I hg2 hm2 PyProof.Rows.boot_set ?_)) rfl) rfl rfl))⟩
  refine PyProof.Rows.callWith_type1 (PyProof.Rows.args_cons (thn (ha.run pins s σ H _ I h) fun v s1 hh => PyProof.Rows.args_nil ?_) na) na rfl
  obtain ⟨x, H1, I1, r1, l, xs, rfl, hq, hl, q1⟩ := hh
  cases r1
  obtain ⟨its, r, pl, hz⟩ := I1.list hq
  refine set_of_list (I1.ok.hd hc) pl.isList (fills_strs (xs := xs) (by simpa using strsAre_of r) (by unfold scanBound; omega)) fun h' tk hS hk => PyProof.Rows.args_nil ?_
  obtain ⟨n, n1, n2, o, es, ep, t, ho, hex, hd, _, _, _, hf, hn⟩ := hS
  have I2 : Inv X pins σ H1 { s1 with heap := h', toks := tk } := I1.kept hk
  exact call_len_set ho hex hd hf (by rw [hn] <;> omega) ⟨.int (n : Int), H1, I2.tok _, ⟨_, by rw [hn]⟩, q1 n n1 n2⟩
end
end Qt
/-! min(xs, default=None) of a list of ints. -/
namespace Qt
open PySem PySem.Spec PyProof.Rows L2 Evl
section
variable {P : Program} {w : World} {A : Around} {E : Value → Shared → Prop} {s : Shared}
abbrev kwD : List (Str × Value) := [(PySem.Str.ofString "default", .none)]
theorem min_args (a : Value) : argsOk "min" ⟨[a], kwD⟩ := by unfold argsOk; kernel_rfl
theorem min_name : (toString "min" ++ toString ".loop" : String) = "min.loop" := by decide
abbrev bestO (vs : Array Value) (c : Nat) : Obj := { cls := .type "list", dict := none, data := .seq vs c, slots := #[] }
section
variable {R : Result → Shared → Prop} {I S : Addr} {fp wr : List Addr} {n : Nat} {Pv : Nat → Value → Prop} {St : Nat → Heap → Prop}
theorem minD_loop (W : Walks P w A.in1 I fp wr n Pv St) (bt : Nat → Nat → Bool) (hcmp : CmpOf P w A.in1 .Lt Pv bt) (hSf : S ∉ fp) :
    ∀ (k j : Nat) (s : Shared) (v : Value) (c : Nat), n - (j + 1) = k → j + 1 ≤ n → St (j + 1) s.heap → Pv (argBest bt j) v → s.heap.get? S = some (bestO #[v, v] c) →
    (∀ u h' tk, Pv (argBest bt (n - 1)) u → (∀ b o, b ∉ wr → b ≠ S → s.heap.get? b = some o → h'.get? b = some o) → R (.ok (.ret u)) { s with heap := h', toks := tk }) →
    codeAny (model P w) A (.builtin "min.loop" ⟨[.ref I, .none, .ref S], kwD⟩) R s := by
  have out : S ∉ wr := fun h => hSf (W.sub _ h)
  intro k
  induction k with
  | zero =>
    intro j s v c hk hj hst hP hS hR
    have hn : j + 1 = n := by omega
    refine codeAny_builtin F.entry_min_loop ?_
    rw [Around.under_plainId F.plain_min_loop _]
    show wpAny _ A.in1 (seqItems? (.ref S) >>= _) _ _ s
    refine wpAny_bind (wpAny_seqItems hS rfl ?_)
    show wpAny _ A.in1 (tryCatch (pyNext (.ref I)) _ >>= _) _ _ s
    refine wpAny_bind (wpAny_tryCatch (W.done s _ _ (hn ▸ hst) fun h' tk keep => ?_))
    have hS' := keep S _ out hS
    show wpAny _ A.in1 (updateSeq S (fun _ => #[]) >>= _) _ _ _
    refine wpAny_bind (wpAny_updateSeq hS' rfl (wpAny_bind (wpAny_letGo (wpAny_pure (hR v _ tk (by rw [← hn]; exact hP) fun b o b1 b2 e => ?_)))))
    exact (Heap.get?_update_other _ _ (Ne.symm b2)).trans (keep b o b1 e)
  | succ k ih =>
    intro j s v c hk hj hst hP hS hR
    have lt : j + 1 < n := by omega
    refine codeAny_builtin F.entry_min_loop ?_
    rw [Around.under_plainId F.plain_min_loop _]
    show wpAny _ A.in1 (seqItems? (.ref S) >>= _) _ _ s
    refine wpAny_bind (wpAny_seqItems hS rfl ?_)
    show wpAny _ A.in1 (tryCatch (pyNext (.ref I)) _ >>= _) _ _ s
    refine wpAny_bind (wpAny_tryCatch (W.item (j + 1) s _ _ lt hst fun u h' tk hu hst' keep => ?_))
    have hS' := keep S _ out hS
    show wpAny _ A.in1 (tryCatch (holding [u, u] (richCompare .Lt u v >>= _)) _ >>= _) _ _ _
    refine wpAny_bind (wpAny_tryCatch (wpAny_holding (wpAny_bind (hcmp (j + 1) (argBest bt j) u v _ _ _ hu hP (wpAny_bind (wpAny_holding (wpAny_truthy_bool (wpAny_bind (wpAny_letGo (wpAny_pure ?_))))))))))
    cases hb : bt (j + 1) (argBest bt j) with
    | true =>
      simp only [if_true]
      refine wpAny_bind (wpAny_updateSeq hS' rfl (wpAny_bind (wpAny_letGo ?_)))
      rw [min_name]
      refine wpAny_pure ⟨plainId_quiet F.plain_min_loop _, ih (j + 1) _ u _ (by omega) lt (W.frame _ _ _ hst' fun b hbf o e => ?_) (by simp only [argBest, hb, if_true]; exact hu) (Heap.get?_update_self _ hS' rfl) fun u' h2 tk2 hu' keep2 => ?_⟩
      · exact (Heap.get?_update_other _ _ (fun h : S = b => hSf (by rw [h]; exact hbf))).trans e
      · exact hR u' h2 tk2 hu' fun b o b1 b2 e => keep2 b o b1 b2 ((Heap.get?_update_other _ _ (Ne.symm b2)).trans (keep b o b1 e))
    | false =>
      simp only [Bool.false_eq_true, if_false]
      refine wpAny_bind (wpAny_letGo ?_)
      rw [min_name]
      exact wpAny_pure ⟨plainId_quiet F.plain_min_loop _, ih (j + 1) _ v c (by omega) lt hst' (by simp only [argBest, hb, Bool.false_eq_true, if_false]; exact hP) hS' fun u' h2 tk2 hu' keep2 => hR u' h2 tk2 hu' fun b o b1 b2 e => keep2 b o b1 b2 (keep b o b1 e)⟩
theorem minD_first (W : Walks P w A.in1 I fp wr n Pv St) (bt : Nat → Nat → Bool) (hcmp : CmpOf P w A.in1 .Lt Pv bt) (hSf : S ∉ fp) {s : Shared} {c : Nat} (hst : St 0 s.heap) (hS : s.heap.get? S = some (bestO #[] c))
    (h0 : n = 0 → ∀ h' tk, (∀ b o, b ∉ wr → b ≠ S → s.heap.get? b = some o → h'.get? b = some o) → R (.ok (.ret .none)) { s with heap := h', toks := tk })
    (h1 : 0 < n → ∀ u h' tk, Pv (argBest bt (n - 1)) u → (∀ b o, b ∉ wr → b ≠ S → s.heap.get? b = some o → h'.get? b = some o) → R (.ok (.ret u)) { s with heap := h', toks := tk }) :
    codeAny (model P w) A (.builtin "min.loop" ⟨[.ref I, .none, .ref S], kwD⟩) R s := by
  have out : S ∉ wr := fun h => hSf (W.sub _ h)
  refine codeAny_builtin F.entry_min_loop ?_
  rw [Around.under_plainId F.plain_min_loop _]
  show wpAny _ A.in1 (seqItems? (.ref S) >>= _) _ _ s
  refine wpAny_bind (wpAny_seqItems hS rfl ?_)
  show wpAny _ A.in1 (tryCatch (pyNext (.ref I)) _ >>= _) _ _ s
  by_cases hn : n = 0
  · refine wpAny_bind (wpAny_tryCatch (W.done s _ _ (hn ▸ hst) fun h' tk keep => ?_))
    refine wpAny_bind (wpAny_rule ?_)
    exact wpAny_pure (h0 hn _ tk fun b o b1 b2 e => keep b o b1 e)
  · refine wpAny_bind (wpAny_tryCatch (W.item 0 s _ _ (by omega) hst fun u h' tk hu hst' keep => ?_))
    have hS' := keep S _ out hS
    show wpAny _ A.in1 (updateSeq S (fun _ => #[u, u]) >>= _) _ _ _
    refine wpAny_bind (wpAny_updateSeq hS' rfl ?_)
    rw [min_name]
    refine wpAny_pure ⟨plainId_quiet F.plain_min_loop _, minD_loop W bt hcmp hSf _ 0 _ u _ rfl (by omega) (W.frame _ _ _ hst' fun b hbf o e => ?_) hu (Heap.get?_update_self _ hS' rfl) fun u' h2 tk2 hu' keep2 => ?_⟩
    · exact (Heap.get?_update_other _ _ (fun h : S = b => hSf (by rw [h]; exact hbf))).trans e
    · exact h1 (by omega) u' h2 tk2 hu' fun b o b1 b2 e => keep2 b o b1 b2 ((Heap.get?_update_other _ _ (Ne.symm b2)).trans (keep b o b1 e))
end
theorem minD_list {l : Addr} {items : Array Value} (val : Nat → Int) (hv : ∀ (i : Nat) (v : Value), items[i]? = some v → ∃ t, v = Value.int (val i) t) {Q : Value → Shared → Prop} (hh : A.handled = none) (hl : s.heap.IsList l items)
    (h0 : items.size = 0 → ∀ h' tk, (∀ b o, s.heap.get? b = some o → h'.get? b = some o) → Q .none { s with heap := h', toks := tk })
    (h1 : 0 < items.size → ∀ t h' tk, (∀ b o, s.heap.get? b = some o → h'.get? b = some o) → Q (.int (val (argBest (fun i j => decide (val i < val j)) (items.size - 1))) t) { s with heap := h', toks := tk }) :
    wpAny (model P w) A (call (.builtin "min") [.ref l] kwD) Q E s := by
  obtain ⟨ol, hol, _⟩ := id hl
  have hll : l < s.heap.objs.size := Heap.lt_size hol
  refine kmk_tree F.kind_min F.plain_min F.entry_min (min_args _) ?_
  show wpAny _ A.in1 (Builtin.Builtins.bindParams "min" ["key", "default"] 0 ⟨[], kwD⟩ >>= _) _ _ s
  refine wpAny_bind (wpAny_of_eq (show Builtin.Builtins.bindParams "min" ["key", "default"] 0 ⟨[], kwD⟩ = pure [none, some .none] from rfl) ?_)
  refine wpAny_bind (wpAny_pure (wpAny_bind (wpAny_pyIter_list hl (wpAny_bind (wpAny_newList ?_ (Nat.zero_le _))))))
  rw [min_name]
  have hz : (s.heap.push { cls := .type "list_iterator", data := .fields #[.ref l, .int 0 0] }).objs.size = s.heap.objs.size + 1 := Heap.size_push ..
  have hlI : l ≠ s.heap.objs.size := Nat.ne_of_lt hll
  have kept : ∀ {h' : Heap}, (∀ b o, b ∉ [s.heap.objs.size] → b ≠ (s.heap.push { cls := .type "list_iterator", data := .fields #[.ref l, .int 0 0] }).objs.size →
      ((s.heap.push { cls := .type "list_iterator", data := .fields #[.ref l, .int 0 0] }).push (seqObj "list" #[] 0)).get? b = some o → h'.get? b = some o) → ∀ b o, s.heap.get? b = some o → h'.get? b = some o := by
    intro h' k b o e
    have hb := Heap.lt_size e
    refine k b o (by rw [List.mem_singleton]; exact Nat.ne_of_lt hb) (by rw [hz]; exact Nat.ne_of_lt (Nat.lt_succ_of_lt hb)) (Heap.get?_push_of_some _ (Heap.get?_push_of_some _ e))
  refine wpAny_pure ⟨plainId_quiet F.plain_min_loop _, minD_first (Walks.list (A := A.in1) (by simp [hh]) s.heap.objs.size l hlI items) (fun i j => decide (val i < val j)) (CmpOf.ints_lt val hv) (fun z => ?_) ⟨⟨_, Heap.get?_push_of_some _ (Heap.get?_push_size _ rfl), rfl, rfl⟩, (hl.push _).push _⟩ (Heap.get?_push_size _ rfl) (fun hn h' tk k => ?_) (fun hn u h' tk hu k => ?_)⟩
  · rcases List.mem_cons.mp z with z | z
    · rw [hz] at z
      exact absurd z (Nat.ne_of_gt (Nat.lt_succ_self _))
    · rw [hz] at z
      exact absurd (List.mem_singleton.mp z) (Nat.ne_of_gt (Nat.lt_succ_of_lt hll))
  · exact h0 hn h' tk (kept k)
  · obtain ⟨t, rfl⟩ := hv _ _ hu
    exact h1 hn t h' tk (kept k)
end
section
variable {X : Cx}
/-- min(xs, default=None) -/
def rMinD (K : PySem.W.Frag) : List V → List V → Hp → VK → Prop := fun vs zs H Q => ∃ (a : Addr) (ns : List Int), vs = [.ref a] ∧ zs = [.non] ∧ SqL K H a (ns.map V.int) ∧ (ns = [] → Q .non H) ∧ ∀ m, m ∈ ns → (∀ k ∈ ns, m ≤ k) → Q (.int m) H
theorem cr_minD (hc : X.calm = true) : CallRK X (.builtin "min") [PySem.Str.ofString "default"] (rMinD X.K) := by
  intro pins s σ H vs zs us ws Q I r rz h
  obtain ⟨a, ns, rfl, rfl, hs, q0, q1⟩ := h
  rw [Vals.ref1 r]
  obtain ⟨w1, rfl, e1⟩ := vals1 rz
  obtain rfl : w1 = Value.none := e1
  obtain ⟨its, rv, hl, _⟩ := I.list hs
  have hlen : its.toArray.size = ns.length := by rw [List.size_toArray, ← rv.length, List.length_map]
  refine minD_list (fun i => ns.getD i 0) (fun i v hv => ?_) (I.ok.hd hc) hl.isList (fun hn h' tk k => ?_) fun hn t h' tk k => ?_
  · have hi : i < ns.length := by rw [← hlen]; exact (Array.getElem?_eq_some_iff.mp hv).1
    obtain ⟨u, hu, ru⟩ := rv.get (i := i) (x := .int (ns.getD i 0)) (by rw [List.getElem?_map, List.getElem?_eq_getElem hi, List.getD_eq_getElem?_getD, List.getElem?_eq_getElem hi]; rfl)
    have hv' : its[i]? = some v := by simpa using hv
    rw [hu] at hv'
    cases hv'
    exact ru
  · exact ⟨.non, H, I.kept (t' := tk) k, rfl, q0 (List.eq_nil_of_length_eq_zero (by omega))⟩
  · obtain ⟨b1, b2⟩ := argBest_lt (fun i => ns.getD i 0) (its.toArray.size - 1)
    refine ⟨.int _, H, I.kept (t' := tk) k, ⟨t, rfl⟩, q1 _ ?_ fun z hz => ?_⟩
    · have hi : argBest (fun i j => decide (ns.getD i 0 < ns.getD j 0)) (its.toArray.size - 1) < ns.length := by omega
      rw [List.getD_eq_getElem?_getD, List.getElem?_eq_getElem hi]
      exact List.getElem_mem hi
    · obtain ⟨j, hj, rfl⟩ := List.getElem_of_mem hz
      have := b2 j (by omega)
      rw [List.getD_eq_getElem?_getD (i := j), List.getElem?_eq_getElem hj] at this
      exact this
end
end Qt
/-! Comprehensions of two fors. -/
namespace Qt
open PySem PySem.Spec PyProof.Rows L2 Evl
section
variable {J J1 : It} {n n1 : Nat} {G G1 : Hp → Prop} {Y Y1 : Nat → Hp → V → Hp → Prop}
/-- the outer for -/
theorem lc2_out (w : Walk J n G Y) {B : V → Hp → (Hp → Prop) → Prop} {H1 : Hp} {D : Addr} {Qd : Hp → Prop} (Pv : Nat → Hp → Prop) (h0 : Pv 0 (upd H1 D (.lst []))) (hG : ∀ i H, i ≤ n → Pv i H → G H)
    (hs : ∀ i x H H', i < n → Pv i H → Y i H x H' → B x H' (Pv (i + 1))) (hd : ∀ H, Pv n H → Qd H) :
    ∃ W : Nat → Nat → Hp → Prop, (∃ m, W 0 m (upd H1 D (.lst []))) ∧ ∀ i m H, W i m H → (J.stop i H ∧ Qd H) ∨ (J.go i H ∧ ∃ Nx : Hp → Prop, (∀ H', Nx H' → ∃ m', m' < m ∧ W (i + 1) m' H') ∧ ∀ x H', J.yld i H x H' → B x H' Nx) := by
  refine ⟨fun i m H => m = n - i ∧ i ≤ n ∧ Pv i H, ⟨n, by simp, Nat.zero_le _, h0⟩, ?_⟩
  rintro i m H ⟨rfl, hi, p⟩
  have q := hG i H hi p
  by_cases lt : i < n
  · exact .inr ⟨w.goes i H lt q, Pv (i + 1), fun H' p' => ⟨n - (i + 1), by omega, rfl, lt, p'⟩, fun x H' y => hs i x H H' lt p (w.yields i H x H' lt q y)⟩
  · obtain rfl : i = n := by omega
    exact .inl ⟨w.stops H q, hd H p⟩
/-- the inner for -/
theorem lc2_in (w : Walk J1 n1 G1 Y1) {B : V → Hp → (Hp → Prop) → Prop} {H4 : Hp} {Nx : Hp → Prop} (Pv : Nat → Hp → Prop) (h0 : Pv 0 H4) (hG : ∀ i H, i ≤ n1 → Pv i H → G1 H)
    (hs : ∀ i x H H', i < n1 → Pv i H → Y1 i H x H' → B x H' (Pv (i + 1))) (hd : ∀ H, Pv n1 H → Nx H) :
    ∃ W : Nat → Nat → Hp → Prop, (∃ m, W 0 m H4) ∧ ∀ i m H, W i m H → (J1.stop i H ∧ Nx H) ∨ (J1.go i H ∧ ∃ Mx : Hp → Prop, (∀ H', Mx H' → ∃ m', m' < m ∧ W (i + 1) m' H') ∧ ∀ x H', J1.yld i H x H' → B x H' Mx) := by
  refine ⟨fun i m H => m = n1 - i ∧ i ≤ n1 ∧ Pv i H, ⟨n1, by simp, Nat.zero_le _, h0⟩, ?_⟩
  rintro i m H ⟨rfl, hi, p⟩
  have q := hG i H hi p
  by_cases lt : i < n1
  · exact .inr ⟨w.goes i H lt q, Pv (i + 1), fun H' p' => ⟨n1 - (i + 1), by omega, rfl, lt, p'⟩, fun x H' y => hs i x H H' lt p (w.yields i H x H' lt q y)⟩
  · obtain rfl : i = n1 := by omega
    exact .inl ⟨w.stops H q, hd H p⟩
end
section
variable {K : PySem.W.Frag} {σ : L2.St} {H : Hp} {te til : TE} {ta : TA}
/-- what two fors give, up to the outer turn i -/
def given2 (m : Nat → Nat) (v : Nat → Nat → V) (i : Nat) : List V := (List.range i).flatMap fun a => (List.range (m a)).map (v a)
theorem given2_succ (m : Nat → Nat) (v : Nat → Nat → V) (i : Nat) : given2 m v (i + 1) = given2 m v i ++ (List.range (m i)).map (v i) := by
  unfold given2
  rw [List.range_succ, List.flatMap_append, List.flatMap_singleton]
theorem given2_len (m : Nat → Nat) (v : Nat → Nat → V) (i : Nat) (h : ∀ a, m a ≤ 200) : (given2 m v i).length ≤ i * 200 := by
  induction i with
  | zero => simp [given2]
  | succ i ih =>
    rw [given2_succ, List.length_append, List.length_map, List.length_range]
    have := h i
    omega
theorem yes_if {σ : L2.St} {H : Hp} {A B : Hp → Prop} (h : A H) : tYes σ H fun b H3 => if b = true then A H3 else B H3 := iteT (B := B H) h
/-- for i, x in enumerate(xs) for y in a new list, no test -/
theorem el_lc2 {a : Addr} {xs : List V} {ys : Nat → List V} {j k l : Nat} {vs vs1 : List Nat} (v : Nat → Nat → V) (h : EvA ta σ H [.ref a]) (hx : SqL K H a xs) (hz : xs.length ≤ 200) (hy : ∀ i, (ys i).length ≤ 200)
    (hw : ∀ x y, wipe (((wipe σ vs).set j (some x)).set k (some y)) vs = wipe σ vs)
    (hw1 : ∀ x y z, wipe ((wipe (((wipe σ vs).set j (some x)).set k (some y)) vs1).set l (some z)) vs1 = wipe (((wipe σ vs).set j (some x)).set k (some y)) vs1)
    (hi : ∀ (i : Nat) y H1, Ex H H1 → xs[i]? = some y → EvL til (((wipe σ vs).set j (some (.int (i : Int)))).set k (some y)) H1 (ys i))
    (he : ∀ (i m : Nat) y z H1, Ex H H1 → xs[i]? = some y → (ys i)[m]? = some z → Ev te ((wipe (((wipe σ vs).set j (some (.int (i : Int)))).set k (some y)) vs1).set l (some z)) H1 (v i m)) :
    EvL (tLc2 (iEnum K ta) (gTup K 2 (gCons (gName j) (gCons (gName k) gNil))) tYes (iList K til) (gName l) tYes te vs vs1) σ H (given2 (fun i => (ys i).length) v xs.length) := fun H0 e Q q => h H0 e _ fun H1 e1 => ⟨a, xs, rfl, ex_l (e.trans e1) hx, fun Dl hD => by
  have hm := given2_len (fun i => (ys i).length) v
  refine lc2_out (walk_enum (xs := xs)) (fun i H' => Ex H1 H' ∧ H' Dl = some (.lst (given2 (fun i => (ys i).length) v i))) ⟨Ex.new hD, upd_same⟩ (fun _ _ _ p => ex_l p.1 (ex_l (e.trans e1) hx)) (fun i z H2 H' hlt p y' => ?_) (fun H' p => q Dl H' (fresh_back e1 hD) (e1.trans p.1) p.2)
  obtain ⟨T, nn, y, rfl, nT, rfl, hn, hy'⟩ := y'
  obtain rfl : V.int (i : Nat) = nn := Option.some.inj hn
  obtain ⟨p1, p2⟩ := p
  have nTD : Dl ≠ T := ne_of_none p2 nT
  refine ⟨T, _, rfl, st_of upd_same, rfl, _, _, rfl, _, _, rfl, rfl, hw _ _, ?_⟩
  have E2 : Ex H1 (upd H2 T (.tup [.int (i : Nat), y])) := p1.trans (Ex.new nT)
  refine yes_if ?_
  refine hi i y H1 (e.trans e1) hy' _ E2 _ fun L H3 nL e3 hL => ⟨L, rfl, ⟨_, sq_of hL⟩, ?_⟩
  have dD : H3 Dl = some (.lst (given2 (fun i => (ys i).length) v i)) := e3 _ _ (by rw [upd_ne nTD]; exact p2)
  have nLD : Dl ≠ L := fun z => by
    rw [← z, upd_ne nTD, p2] at nL
    cases nL
  refine lc2_in (walk_list (xs := ys i)) (fun m H' => Ex H1 H' ∧ H' Dl = some (.lst (given2 (fun i => (ys i).length) v i ++ (List.range m).map (v i))) ∧ H' L = some (.lst (ys i))) ⟨E2.trans e3, by rw [List.range_zero, List.map_nil, List.append_nil]; exact dD, hL⟩ (fun _ _ _ p => sq_of p.2.2) (fun m z H4 H5 hmlt p y2 => ?_) (fun H' p => ?_)
  · obtain ⟨rfl, hz2⟩ := y2
    obtain ⟨g1, g2, g3⟩ := p
    refine ⟨hw1 _ _ _, ?_⟩
    refine yes_if ?_
    refine he i m y z H1 (e.trans e1) hy' hz2 _ g1 _ fun H6 e6 => ⟨_, e6 _ _ g2, ?_, Ex.mut (g1.trans e6) hD, ?_, ?_⟩
    · have b1 := hm i hy
      have b2 := hy i
      rw [List.length_append, List.length_map, List.length_range, sizeLine_eq]
      have : i * 200 ≤ 200 * 200 := Nat.mul_le_mul_right _ (by omega)
      omega
    · rw [upd_same, List.range_succ, List.map_append, List.append_assoc]
      rfl
    · rw [upd_ne nLD.symm]
      exact e6 _ _ g3
  · refine ⟨p.1, ?_⟩
    rw [given2_succ]
    exact p.2.1⟩
end
theorem pi_listK {X : Cx} {tg e : Expr} {te : TE} (K : PySem.W.Frag) (h : X.K = K) (he : PE X e te) : PI X tg e (iList K te) := h ▸ pi_list he
theorem call_lenK {X : Cx} (K : PySem.W.Frag) (h : X.K = K) : CallR X (.builtin "len") (fun xs H Q => ∃ x n, xs = [x] ∧ LenV K x H n ∧ Q (.int (n : Int)) H) := h ▸ call_len
theorem call_tuple_ofK {X : Cx} (K : PySem.W.Frag) (h : X.K = K) : CallR X (.type "tuple") (fun xs H Q => ∃ p ys, xs = [.ref p] ∧ ((SqL K H p ys ∧ ∀ l, H l = none → Q (.ref l) (upd H l (.tup ys))) ∨ (SqT K H p ys ∧ Q (.ref p) H))) := h ▸ call_tuple_of
end Qt
/-! a slice of a tuple, the whole of it too. -/
namespace Qt
open PySem PySem.Spec PyProof.Rows L2 Evl
section
variable {prog : Program} {w : World} {A : Around} {E : Value → Shared → Prop} {s : Shared}
theorem tup_whole {t sl : Addr} {items : Array Value} {vl vu : Value} {lo hi : Option Int} {Q : Value → Shared → Prop} (ht : IsTup s.heap t items) (hs : s.heap.IsSliceOf sl vl vu .none) (pl : IsPart vl lo) (pu : IsPart vu hi)
    (h1 : HT.sIx items.size 0 lo = 0) (h2 : HT.sIx items.size items.size hi = items.size) (h : Q (.ref t) s) : wpAny (model prog w) A (getItem (.ref t) (.ref sl)) Q E s := by
  obtain ⟨os, hos, hcs, hds⟩ := id hs
  have hTs : s.TypeIs (.ref sl) "slice" := ⟨os, hos, hcs⟩
  unfold getItem
  try with_reducible refine wpAny_holding ?_
  first | refine wpAny_bind (wpAny_pure ?_) | skip
  refine wpAny_bind (wpAny_sequenceKey ht.typeIs (by decide) (wpAny_bind (wpAny_callSpecial?_slot (name := Str.ofString "__getitem__") ht.typeIs PyProof.Rows.slot_tuple_getitem
    (wpAny_call_entry PyProof.Rows.slot_tuple_getitem ht.typeIs PyProof.Rows.entry_tuple_getitem ?_ (PyProof.Rows.args_tuple_getitem _ _)))))
  show wpAny _ _ (Builtin.Tuple.tupleItemsOf (.ref t) >>= _) _ _ s
  refine wpAny_bind (PyProof.Rows.tupleItemsOf_ ht (wpAny_bind (wpAny_typeOf hTs ?_)))
  rw [if_pos (by decide)]
  refine wpAny_bind (HT.sliceApplied_gen hs pl pu ?_)
  have yes : ((((HT.sIx items.size 0 lo : Nat) : Int) == 0 && (1 : Int) == 1 && (HT.sIx items.size items.size hi - HT.sIx items.size 0 lo) == items.size) = true) := by
    rw [h1, h2, Nat.sub_zero]
    simp
  show wpAny _ _ (if (((HT.sIx items.size 0 lo : Nat) : Int) == 0 && (1 : Int) == 1 && (HT.sIx items.size items.size hi - HT.sIx items.size 0 lo) == items.size) = true then _ else _) _ _ s
  rw [if_pos yes]
  refine wpAny_bind ?_
  unfold Builtin.Tuple.tupleIsExact
  refine wpAny_bind (wpAny_typeOf ht.typeIs (wpAny_pure ?_))
  rw [if_pos (by decide)]
  exact wpAny_bind (wpAny_rule (wpAny_pure ⟨_, rfl, wpAny_pure h⟩))
end
/-- t[lo:hi]: a new tuple, or t itself where it is the whole -/
def rSlTW (K : PySem.W.Frag) : V → Option Int → Option Int → Hp → VK → Prop := fun x lo hi H Q => ∃ a xs, x = .ref a ∧ SqT K H a xs ∧
  (HT.sIx xs.length 0 lo = 0 → HT.sIx xs.length xs.length hi = xs.length → Q (.ref a) H) ∧
  (¬ (HT.sIx xs.length 0 lo = 0 ∧ HT.sIx xs.length xs.length hi = xs.length) → ∀ p, H p = none → Q (.ref p) (upd H p (.tup (cutV xs lo hi))))
theorem sl_tupW {X : Cx} : SlR X (rSlTW X.K) := by
  intro pins s σ H x v vl vu lo hi sl Q I rx hs pl pu h
  obtain ⟨a, xs, rfl, hx, q1, q2⟩ := h
  by_cases hw : HT.sIx xs.length 0 lo = 0 ∧ HT.sIx xs.length xs.length hi = xs.length
  · cases rx
    obtain ⟨its, r, ht, hz⟩ := I.tuple hx
    have hlen : its.toArray.size = xs.length := by rw [List.size_toArray]; exact r.length.symm
    refine ⟨"tuple", _, PyProof.Rows.slot_tuple_getitem.lookup, ht.typeIs, tup_whole ht hs pl pu (by rw [hlen]; exact hw.1) (by rw [hlen]; exact hw.2) ?_⟩
    exact ⟨.ref a, H, I, rfl, q1 hw.1 hw.2⟩
  · exact sl_tup pins s σ H (.ref a) v vl vu lo hi sl Q I rx hs pl pu ⟨a, xs, rfl, hx, hw, q2 hw⟩
end Qt
/-! Lists by their value, truth of a text, slices to a bound. -/
namespace Qt
open PySem PySem.Spec PyProof.Rows L2 Evl
section
variable {K : PySem.W.Frag} {σ : L2.St} {H : Hp} {ta tb te tl : TE} {t : TT}
theorem el_is {xs ys : List V} (h : EvL te σ H xs) (e : xs = ys) : EvL te σ H ys := by
  rw [← e]
  exact h
/-- the truth of a text -/
theorem et_str {z : Str} (h : Ev te σ H (.str z)) (hz : z.length ≤ 100000) : EvT (fun σ H Q => te σ H fun x H' => ∃ k, TruV K x H' k ∧ Q k H') σ H ((z.length : Int) != 0) := fun H1 e Q q =>
  h H1 e _ fun H2 e2 => ⟨_, ⟨sz_of hz, rfl⟩, q H2 e2⟩
/-- the truth of a list -/
theorem et_lst {a : Addr} {xs : List V} (h : Ev te σ H (.ref a)) (hx : SqL K H a xs) : EvT (fun σ H Q => te σ H fun x H' => ∃ k, TruV K x H' k ∧ Q k H') σ H (!xs.isEmpty) := fun H1 e Q q =>
  h H1 e _ fun H2 e2 => ⟨_, .inl ⟨xs, ex_l (e.trans e2) hx, rfl⟩, q H2 e2⟩
theorem cut_to {xs : List V} {k : Nat} (h : k ≤ xs.length) : cutV xs none (some (k : Int)) = xs.take k := by
  unfold cutV
  rw [HT.sIx_none, HT.sIx_nat, Nat.min_eq_left h]
  rfl
/-- a slice of a new list -/
theorem el_slN {tlo thi : TO} {xs : List V} {lo hi : Option Int} (h : EvL te σ H xs) (h1 : EvO tlo σ H lo) (h2 : EvO thi σ H hi) : EvL (tSl (rSlL K) te tlo thi) σ H (cutV xs lo hi) := fun H1 e _ q =>
  h H1 e _ fun a H2 na e2 ha => h1 H2 (e.trans e2) _ fun H3 e3 => h2 H3 ((e.trans e2).trans e3) _ fun H4 e4 =>
    ⟨a, xs, rfl, sq_of (e4 _ _ (e3 _ _ ha)), fun p hp => q p _ (fresh_back ((e2.trans e3).trans e4) hp) (((e2.trans e3).trans e4).trans (Ex.new hp)) upd_same⟩
theorem rv_addS {x y : Str} (h : x.length + y.length ≤ 100000) : RV (fun x y H Q => ∃ i j, x = .str i ∧ y = .str j ∧ i.length + j.length ≤ sizeLine ∧ Q (.str (i ++ j)) H) (.str x) (.str y) H (.str (x ++ y)) := fun H1 _ _ q =>
  ⟨x, y, rfl, rfl, sz_of h, q H1 (Ex.refl H1)⟩
theorem rv_mulS {z : Str} {k : Nat} (h1 : k ≤ 1000) (h2 : z.length ≤ 1000) : RV (fun x y H Q => ∃ (z : Str) (k : Nat), x = .str z ∧ y = .int (k : Int) ∧ k ≤ 1000 ∧ z.length ≤ 1000 ∧ Q (.str (repS z k)) H) (.str z) (.int (k : Int)) H (.str (repS z k)) := fun H1 _ _ q =>
  ⟨z, k, rfl, rfl, h1, h2, q H1 (Ex.refl H1)⟩
end
theorem app_len (a b : Str) : (a ++ b).length = a.length + b.length := by
  rw [← len_l, str_app, List.length_append, len_l, len_l]
theorem repS_toList (z : Str) (k : Nat) : (repS z k).cps.toList = (List.replicate k z.cps.toList).flatten := by
  unfold repS
  simp
theorem flat_rep_len {α : Type} (l : List α) (k : Nat) : (List.replicate k l).flatten.length = k * l.length := by
  induction k with
  | zero => simp
  | succ k ih => rw [List.replicate_succ, List.flatten_cons, List.length_append, ih, Nat.succ_mul, Nat.add_comm]
theorem repS_length (z : Str) (k : Nat) : (repS z k).length = k * z.length := by
  rw [← len_l, repS_toList, flat_rep_len, len_l]
theorem flat_rep_get {α : Type} (d : α) (l : List α) (k i : Nat) (h : i < k * l.length) : ((List.replicate k l).flatten).getD i d = l.getD (i % l.length) d := by
  induction k generalizing i with
  | zero => rw [Nat.zero_mul] at h; omega
  | succ k ih =>
    rw [List.replicate_succ, List.flatten_cons]
    rw [Nat.succ_mul] at h
    by_cases hi : i < l.length
    · rw [List.getD_eq_getElem?_getD, List.getElem?_append_left hi, Nat.mod_eq_of_lt hi, ← List.getD_eq_getElem?_getD]
    · rw [List.getD_eq_getElem?_getD, List.getElem?_append_right (by omega), ← List.getD_eq_getElem?_getD, ih _ (by omega), ← Nat.mod_eq_sub_mod (by omega)]
theorem repS_get (z : Str) (k i : Nat) (h : i < k * z.length) : (repS z k).cps.toList.getD i 0 = z.cps.toList.getD (i % z.length) 0 := by
  rw [repS_toList, flat_rep_get 0 _ _ _ (by rw [len_l]; exact h), len_l]
end Qt
/-! min(xs, default=a number); comprehensions of two fors, further. -/
namespace Qt
open PySem PySem.Spec PyProof.Rows L2 Evl
section
variable {P : Program} {w : World} {dv : Value} {A : Around} {E : Value → Shared → Prop} {s : Shared}
abbrev kwE (d : Value) : List (Str × Value) := [(PySem.Str.ofString "default", d)]
theorem min_argsE (a d : Value) : argsOk "min" ⟨[a], kwE d⟩ := by unfold argsOk; kernel_rfl
section
variable {R : Result → Shared → Prop} {I S : Addr} {fp wr : List Addr} {n : Nat} {Pv : Nat → Value → Prop} {St : Nat → Heap → Prop}
theorem minE_loop (W : Walks P w A.in1 I fp wr n Pv St) (bt : Nat → Nat → Bool) (hcmp : CmpOf P w A.in1 .Lt Pv bt) (hSf : S ∉ fp) :
    ∀ (k j : Nat) (s : Shared) (v : Value) (c : Nat), n - (j + 1) = k → j + 1 ≤ n → St (j + 1) s.heap → Pv (argBest bt j) v → s.heap.get? S = some (bestO #[v, v] c) →
    (∀ u h' tk, Pv (argBest bt (n - 1)) u → (∀ b o, b ∉ wr → b ≠ S → s.heap.get? b = some o → h'.get? b = some o) → R (.ok (.ret u)) { s with heap := h', toks := tk }) →
    codeAny (model P w) A (.builtin "min.loop" ⟨[.ref I, .none, .ref S], kwE dv⟩) R s := by
  have out : S ∉ wr := fun h => hSf (W.sub _ h)
  intro k
  induction k with
  | zero =>
    intro j s v c hk hj hst hP hS hR
    have hn : j + 1 = n := by omega
    refine codeAny_builtin F.entry_min_loop ?_
    rw [Around.under_plainId F.plain_min_loop _]
    show wpAny _ A.in1 (seqItems? (.ref S) >>= _) _ _ s
    refine wpAny_bind (wpAny_seqItems hS rfl ?_)
    show wpAny _ A.in1 (tryCatch (pyNext (.ref I)) _ >>= _) _ _ s
    refine wpAny_bind (wpAny_tryCatch (W.done s _ _ (hn ▸ hst) fun h' tk keep => ?_))
    have hS' := keep S _ out hS
    show wpAny _ A.in1 (updateSeq S (fun _ => #[]) >>= _) _ _ _
    refine wpAny_bind (wpAny_updateSeq hS' rfl (wpAny_bind (wpAny_letGo (wpAny_pure (hR v _ tk (by rw [← hn]; exact hP) fun b o b1 b2 e => ?_)))))
    exact (Heap.get?_update_other _ _ (Ne.symm b2)).trans (keep b o b1 e)
  | succ k ih =>
    intro j s v c hk hj hst hP hS hR
    have lt : j + 1 < n := by omega
    refine codeAny_builtin F.entry_min_loop ?_
    rw [Around.under_plainId F.plain_min_loop _]
    show wpAny _ A.in1 (seqItems? (.ref S) >>= _) _ _ s
    refine wpAny_bind (wpAny_seqItems hS rfl ?_)
    show wpAny _ A.in1 (tryCatch (pyNext (.ref I)) _ >>= _) _ _ s
    refine wpAny_bind (wpAny_tryCatch (W.item (j + 1) s _ _ lt hst fun u h' tk hu hst' keep => ?_))
    have hS' := keep S _ out hS
    show wpAny _ A.in1 (tryCatch (holding [u, u] (richCompare .Lt u v >>= _)) _ >>= _) _ _ _
    refine wpAny_bind (wpAny_tryCatch (wpAny_holding (wpAny_bind (hcmp (j + 1) (argBest bt j) u v _ _ _ hu hP (wpAny_bind (wpAny_holding (wpAny_truthy_bool (wpAny_bind (wpAny_letGo (wpAny_pure ?_))))))))))
    cases hb : bt (j + 1) (argBest bt j) with
    | true =>
      simp only [if_true]
      refine wpAny_bind (wpAny_updateSeq hS' rfl (wpAny_bind (wpAny_letGo ?_)))
      rw [min_name]
      refine wpAny_pure ⟨plainId_quiet F.plain_min_loop _, ih (j + 1) _ u _ (by omega) lt (W.frame _ _ _ hst' fun b hbf o e => ?_) (by simp only [argBest, hb, if_true]; exact hu) (Heap.get?_update_self _ hS' rfl) fun u' h2 tk2 hu' keep2 => ?_⟩
      · exact (Heap.get?_update_other _ _ (fun h : S = b => hSf (by rw [h]; exact hbf))).trans e
      · exact hR u' h2 tk2 hu' fun b o b1 b2 e => keep2 b o b1 b2 ((Heap.get?_update_other _ _ (Ne.symm b2)).trans (keep b o b1 e))
    | false =>
      simp only [Bool.false_eq_true, if_false]
      refine wpAny_bind (wpAny_letGo ?_)
      rw [min_name]
      exact wpAny_pure ⟨plainId_quiet F.plain_min_loop _, ih (j + 1) _ v c (by omega) lt hst' (by simp only [argBest, hb, Bool.false_eq_true, if_false]; exact hP) hS' fun u' h2 tk2 hu' keep2 => hR u' h2 tk2 hu' fun b o b1 b2 e => keep2 b o b1 b2 (keep b o b1 e)⟩
theorem minE_first (W : Walks P w A.in1 I fp wr n Pv St) (bt : Nat → Nat → Bool) (hcmp : CmpOf P w A.in1 .Lt Pv bt) (hSf : S ∉ fp) {s : Shared} {c : Nat} (hst : St 0 s.heap) (hS : s.heap.get? S = some (bestO #[] c))
    (h0 : n = 0 → ∀ h' tk, (∀ b o, b ∉ wr → b ≠ S → s.heap.get? b = some o → h'.get? b = some o) → R (.ok (.ret dv)) { s with heap := h', toks := tk })
    (h1 : 0 < n → ∀ u h' tk, Pv (argBest bt (n - 1)) u → (∀ b o, b ∉ wr → b ≠ S → s.heap.get? b = some o → h'.get? b = some o) → R (.ok (.ret u)) { s with heap := h', toks := tk }) :
    codeAny (model P w) A (.builtin "min.loop" ⟨[.ref I, .none, .ref S], kwE dv⟩) R s := by
  have out : S ∉ wr := fun h => hSf (W.sub _ h)
  refine codeAny_builtin F.entry_min_loop ?_
  rw [Around.under_plainId F.plain_min_loop _]
  show wpAny _ A.in1 (seqItems? (.ref S) >>= _) _ _ s
  refine wpAny_bind (wpAny_seqItems hS rfl ?_)
  show wpAny _ A.in1 (tryCatch (pyNext (.ref I)) _ >>= _) _ _ s
  by_cases hn : n = 0
  · refine wpAny_bind (wpAny_tryCatch (W.done s _ _ (hn ▸ hst) fun h' tk keep => ?_))
    refine wpAny_bind (wpAny_rule ?_)
    exact wpAny_pure (h0 hn _ tk fun b o b1 b2 e => keep b o b1 e)
  · refine wpAny_bind (wpAny_tryCatch (W.item 0 s _ _ (by omega) hst fun u h' tk hu hst' keep => ?_))
    have hS' := keep S _ out hS
    show wpAny _ A.in1 (updateSeq S (fun _ => #[u, u]) >>= _) _ _ _
    refine wpAny_bind (wpAny_updateSeq hS' rfl ?_)
    rw [min_name]
    refine wpAny_pure ⟨plainId_quiet F.plain_min_loop _, minE_loop W bt hcmp hSf _ 0 _ u _ rfl (by omega) (W.frame _ _ _ hst' fun b hbf o e => ?_) hu (Heap.get?_update_self _ hS' rfl) fun u' h2 tk2 hu' keep2 => ?_⟩
    · exact (Heap.get?_update_other _ _ (fun h : S = b => hSf (by rw [h]; exact hbf))).trans e
    · exact h1 (by omega) u' h2 tk2 hu' fun b o b1 b2 e => keep2 b o b1 b2 ((Heap.get?_update_other _ _ (Ne.symm b2)).trans (keep b o b1 e))
end
theorem minE_list {l : Addr} {items : Array Value} (val : Nat → Int) (hv : ∀ (i : Nat) (v : Value), items[i]? = some v → ∃ t, v = Value.int (val i) t) {Q : Value → Shared → Prop} (hh : A.handled = none) (hl : s.heap.IsList l items)
    (h0 : items.size = 0 → ∀ h' tk, (∀ b o, s.heap.get? b = some o → h'.get? b = some o) → Q dv { s with heap := h', toks := tk })
    (h1 : 0 < items.size → ∀ t h' tk, (∀ b o, s.heap.get? b = some o → h'.get? b = some o) → Q (.int (val (argBest (fun i j => decide (val i < val j)) (items.size - 1))) t) { s with heap := h', toks := tk }) :
    wpAny (model P w) A (call (.builtin "min") [.ref l] (kwE dv)) Q E s := by
  obtain ⟨ol, hol, _⟩ := id hl
  have hll : l < s.heap.objs.size := Heap.lt_size hol
  refine kmk_tree F.kind_min F.plain_min F.entry_min (min_argsE _ _) ?_
  show wpAny _ A.in1 (Builtin.Builtins.bindParams "min" ["key", "default"] 0 ⟨[], kwE dv⟩ >>= _) _ _ s
  refine wpAny_bind (wpAny_of_eq (show Builtin.Builtins.bindParams "min" ["key", "default"] 0 ⟨[], kwE dv⟩ = pure [none, some dv] from rfl) ?_)
  refine wpAny_bind (wpAny_pure (wpAny_bind (wpAny_pyIter_list hl (wpAny_bind (wpAny_newList ?_ (Nat.zero_le _))))))
  rw [min_name]
  have hz : (s.heap.push { cls := .type "list_iterator", data := .fields #[.ref l, .int 0 0] }).objs.size = s.heap.objs.size + 1 := Heap.size_push ..
  have hlI : l ≠ s.heap.objs.size := Nat.ne_of_lt hll
  have kept : ∀ {h' : Heap}, (∀ b o, b ∉ [s.heap.objs.size] → b ≠ (s.heap.push { cls := .type "list_iterator", data := .fields #[.ref l, .int 0 0] }).objs.size →
      ((s.heap.push { cls := .type "list_iterator", data := .fields #[.ref l, .int 0 0] }).push (seqObj "list" #[] 0)).get? b = some o → h'.get? b = some o) → ∀ b o, s.heap.get? b = some o → h'.get? b = some o := by
    intro h' k b o e
    have hb := Heap.lt_size e
    refine k b o (by rw [List.mem_singleton]; exact Nat.ne_of_lt hb) (by rw [hz]; exact Nat.ne_of_lt (Nat.lt_succ_of_lt hb)) (Heap.get?_push_of_some _ (Heap.get?_push_of_some _ e))
  refine wpAny_pure ⟨plainId_quiet F.plain_min_loop _, minE_first (Walks.list (A := A.in1) (by simp [hh]) s.heap.objs.size l hlI items) (fun i j => decide (val i < val j)) (CmpOf.ints_lt val hv) (fun z => ?_) ⟨⟨_, Heap.get?_push_of_some _ (Heap.get?_push_size _ rfl), rfl, rfl⟩, (hl.push _).push _⟩ (Heap.get?_push_size _ rfl) (fun hn h' tk k => ?_) (fun hn u h' tk hu k => ?_)⟩
  · rcases List.mem_cons.mp z with z | z
    · rw [hz] at z
      exact absurd z (Nat.ne_of_gt (Nat.lt_succ_self _))
    · rw [hz] at z
      exact absurd (List.mem_singleton.mp z) (Nat.ne_of_gt (Nat.lt_succ_of_lt hll))
  · exact h0 hn h' tk (kept k)
  · obtain ⟨t, rfl⟩ := hv _ _ hu
    exact h1 hn t h' tk (kept k)
end
section
variable {X : Cx}
/-- min(xs, default=a number) -/
def rMinE (K : PySem.W.Frag) : List V → List V → Hp → VK → Prop := fun vs zs H Q => ∃ (a : Addr) (ns : List Int), vs = [.ref a] ∧ (∃ z0, zs = [.int z0] ∧ (ns = [] → Q (.int z0) H)) ∧ SqL K H a (ns.map V.int) ∧ ∀ m, m ∈ ns → (∀ k ∈ ns, m ≤ k) → Q (.int m) H
theorem cr_minE (hc : X.calm = true) : CallRK X (.builtin "min") [PySem.Str.ofString "default"] (rMinE X.K) := by
  intro pins s σ H vs zs us ws Q I r rz h
  obtain ⟨a, ns, rfl, ⟨z0, rfl, q0⟩, hs, q1⟩ := h
  rw [Vals.ref1 r]
  obtain ⟨w1, rfl, e1⟩ := vals1 rz
  obtain ⟨t1, rfl⟩ := e1
  obtain ⟨its, rv, hl, _⟩ := I.list hs
  have hlen : its.toArray.size = ns.length := by rw [List.size_toArray, ← rv.length, List.length_map]
  refine minE_list (fun i => ns.getD i 0) (fun i v hv => ?_) (I.ok.hd hc) hl.isList (fun hn h' tk k => ?_) fun hn t h' tk k => ?_
  · have hi : i < ns.length := by rw [← hlen]; exact (Array.getElem?_eq_some_iff.mp hv).1
    obtain ⟨u, hu, ru⟩ := rv.get (i := i) (x := .int (ns.getD i 0)) (by rw [List.getElem?_map, List.getElem?_eq_getElem hi, List.getD_eq_getElem?_getD, List.getElem?_eq_getElem hi]; rfl)
    have hv' : its[i]? = some v := by simpa using hv
    rw [hu] at hv'
    cases hv'
    exact ru
  · exact ⟨.int z0, H, I.kept (t' := tk) k, ⟨_, rfl⟩, q0 (List.eq_nil_of_length_eq_zero (by omega))⟩
  · obtain ⟨b1, b2⟩ := argBest_lt (fun i => ns.getD i 0) (its.toArray.size - 1)
    refine ⟨.int _, H, I.kept (t' := tk) k, ⟨t, rfl⟩, q1 _ ?_ fun z hz => ?_⟩
    · have hi : argBest (fun i j => decide (ns.getD i 0 < ns.getD j 0)) (its.toArray.size - 1) < ns.length := by omega
      rw [List.getD_eq_getElem?_getD, List.getElem?_eq_getElem hi]
      exact List.getElem_mem hi
    · obtain ⟨j, hj, rfl⟩ := List.getElem_of_mem hz
      have := b2 j (by omega)
      rw [List.getD_eq_getElem?_getD (i := j), List.getElem?_eq_getElem hj] at this
      exact this
end
section
variable {K : PySem.W.Frag} {σ : L2.St} {H : Hp} {te til tl : TE} {ta : TA}
theorem given2_lenB (m : Nat → Nat) (v : Nat → Nat → V) (i B : Nat) (h : ∀ a, m a ≤ B) : (given2 m v i).length ≤ i * B := by
  induction i with
  | zero => simp [given2]
  | succ i ih =>
    rw [given2_succ, List.length_append, List.length_map, List.length_range, Nat.succ_mul]
    have := h i
    omega
/-- for x in xs for s in a text, no test -/
theorem el_lc2LS {a : Addr} {xs : List V} {z : Str} {j l : Nat} {vs vs1 : List Nat} (v : Nat → Nat → V) (h : Ev tl σ H (.ref a)) (hx : SqL K H a xs) (hz : xs.length ≤ 5000) (hy : z.length ≤ 10)
    (hw : ∀ x, wipe ((wipe σ vs).set j (some x)) vs = wipe σ vs)
    (hw1 : ∀ x s, wipe ((wipe ((wipe σ vs).set j (some x)) vs1).set l (some s)) vs1 = wipe ((wipe σ vs).set j (some x)) vs1)
    (hi : ∀ (i : Nat) y H1, Ex H H1 → xs[i]? = some y → Ev til ((wipe σ vs).set j (some y)) H1 (.str z))
    (he : ∀ (i m : Nat) y H1, Ex H H1 → xs[i]? = some y → m < z.length → Ev te ((wipe ((wipe σ vs).set j (some y)) vs1).set l (some (sg z m))) H1 (v i m)) :
    EvL (tLc2 (iList K tl) (gName j) tYes (iStr til) (gName l) tYes te vs vs1) σ H (given2 (fun _ => z.length) v xs.length) := fun H0 e Q q => h H0 e _ fun H1 e1 => ⟨a, rfl, ⟨xs, ex_l (e.trans e1) hx⟩, fun Dl hD => by
  have hm := fun i => given2_lenB (fun _ => z.length) v i 10 (fun _ => hy)
  refine lc2_out (walk_list (xs := xs)) (fun i H' => Ex H1 H' ∧ H' Dl = some (.lst (given2 (fun _ => z.length) v i))) ⟨Ex.new hD, upd_same⟩ (fun _ _ _ p => ex_l p.1 (ex_l (e.trans e1) hx)) (fun i y H2 H' hlt p y' => ?_) (fun H' p => q Dl H' (fresh_back e1 hD) (e1.trans p.1) p.2)
  obtain ⟨rfl, hy'⟩ := y'
  obtain ⟨p1, p2⟩ := p
  refine ⟨hw _, ?_⟩
  refine yes_if ?_
  refine hi i y H1 (e.trans e1) hy' _ p1 _ fun H3 e3 => ⟨z, rfl, ?_⟩
  refine lc2_in (walk_str (z := z)) (fun m H' => Ex H1 H' ∧ H' Dl = some (.lst (given2 (fun _ => z.length) v i ++ (List.range m).map (v i)))) ⟨p1.trans e3, by rw [List.range_zero, List.map_nil, List.append_nil]; exact e3 _ _ p2⟩ (fun _ _ _ p => trivial) (fun m s H4 H5 hmlt p y2 => ?_) (fun H' p => ?_)
  · obtain ⟨rfl, c, hc, rfl⟩ := y2
    obtain ⟨g1, g2⟩ := p
    have hml : m < z.length := hmlt
    refine ⟨hw1 _ _, ?_⟩
    refine yes_if ?_
    rw [sg_of hc]
    refine he i m y H1 (e.trans e1) hy' hml _ g1 _ fun H6 e6 => ⟨_, e6 _ _ g2, ?_, Ex.mut (g1.trans e6) hD, ?_⟩
    · have b1 := hm i
      rw [List.length_append, List.length_map, List.length_range, sizeLine_eq]
      omega
    · rw [upd_same, List.range_succ, List.map_append, List.append_assoc]
      rfl
  · refine ⟨p.1, ?_⟩
    rw [given2_succ]
    exact p.2⟩
/-- for i in range(lo, n) for x in a new list, no test -/
theorem el_lc2RL {lo n : Int} {ys : Nat → List V} {j l : Nat} {vs vs1 : List Nat} (v : Nat → Nat → V) (h : EvA ta σ H [.int lo, .int n]) (hn : 0 ≤ lo ∧ lo ≤ 1000 ∧ n ≤ lo + 40 ∧ -1000 ≤ n) (hy : ∀ i, (ys i).length ≤ 2000)
    (hw : ∀ x, wipe ((wipe σ vs).set j (some x)) vs = wipe σ vs)
    (hw1 : ∀ x s, wipe ((wipe ((wipe σ vs).set j (some x)) vs1).set l (some s)) vs1 = wipe ((wipe σ vs).set j (some x)) vs1)
    (hi : ∀ (i : Nat) H1, Ex H H1 → lo + (i : Int) < n → EvL til ((wipe σ vs).set j (some (.int (lo + (i : Int))))) H1 (ys i))
    (he : ∀ (i m : Nat) z H1, Ex H H1 → lo + (i : Int) < n → (ys i)[m]? = some z → Ev te ((wipe ((wipe σ vs).set j (some (.int (lo + (i : Int))))) vs1).set l (some z)) H1 (v i m)) :
    EvL (tLc2 (iRng2 ta) (gName j) tYes (iList K til) (gName l) tYes te vs vs1) σ H (given2 (fun i => (ys i).length) v (n - lo).toNat) := fun H0 e Q q => h H0 e _ fun H1 e1 => ⟨lo, n, rfl, by omega, fun Dl hD => by
  have hm := fun i => given2_lenB (fun i => (ys i).length) v i 2000 hy
  refine lc2_out (walk_range (lo := lo) (n := (n - lo).toNat)) (fun i H' => Ex H1 H' ∧ H' Dl = some (.lst (given2 (fun i => (ys i).length) v i))) ⟨Ex.new hD, upd_same⟩ (fun _ _ _ p => trivial) (fun i y H2 H' hlt p y' => ?_) (fun H' p => q Dl H' (fresh_back e1 hD) (e1.trans p.1) p.2)
  obtain ⟨rfl, rfl⟩ := y'
  obtain ⟨p1, p2⟩ := p
  have hlt' : lo + (i : Int) < n := by omega
  refine ⟨hw _, ?_⟩
  refine yes_if ?_
  refine hi i H1 (e.trans e1) hlt' _ p1 _ fun L H3 nL e3 hL => ⟨L, rfl, ⟨_, sq_of hL⟩, ?_⟩
  have dD := e3 _ _ p2
  have nLD : Dl ≠ L := fun z => by
    rw [← z, p2] at nL
    cases nL
  refine lc2_in (walk_list (xs := ys i)) (fun m H' => Ex H1 H' ∧ H' Dl = some (.lst (given2 (fun i => (ys i).length) v i ++ (List.range m).map (v i))) ∧ H' L = some (.lst (ys i))) ⟨p1.trans e3, by rw [List.range_zero, List.map_nil, List.append_nil]; exact dD, hL⟩ (fun _ _ _ p => sq_of p.2.2) (fun m z H4 H5 hmlt p y2 => ?_) (fun H' p => ?_)
  · obtain ⟨rfl, hz2⟩ := y2
    obtain ⟨g1, g2, g3⟩ := p
    refine ⟨hw1 _ _, ?_⟩
    refine yes_if ?_
    refine he i m z H1 (e.trans e1) hlt' hz2 _ g1 _ fun H6 e6 => ⟨_, e6 _ _ g2, ?_, Ex.mut (g1.trans e6) hD, ?_, ?_⟩
    · have b1 := hm i
      have b2 := hy i
      rw [List.length_append, List.length_map, List.length_range, sizeLine_eq]
      have : i ≤ 40 := by omega
      omega
    · rw [upd_same, List.range_succ, List.map_append, List.append_assoc]
      rfl
    · rw [upd_ne nLD.symm]
      exact e6 _ _ g3
  · refine ⟨p.1, ?_⟩
    rw [given2_succ]
    exact p.2.1⟩
end
section
variable {X : Cx} {o e : Expr} {to te : TE}
theorem pe_joinK {apos pos : Pos} (K : PySem.W.Frag) (h : X.K = K) (ho : PE X o to) (he : PE X e te) (hs : starEach [e] X.env = [(false, eval e X.env)] := by rfl) (hbase : attributeBase o "join" X.env (eval o X.env) = eval o X.env := by rfl) (hline : (apos.endLine == pos.line) = true := by rfl) :
    PE X (.Call (.Attribute o "join" apos) [e] [] pos) (tM1 (fun x xs H Q => ∃ a p, ∃ ys : List Str, x = .str a ∧ xs = [.ref p] ∧ (SqL K H p (ys.map V.str) ∨ SqT K H p (ys.map V.str)) ∧
      (ys.map (·.length)).sum + ys.length * a.length ≤ 16777216 ∧ Q (.str (Txt.join a ys)) H) to te) := by
  subst h
  exact pe_join ho he hs hbase hline
end
end Qt
/-! Lists of texts as data; min with a default as a value; lists put together. -/
namespace Qt
open PySem PySem.Spec PyProof.Rows L2 Evl
theorem dp_texts {K : PySem.W.Frag} {H : Hp} : ∀ l : List Str, DpAll K H (l.map V.str) (l.map PyData.str)
  | [] => .nil
  | i :: r => .cons (.str i) (dp_texts r)
def lowS (z : Str) : Prop := ∀ c ∈ z.cps.toList, c < 256
theorem strOk_low {z : Str} (h : lowS z) : PyData.strOk z = true := by
  unfold PyData.strOk
  rw [Array.all_eq_true_iff_forall_mem]
  intro c hc
  have := h c (Array.mem_toList_iff.mpr hc)
  simp only [decide_eq_true_eq]
  omega
theorem shaped_texts {l : List Str} (h : ∀ z ∈ l, lowS z) : SeqAt.shaped (.list (l.map PyData.str)) = true := shaped_list fun d hd => by
  obtain ⟨z, hz, rfl⟩ := List.mem_map.mp hd
  exact ⟨strOk_low (h z hz), by show 0 ≤ 10; omega⟩
theorem mem_getDL {α : Type} {l : List α} {i : Nat} {d : α} (h : i < l.length) : l.getD i d ∈ l := by
  rw [List.getD_eq_getElem?_getD, List.getElem?_eq_getElem h]
  exact List.getElem_mem h
theorem range_map_getD {α β : Type} (l : List α) (d : α) (g : α → β) : (List.range l.length).map (fun i => g (l.getD i d)) = l.map g := by
  apply List.ext_getElem
  · simp
  · intro i h1 h2
    simp only [List.length_map] at h2
    simp [List.getD_eq_getElem?_getD, List.getElem?_eq_getElem h2]
theorem range_flat_getD {α β : Type} (l : List α) (d : α) (g : α → List β) : (List.range l.length).flatMap (fun i => g (l.getD i d)) = l.flatMap g := by
  rw [List.flatMap_def, List.flatMap_def, range_map_getD l d g]
/-- what a comprehension over a list with a test gives -/
theorem given_filter {α : Type} (l : List α) (d : α) (p : α → Bool) (g : α → V) : given l.length (fun i => p (l.getD i d)) (fun i => g (l.getD i d)) = (l.filter p).map g := by
  have e : l = (List.range l.length).map (fun i => l.getD i d) := by
    have z := range_map_getD l d id
    rw [List.map_id] at z
    exact z.symm
  have f : l.filter p = ((List.range l.length).filter (fun i => p (l.getD i d))).map (fun i => l.getD i d) := by
    conv => lhs; rw [e]
    rw [List.filter_map]
    rfl
  rw [f, List.map_map]
  rfl
section
variable {K : PySem.W.Frag} {σ : L2.St} {H : Hp} {te ta tb : TE}
theorem ev_minE {ns : List Int} {d : Int} (h : EvL te σ H (ns.map V.int)) : Ev (tCKw (rMinE K) (tCons te tNil) (tCons (tC (.int d)) tNil)) σ H (.int (ns.min?.getD d)) := fun H1 e Q q =>
  h H1 e _ fun p H2 np e2 h2 => ⟨p, ns, rfl, ⟨d, rfl, fun h0 => by
    have z := q H2 e2
    rw [h0] at z
    exact z⟩, sq_of h2, fun m hm hle => by
    have z := q H2 e2
    rw [List.min?_eq_some_iff.mpr ⟨hm, hle⟩] at z
    exact z⟩
theorem ev_minL {ns : List Int} {d : Int} (h : EvL te σ H (ns.map V.int)) (hn : ns ≠ []) : Ev (tCB (rMin K) (tCons te tNil)) σ H (.int (ns.min?.getD d)) := fun H1 e Q q =>
  h H1 e _ fun p H2 np e2 h2 => ⟨p, ns, rfl, sq_of h2, List.length_pos_iff.mpr hn, fun m hm hle => by
    have z := q H2 e2
    rw [List.min?_eq_some_iff.mpr ⟨hm, hle⟩] at z
    exact z⟩
theorem rc_min2 {i j : Int} : RC (fun xs H Q => ∃ i j, xs = [V.int i, V.int j] ∧ Q (.int (if j < i then j else i)) H) [.int i, .int j] H (.int (if j < i then j else i)) := fun H1 _ _ q => ⟨i, j, rfl, q H1 (Ex.refl H1)⟩
theorem el_catV {a : Addr} {xs ys : List V} (ha : Ev ta σ H (.ref a)) (hx : H a = some (.lst xs)) (hb : EvL tb σ H ys) (hz : xs.length + ys.length ≤ 100000) : EvL (tOp rCat ta tb) σ H (xs ++ ys) := fun H1 e Q q =>
  ha H1 e _ fun H2 e2 => hb H2 (e.trans e2) _ fun b H3 nb e3 h3 => ⟨a, b, xs, ys, rfl, rfl, e3 _ _ (e2 _ _ (e _ _ hx)), h3, sz_of hz, fun l hl => q l _ (fresh_back (e2.trans e3) hl) ((e2.trans e3).trans (Ex.new hl)) upd_same⟩
/-- != of a list of texts and an empty list -/
theorem rv_neNil {a b : Addr} {l : List Str} (ha : SqL K H a (l.map V.str)) (hb : SqL K H b []) (hl : ∀ z ∈ l, lowS z) : RV (rNeD K) (.ref a) (.ref b) H (.bl (!l.isEmpty)) := fun H1 e Q q =>
  ⟨.list (l.map PyData.str), .list [], .lst (ex_l e ha) (dp_texts _), .lst (ex_l e hb) .nil, shaped_texts hl, by decide +kernel, by
    have z : PyData.eqv (.list (l.map PyData.str)) (.list []) = l.isEmpty := by
      cases l with
      | nil => exact SeqAt.eqv_refl _ rfl
      | cons x r => rfl
    rw [z]
    exact q H1 (Ex.refl H1)⟩
end
end Qt
/-! zip of a text and a list; list of a text; enumerate of a list or a tuple. -/
namespace Qt
open PySem PySem.Spec PyProof.Rows L2 Evl
/-- the signs of a text beside the items of a list, in new pairs -/
def Itzm (K : PySem.W.Frag) (x : Str) (b : Addr) : It := ⟨fun i H => ∃ ys, SqL K H b ys ∧ i < min x.cps.size ys.length,
  fun i H v H' => ∃ (T : Addr) (c : Nat) (y : V), v = .ref T ∧ H T = none ∧ H' = upd H T (.tup [.str ⟨#[c]⟩, y]) ∧ x.cps[i]? = some c ∧ ∀ ys, SqL K H b ys → ys[i]? = some y, fun i H => ∃ ys, SqL K H b ys ∧ i = min x.cps.size ys.length⟩
def AtZipM (x : Str) (t : Tok) (b z TI TO i1 i2 : Addr) (i : Nat) (h : Heap) : Prop := IsZip h z TI TO .none ∧ IsTupOf2 h TI (.ref i1) (.ref i2) ∧ (∃ a1 a2, IsTupOf2 h TO a1 a2) ∧ h.IsStrIter i1 (strIterType x) x t i ∧ h.IsListIter i2 b i
theorem turn_zipM {P : Program} {w : World} {K : PySem.W.Frag} {elts : List Expr} {kk : Nat} {tpos : Pos} {x : Str} {t : Tok} {b z TI TO i1 i2 : Addr} (D : ZipSep2 z TI TO i1 i2 [i1] [i2, b]) (hb2 : b ≠ i2) :
    Turn P w K (.Tuple elts kk tpos) (Itzm K x b) [z, TI, TO, i1, i2] z (fun i h => AtZipM x t b z TI TO i1 i2 i h) where
  mem := by simp
  obj := fun i h st c hc => by
    obtain ⟨hz, hTI, ⟨a, b, hTO⟩, ⟨o1, e1, _, d1⟩, ⟨o2, e2, _, d2⟩⟩ := st
    have e' : c = z ∨ c = TI ∨ c = TO ∨ c = i1 ∨ c = i2 := by simpa using hc
    rcases e' with q | q | q | q | q
    · rw [q]; exact ⟨_, hz, fun v q => nomatch q⟩
    · rw [q]; exact ⟨_, hTI, fun v q => nomatch q⟩
    · rw [q]; exact ⟨_, hTO, fun v q => nomatch q⟩
    · rw [q]; exact ⟨o1, e1, fun v q => by rw [d1] at q; cases q⟩
    · rw [q]; exact ⟨o2, e2, fun v q => by rw [d2] at q; cases q⟩
  keep := fun i h h' st k => by
    obtain ⟨hz, hTI, ⟨a, b, hTO⟩, ⟨o1, e1, r1⟩, h2⟩ := st
    exact ⟨k z (by simp) _ hz, k TI (by simp) _ hTI, ⟨a, b, k TO (by simp) _ hTO⟩, ⟨o1, k i1 (by simp) _ e1, r1⟩, h2.at fun o q => k i2 (by simp) o q⟩
  item := by
    intro X hP hw hK hc i pins s σ H E I hf st hg
    subst hP hw hK
    obtain ⟨ys, hq, hlt⟩ := hg
    obtain ⟨its, rv, p, _⟩ := I.list hq
    have hlen := rv.length
    have W := WalksT.zipD2 D (Draws.text (prog := X.prog) (w := X.w) (A := X.A.in1) (I.ok.hd hc) i1 x t) (Draws.list (prog := X.prog) (w := X.w) (A := X.A.in1) (I.ok.hd hc) i2 b hb2 its.toArray)
    have live : ∀ c ∈ [z, TI, TO, i1, i2], c < s.heap.objs.size := fun c hb => by
      obtain ⟨hz, hTI, ⟨a, b', hTO⟩, ⟨o1, e1, _, d1⟩, ⟨o2, e2, _, d2⟩⟩ := st
      have e' : c = z ∨ c = TI ∨ c = TO ∨ c = i1 ∨ c = i2 := by simpa using hb
      rcases e' with q | q | q | q | q
      · rw [q]; exact Heap.lt_size hz
      · rw [q]; exact Heap.lt_size hTI
      · rw [q]; exact Heap.lt_size hTO
      · rw [q]; exact Heap.lt_size e1
      · rw [q]; exact Heap.lt_size e2
    obtain ⟨s1, s2, s3, s4, s5⟩ := st
    refine W.item i s _ _ (by simp only [List.size_toArray]; omega) ⟨s1, s2, s3, s4, s5, p.isList⟩ fun T vals h' tk hp hT ht hm hk => ?_
    obtain ⟨v1, v2, ⟨c, t1, hcx, rfl⟩, hdy, rfl⟩ := hp
    have hiy : i < ys.length := by omega
    obtain ⟨u, hu, ru⟩ := rv.get (i := i) (x := ys[i]) (by rw [List.getElem?_eq_getElem hiy])
    obtain rfl : u = v2 := by
      have z : its[i]? = some v2 := by simpa using hdy
      rw [hu] at z
      exact Option.some.inj z
    refine ⟨.ref T, rfl, W.go elts kk tpos i T { s with heap := h', toks := tk } _ _ hm fun h'' hst hk2 => ?_⟩
    obtain ⟨oT, hT1, hT2, nT, hT3⟩ := ht
    have nT' : T ∉ [z, TO, i1, i2] := W.apart i T _ hm
    have hT4 : h''.get? T = some oT := hk2 T oT nT' hT1
    have new : ObjOk X.prog X.w (upd H T (.tup [.str ⟨#[c]⟩, ys[i]])) h'' T (.tup [.str ⟨#[c]⟩, ys[i]]) :=
      ⟨by show 2 ≤ sizeLine; decide, [.str ⟨#[c]⟩ t1, u], .cons ⟨_, rfl⟩ (.cons ru .nil), ⟨_, hT4, hT2, _, hT3⟩⟩
    have sub : ∀ b, b ∉ [z, TI, TO, i1, i2] → b ∉ [z, TO, i1, i2] := fun b hb h => hb (by
      have e' : b = z ∨ b = TO ∨ b = i1 ∨ b = i2 := by simpa using h
      rcases e' with q | q | q | q <;> simp [q])
    have I1 : Inv X pins σ (upd H T (.tup [.str ⟨#[c]⟩, ys[i]])) { s with heap := h'', toks := tk } :=
      I.turnedNew (ch := [z, TI, TO, i1, i2]) (fun b ob hb q => hk2 b ob (sub b hb) (hk b ob (sub b hb) q)) hf hT new
    obtain ⟨r1, r2, r3, r4, r5, _⟩ := hst
    refine ⟨.ref T, _, I1, rfl, ⟨T, c, ys[i], rfl, I.hok.fresh hT, rfl, hcx, fun l hl => by rw [I.list_inj hl hq, List.getElem?_eq_getElem hiy]⟩, ⟨r1, r2, r3, r4, r5⟩, fun b hb => ?_⟩
    rw [upd_ne (Nat.ne_of_lt (Nat.lt_of_lt_of_le (live b hb) hT))]
    exact (hf b hb).1
  done := by
    intro X hP hw hK hc i pins s σ H E I hf st hg
    subst hP hw hK
    obtain ⟨ys, hq, hi⟩ := hg
    obtain ⟨its, rv, p, _⟩ := I.list hq
    have hlen := rv.length
    have W := WalksT.zipD2 D (Draws.text (prog := X.prog) (w := X.w) (A := X.A.in1) (I.ok.hd hc) i1 x t) (Draws.list (prog := X.prog) (w := X.w) (A := X.A.in1) (I.ok.hd hc) i2 b hb2 its.toArray)
    obtain ⟨s1, s2, s3, s4, s5⟩ := st
    have e : min x.cps.size its.toArray.size = i := by simp only [List.size_toArray]; omega
    have sub : ∀ b, b ∉ [z, TI, TO, i1, i2] → b ∉ [z, TO, i1, i2] := fun b hb h => hb (by
      have e' : b = z ∨ b = TO ∨ b = i1 ∨ b = i2 := by simpa using h
      rcases e' with q | q | q | q <;> simp [q])
    rw [← e] at s4 s5
    exact W.done s _ _ ⟨s1, s2, s3, s4, s5, p.isList⟩ fun h' tk hk => ⟨rfl, I.turnedL (t' := tk) (ch := [z, TI, TO, i1, i2]) (fun c o hb q => hk c o (sub c hb) q) hf⟩
  self := fun A i s Q E st h => wpAny_pyIter_zip st.1 h
def iZipM (K : PySem.W.Frag) (ta : TA) : TI := fun σ H R => ta σ H fun vs H1 => ∃ x b ys, vs = [.str x, .ref b] ∧ SqL K H1 b ys ∧ R (Itzm K x b) H1
theorem pi_zipM {X : Cx} {e e2 : Expr} {ta : TA} {p pos tpos : Pos} {elts : List Expr} {kk : Nat} (hg : Gl X "zip") (hm : X.mg "zip" = none) (ha : PA X [e, e2] ta)
    (hs : starEach [e, e2] X.env = (false, eval e X.env) :: starEach [e2] X.env := by rfl) (hpl : (backTo pos (starEach [e2] X.env)).any (·.1) = false := by rfl) :
    PI X (.Tuple elts kk tpos) (.Call (.Name "zip" p) [e, e2] [] pos) (iZipM X.K ta) := by
  refine ⟨fun pins s σ H R I h => ?_⟩
  refine Call_ (ld_blt I hg hm PyProof.Rows.boot_zip (PyProof.Rows.callWith_type1 (thn (ha.run pos pins s σ H _ I h) fun us s1 hh => ?_) hs hpl))
  obtain ⟨vs, H1, I1, r1, x, b, ys, ex, hq, q⟩ := hh
  subst ex
  cases r1 with
  | cons r rr =>
    cases rr with
    | cons r' rr =>
      cases rr
      cases r'
      obtain ⟨t, rfl⟩ := r
      obtain ⟨its, rv, pl, _⟩ := I1.list hq
      have hbl : b < s1.heap.objs.size := by
        obtain ⟨o, ho, _⟩ := pl.isList
        exact Heap.lt_size ho
      refine zip_begins2 (begins_text x t) (begins_list b its.toArray) trivial pl.isList fun h' hz hTI hTO g1 g2 hsz hk => wpAny_pyIter_zip hz ?_
      have I2 : Inv X pins σ H1 { s1 with heap := h' } := I1.kept (t' := s1.toks) hk
      have D : ZipSep2 (s1.heap.objs.size + 4) (s1.heap.objs.size + 2) (s1.heap.objs.size + 3) s1.heap.objs.size (s1.heap.objs.size + 1) [s1.heap.objs.size] [s1.heap.objs.size + 1, b] := by
        generalize hn : s1.heap.objs.size = n at hbl ⊢
        have nb : ∀ k : Nat, (n + k : Nat) ≠ b := fun k z => by
          have hb : n + k < n := by rw [z]; exact hbl
          omega
        constructor
        · show (n + 2 : Nat) ≠ n + 4; omega
        · show (n + 3 : Nat) ≠ n + 4; omega
        · show (n + 2 : Nat) ≠ n + 3; omega
        · show (n + 2 : Nat) ≠ n; omega
        · exact List.mem_cons_self
        · intro h; have := List.mem_singleton.mp h; exact absurd this (show (n + 4 : Nat) ≠ n by omega)
        · intro h; have := List.mem_singleton.mp h; exact absurd this (show (n + 3 : Nat) ≠ n by omega)
        · show (n + 2 : Nat) ≠ n + 1; omega
        · exact List.mem_cons_self
        · intro h
          rcases List.mem_cons.mp h with h | h
          · exact absurd h (show (n + 4 : Nat) ≠ n + 1 by omega)
          · exact absurd (List.mem_singleton.mp h) (nb 4)
        · intro h
          rcases List.mem_cons.mp h with h | h
          · exact absurd h (show (n + 3 : Nat) ≠ n + 1 by omega)
          · exact absurd (List.mem_singleton.mp h) (nb 3)
        · intro h
          rcases List.mem_cons.mp h with h | h
          · exact absurd h (show (n : Nat) ≠ n + 1 by omega)
          · exact absurd (List.mem_singleton.mp h) (nb 0)
        · intro h; have := List.mem_singleton.mp h; exact absurd this (show (n + 1 : Nat) ≠ n by omega)
      refine ⟨s1.heap.objs.size + 4, [s1.heap.objs.size + 4, s1.heap.objs.size + 2, s1.heap.objs.size + 3, s1.heap.objs.size, s1.heap.objs.size + 1], _, _, H1, rfl, I2, turn_zipM (x := x) (t := t) D (Nat.ne_of_lt (Nat.lt_succ_of_lt hbl)), ⟨hz, hTI, ⟨_, _, hTO⟩, ⟨_, g1, rfl, rfl⟩, ⟨_, g2, rfl, rfl⟩⟩, fun c hcm => ?_, q⟩
      have e' : c = s1.heap.objs.size + 4 ∨ c = s1.heap.objs.size + 2 ∨ c = s1.heap.objs.size + 3 ∨ c = s1.heap.objs.size ∨ c = s1.heap.objs.size + 1 := by simpa using hcm
      have hle : s1.heap.objs.size ≤ c := by
        rcases e' with z | z | z | z | z
        · rw [z]; exact Nat.le_add_right _ _
        · rw [z]; exact Nat.le_add_right _ _
        · rw [z]; exact Nat.le_add_right _ _
        · rw [z]; exact Nat.le_refl _
        · rw [z]; exact Nat.le_add_right _ _
      exact I1.fpOk hle (I1.hok.fresh hle)
theorem walk_zipM {K : PySem.W.Frag} {x : Str} {b : Addr} {ys : List V} {n : Nat} (hn : n = min x.length ys.length) :
    Walk (Itzm K x b) n (fun H => SqL K H b ys) (fun i H v H' => ∃ (T : Addr) (c : Nat) (y : V), v = .ref T ∧ H T = none ∧ H' = upd H T (.tup [.str ⟨#[c]⟩, y]) ∧ x.cps[i]? = some c ∧ ys[i]? = some y) := by
  subst hn
  refine ⟨fun i _ hi q => ⟨ys, q, hi⟩, fun _ q => ⟨ys, q, rfl⟩, fun i H v H' _ q y => ?_⟩
  obtain ⟨T, c, y, h1, h2, h3, h4, h5⟩ := y
  exact ⟨T, c, y, h1, h2, h3, h4, h5 ys q⟩
/-- list(text) -/
theorem call_list_text {X : Cx} (hc : X.calm = true) : CallR X (.type "list") (fun xs H Q => ∃ z : Str, xs = [.str z] ∧ z.length ≤ 100000 ∧ ∀ l, H l = none → Q (.ref l) (upd H l (.lst (z.cps.toList.map fun c => V.str ⟨#[c]⟩)))) := by
  intro pins s σ H xs us Q I r h
  obtain ⟨z, rfl, hz, q⟩ := h
  obtain ⟨u, rfl, t, rfl⟩ := vals1 r
  refine call_list_str (I.ok.hd hc) z t (hn := sz_of (by unfold Str.length at hz; exact hz)) fun h' tk acc' c' kp e hacc => ?_
  have hv : Vals (z.cps.toList.map fun c => V.str ⟨#[c]⟩) acc'.toList := by
    have g : ∀ (cs : List Nat) (vs : List Value), vs.length = cs.length → (∀ (j : Nat) (v : Value), vs[j]? = some v → ∃ c u, cs[j]? = some c ∧ v = Value.str ⟨#[c]⟩ u) → Vals (cs.map fun c => V.str ⟨#[c]⟩) vs := by
      intro cs
      induction cs with
      | nil =>
        intro vs hl _
        rw [List.length_nil] at hl
        rw [List.eq_nil_of_length_eq_zero hl]
        exact .nil
      | cons c cs ih =>
        intro vs hl hv
        cases vs with
        | nil => cases hl
        | cons v vs =>
          obtain ⟨c', u, h1, h2⟩ := hv 0 v rfl
          have h1' : c = c' := Option.some.inj h1
          subst h1' h2
          exact .cons ⟨u, rfl⟩ (ih vs (by simpa using hl) fun j v hj => hv (j + 1) v hj)
    refine g _ _ (by rw [Array.length_toList, Array.length_toList]; exact hacc.1) fun j v hj => ?_
    obtain ⟨c, u, h1, h2⟩ := hacc.2 j v (by rw [← Array.getElem?_toList]; exact hj)
    exact ⟨c, u, by rw [Array.getElem?_toList]; exact h1, h2⟩
  refine ⟨.ref s.heap.objs.size, _, I.laid (t' := tk) kp (Nat.le_refl _) (show ObjOk X.prog X.w _ h' _ (.lst _) from ⟨?_, acc'.toList, c', hv, by simpa using e⟩), rfl, q _ (I.hok.fresh (Nat.le_refl _))⟩
  rw [List.length_map, Array.length_toList]
  exact sz_of (by unfold Str.length at hz; exact hz)
end Qt
/-! enumerate of a list or a tuple. -/
namespace Qt
open PySem PySem.Spec PyProof.Rows L2 Evl
/-- enumerate of what begins so, from 0 -/
theorem meets_enum0 {v : Value} {o : Obj} {Hh : Heap → Prop} (B : Begins v o Hh) :
    Meets (Builtin.«enumerate.__new__» ⟨[.type "enumerate", v], []⟩) (fun _ R s => Hh s.heap ∧
      R (.ok (.ret (.ref (s.heap.push o).objs.size))) { s with heap := (s.heap.push o).push { cls := .type "enumerate", data := .fields #[.none, .bool false, .ref s.heap.objs.size, rawInt 0, .none, .none] } }) :=
  .of_wp fun prog w A R s h => by
    obtain ⟨hp, g, d, tk, os⟩ := s
    obtain ⟨h1, h⟩ := h
    have hsub := sub_enumerate
    have go : ∀ {A' : Around} {E Q : Value → Shared → Prop}, Q (.ref hp.objs.size) ⟨hp.push o, g, d, tk, os⟩ → wpAny (model prog w) A' (pyIter v) Q E ⟨hp, g, d, tk, os⟩ :=
      fun q => B.iter prog w _ _ ⟨hp, g, d, tk, os⟩ _ h1 q
    wp_walk using go
    refine wpAny_stack_any fun st => wpAny_pure ?_
    split
    · rename_i cc _ _ _ _ _
      cases (cc == Value.type "enumerate") <;>
      · wp_walk using go
        exact ⟨_, rfl, h⟩
    · wp_walk using go
      exact ⟨_, rfl, h⟩
section
variable {prog : Program} {w : World} {A : Around} {E : Value → Shared → Prop} {s : Shared}
theorem call_enum0 {v : Value} {o : Obj} {Hh : Heap → Prop} {Q : Value → Shared → Prop} (B : Begins v o Hh) (h1 : Hh s.heap)
    (h : ∀ h', IsEnum h' (s.heap.objs.size + 1) s.heap.objs.size 0 .none → h'.get? s.heap.objs.size = some o → (∀ b o, s.heap.get? b = some o → h'.get? b = some o) → Q (.ref (s.heap.objs.size + 1)) { s with heap := h' }) :
    wpAny (model prog w) A (call (.type "enumerate") [v]) Q E s := by
  refine callType_new F.called_enumerate (by decide) (F.typeCall_enumerate_1 _) (F.newCall_enumerate_1 _) (fun obj => F.args_object_init_2 obj _) F.entry_enumerate_new (meets_enum0 B) ⟨h1, ?_⟩
  have hz : (s.heap.push o).objs.size = s.heap.objs.size + 1 := Heap.size_push ..
  show _ ∧ _
  rw [hz]
  have he : IsEnum ((s.heap.push o).push { cls := .type "enumerate", data := .fields #[.none, .bool false, .ref s.heap.objs.size, rawInt 0, .none, .none] }) (s.heap.objs.size + 1) s.heap.objs.size 0 .none := by
    have z := Heap.get?_push_size (s.heap.push o) (o := { cls := .type "enumerate", data := .fields #[.none, .bool false, .ref s.heap.objs.size, rawInt 0, .none, .none] }) rfl
    rw [hz] at z
    exact z
  exact ⟨⟨_, he, rfl⟩, h _ he (Heap.get?_push_of_some _ (Heap.get?_push_size _ B.free)) fun b o x => Heap.get?_push_of_some _ (Heap.get?_push_of_some _ x)⟩
end
/-- the items of a tuple with their numbers, in new pairs -/
def Itet (K : PySem.W.Frag) (a : Addr) : It := ⟨fun i H => ∃ (xs : List V) (x : V), SqT K H a xs ∧ xs[i]? = some x,
  fun i H v H' => ∃ (T : Addr) (x : V), v = .ref T ∧ H T = none ∧ H' = upd H T (.tup [.int (i : Nat), x]) ∧ ∀ xs, SqT K H a xs → xs[i]? = some x, fun i H => ∃ xs : List V, SqT K H a xs ∧ xs.length = i⟩
def AtEnumT (a e it : Addr) (i : Nat) (h : Heap) : Prop := (∃ old, IsEnum h e it ((i : Nat) : Int) old) ∧ h.IsTupleIter it a i
theorem isTuple_of {h : Heap} {t : Addr} {items : Array Value} (p : IsTup h t items) : h.IsTuple t items := by
  obtain ⟨o, h1, h2, n, h3⟩ := p
  exact ⟨o, h1, h2, n, h3⟩
theorem turn_enumT {P : Program} {w : World} {K : PySem.W.Frag} {elts : List Expr} {kk : Nat} {tpos : Pos} {a e it : Addr} (hne : e ≠ it) (hai : a ≠ it) (hae : e ≠ a) :
    Turn P w K (.Tuple elts kk tpos) (Itet K a) [e, it] e (fun i h => AtEnumT a e it i h) where
  mem := by simp
  obj := fun i h st b hb => by
    obtain ⟨⟨old, he⟩, o, ho, hc, hd⟩ := st
    have e' : b = e ∨ b = it := by simpa using hb
    rcases e' with z | z
    · rw [z]; exact ⟨_, he, fun v q => nomatch q⟩
    · rw [z]; exact ⟨o, ho, fun v q => by rw [hd] at q; cases q⟩
  keep := fun i h h' st k => by
    obtain ⟨⟨old, he⟩, o, ho, r⟩ := st
    exact ⟨⟨old, k e (by simp) _ he⟩, o, k it (by simp) o ho, r⟩
  item := by
    intro X hP hw hK hc i pins s σ H E I hf st hg
    subst hP hw hK
    obtain ⟨xs, x, hq, hx⟩ := hg
    obtain ⟨its, rv, p, _⟩ := I.tuple hq
    obtain ⟨u, hu, ru⟩ := rv.get hx
    have hlen := rv.length
    have hix : i < xs.length := (List.getElem?_eq_some_iff.mp hx).1
    obtain ⟨⟨old, he⟩, hit⟩ := st
    have hel : e < s.heap.objs.size := Heap.lt_size he
    have hil : it < s.heap.objs.size := by obtain ⟨_, q, _⟩ := hit; exact Heap.lt_size q
    have W := WalksT.enumerateD (Draws.tuple (prog := X.prog) (w := X.w) (A := X.A.in1) (I.ok.hd hc) it a hai its.toArray) e hne (by simp only [List.mem_cons, List.not_mem_nil, or_false, not_or]; exact ⟨hne, hae⟩) (by simp)
    refine W.item i s _ _ (by simp only [List.size_toArray]; omega) ⟨⟨old, he⟩, hit, isTuple_of p⟩ fun T vals h' tk hp hT ht hm hk => ?_
    obtain ⟨tt, v, hv, rfl⟩ := hp
    obtain rfl : u = v := by
      have z : its[i]? = some v := by simpa using hv
      rw [hu] at z
      exact Option.some.inj z
    refine ⟨.ref T, rfl, W.go elts kk tpos i T { s with heap := h', toks := tk } _ _ hm fun h'' hst hk2 => ?_⟩
    obtain ⟨oT, hT1, hT2, nT, hT3⟩ := ht
    have nT' : T ∉ [e, it] := W.apart i T _ hm
    have hT4 : h''.get? T = some oT := hk2 T oT nT' hT1
    have new : ObjOk X.prog X.w (upd H T (.tup [.int (i : Nat), x])) h'' T (.tup [.int (i : Nat), x]) :=
      ⟨by show 2 ≤ sizeLine; decide, [.int i tt, u], .cons ⟨_, rfl⟩ (.cons ru .nil), ⟨_, hT4, hT2, _, hT3⟩⟩
    have I1 : Inv X pins σ (upd H T (.tup [.int (i : Nat), x])) { s with heap := h'', toks := tk } :=
      I.turnedNew (ch := [e, it]) (fun b ob hb q => hk2 b ob hb (hk b ob hb q)) hf hT new
    obtain ⟨w1, w2, _⟩ := hst
    refine ⟨.ref T, _, I1, rfl, ⟨T, x, rfl, I.hok.fresh hT, rfl, fun l hl => by rw [I.tuple_inj hl hq]; exact hx⟩, ⟨w1, w2⟩, fun b hb => ?_⟩
    have hb' : b < s.heap.objs.size := by
      have e' : b = e ∨ b = it := by simpa using hb
      rcases e' with z | z
      · rw [z]; exact hel
      · rw [z]; exact hil
    rw [upd_ne (Nat.ne_of_lt (Nat.lt_of_lt_of_le hb' hT))]
    exact (hf b hb).1
  done := by
    intro X hP hw hK hc i pins s σ H E I hf st hg
    subst hP hw hK
    obtain ⟨xs, hq, hi⟩ := hg
    obtain ⟨its, rv, p, _⟩ := I.tuple hq
    have hlen := rv.length
    obtain ⟨⟨old, he⟩, hit⟩ := st
    obtain ⟨f0, f1, f2, f3, f4, f5⟩ := hf it (by simp)
    have D := Draws.tuple (prog := X.prog) (w := X.w) (A := X.A.in1) (I.ok.hd hc) it a hai its.toArray
    have hsz : its.toArray.size = i := by simp only [List.size_toArray]; omega
    rw [← hsz] at hit
    exact wpAny_pyNext_enum_endD D he ⟨hit, isTuple_of p⟩ fun h' eb => ⟨rfl, I.turned (t' := s.toks) (fun b o hb q => eb b o hb q) f0 f1 f3 f4 f5⟩
  self := fun A i s Q E st h => let ⟨⟨_, he⟩, _⟩ := st; wpAny_pyIter_enum he h
def iEnumA (K : PySem.W.Frag) (ta : TA) : TI := fun σ H R => ta σ H fun vs H1 => ∃ a xs, vs = [.ref a] ∧ ((SqL K H1 a xs ∧ R (Ite K a) H1) ∨ (SqT K H1 a xs ∧ R (Itet K a) H1))
theorem pi_enumA {X : Cx} {e : Expr} {ta : TA} {p pos tpos : Pos} {elts : List Expr} {kk : Nat} (hg : Gl X "enumerate") (hm : X.mg "enumerate" = none) (ha : PA X [e] ta) (hs : starEach [e] X.env = [(false, eval e X.env)] := by rfl) :
    PI X (.Tuple elts kk tpos) (.Call (.Name "enumerate" p) [e] [] pos) (iEnumA X.K ta) := by
  refine ⟨fun pins s σ H R I h => ?_⟩
  refine Call_ (ld_blt I hg hm boot_enumerate (PyProof.Rows.callWith_type1 (thn (ha.run pos pins s σ H _ I h) fun us s1 hh => ?_) hs rfl))
  obtain ⟨vs, H1, I1, r1, a, xs, ex, hq⟩ := hh
  subst ex
  cases r1 with
  | cons r rr =>
    cases rr
    cases r
    rcases hq with ⟨hq, q⟩ | ⟨hq, q⟩
    · obtain ⟨its, rv, p', hz⟩ := I1.list hq
      refine call_enumerate_list p'.isList fun h' he hit hsz hk => wpAny_pyIter_enum he ?_
      have I2 : Inv X pins σ H1 { s1 with heap := h' } := I1.kept (t' := s1.toks) hk
      refine ⟨s1.heap.objs.size + 1, [s1.heap.objs.size + 1, s1.heap.objs.size], _, _, H1, rfl, I2, turn_enum a (s1.heap.objs.size + 1) s1.heap.objs.size, ⟨⟨.none, he⟩, hit, Nat.succ_ne_self _⟩, fun b hb => ?_, q⟩
      have e' : b = s1.heap.objs.size + 1 ∨ b = s1.heap.objs.size := by simpa using hb
      have hle : s1.heap.objs.size ≤ b := by
        rcases e' with z | z
        · rw [z]; exact Nat.le_add_right _ _
        · rw [z]; exact Nat.le_refl _
      exact I1.fpOk hle (I1.hok.fresh hle)
    · obtain ⟨its, rv, p', hz⟩ := I1.tuple hq
      have hal : a < s1.heap.objs.size := by
        obtain ⟨o, ho, _⟩ := id p'
        exact Heap.lt_size ho
      refine call_enum0 (begins_tuple a its.toArray) (isTuple_of p') fun h' he g1 hk => wpAny_pyIter_enum he ?_
      have I2 : Inv X pins σ H1 { s1 with heap := h' } := I1.kept (t' := s1.toks) hk
      refine ⟨s1.heap.objs.size + 1, [s1.heap.objs.size + 1, s1.heap.objs.size], _, _, H1, rfl, I2, turn_enumT (a := a) (Nat.succ_ne_self _) (Nat.ne_of_lt hal) (Nat.ne_of_gt (Nat.lt_succ_of_lt hal)), ⟨⟨.none, he⟩, ⟨_, g1, rfl, rfl⟩⟩, fun b hb => ?_, q⟩
      have e' : b = s1.heap.objs.size + 1 ∨ b = s1.heap.objs.size := by simpa using hb
      have hle : s1.heap.objs.size ≤ b := by
        rcases e' with z | z
        · rw [z]; exact Nat.le_add_right _ _
        · rw [z]; exact Nat.le_refl _
      exact I1.fpOk hle (I1.hok.fresh hle)
theorem walk_enumT {K : PySem.W.Frag} {a : Addr} {xs : List V} : Walk (Itet K a) xs.length (fun H => SqT K H a xs) (YPair (fun i => some (.int (i : Nat))) (fun i => xs[i]?)) := by
  refine ⟨fun i _ hi q => ⟨xs, xs[i], q, by simp [hi]⟩, fun _ q => ⟨xs, q, rfl⟩, fun i H v H' _ q y => ?_⟩
  obtain ⟨T, x, h1, h2, h3, h4⟩ := y
  exact ⟨T, .int (i : Nat), x, h1, h2, h3, rfl, h4 xs q⟩
/-- a list or a tuple of these -/
def SqA (K : PySem.W.Frag) (H : Hp) (a : Addr) (xs : List V) : Prop := H a = some (.lst xs) ∨ H a = some (.tup xs)
theorem SqA.ex {K : PySem.W.Frag} {H H1 : Hp} {a : Addr} {xs : List V} (h : SqA K H a xs) (e : Ex H H1) : SqA K H1 a xs := h.imp (e _ _) (e _ _)
/-- a for over enumerate of either -/
theorem q_forEA {K : PySem.W.Frag} {σ : L2.St} {H : Hp} {ta : TA} {tu tz : TS} {D : Ends} {a : Addr} {xs : List V} {j k : Nat} (h : EvA ta σ H [.ref a]) (hx : SqA K H a xs) (Pv : Nat → L2.St → Hp → Prop) (h0 : ∀ H1, Ex H H1 → Pv 0 σ H1) (hl : ∀ i σ' H', i ≤ xs.length → Pv i σ' H' → Ex H H')
    (hs : ∀ i x σ' H' T, xs[i]? = some x → Pv i σ' H' → H' T = none → tu { D with nx := Pv (i + 1), ct := Pv (i + 1), bk := tz D } ((σ'.set j (some (.int (i : Int)))).set k (some x)) (upd H' T (.tup [.int (i : Int), x]))) (hd : ∀ σ' H', Pv xs.length σ' H' → tz D σ' H') :
    tSeq (tFor (iEnumA K ta) (gTup K 2 (gCons (gName j) (gCons (gName k) gNil))) tu) tz D σ H := h H (Ex.refl H) _ fun H1 e1 => by
  rcases hx with hx | hx
  · refine ⟨a, xs, rfl, .inl ⟨sq_of (e1 _ _ hx), ?_⟩⟩
    refine for_it (D := { D with nx := tz D }) (walk_enum (xs := xs)) Pv (h0 H1 e1) (fun i σ' H' hi p => sq_of (hl i σ' H' hi p _ _ hx)) (fun i x σ' H2 H' hi p y => ?_) hd
    obtain ⟨T, nn, y, rfl, nT, rfl, hn, hy⟩ := y
    obtain rfl : V.int (i : Nat) = nn := Option.some.inj hn
    exact ⟨T, _, rfl, st_of upd_same, rfl, _, _, rfl, _, _, rfl, rfl, hs i y σ' H2 T hy p nT⟩
  · refine ⟨a, xs, rfl, .inr ⟨st_of (e1 _ _ hx), ?_⟩⟩
    refine for_it (D := { D with nx := tz D }) (walk_enumT (xs := xs)) Pv (h0 H1 e1) (fun i σ' H' hi p => st_of (hl i σ' H' hi p _ _ hx)) (fun i x σ' H2 H' hi p y => ?_) hd
    obtain ⟨T, nn, y, rfl, nT, rfl, hn, hy⟩ := y
    obtain rfl : V.int (i : Nat) = nn := Option.some.inj hn
    exact ⟨T, _, rfl, st_of upd_same, rfl, _, _, rfl, _, _, rfl, rfl, hs i y σ' H2 T hy p nT⟩
/-- a for over zip of a text and a list -/
theorem q_forZM {K : PySem.W.Frag} {σ : L2.St} {H : Hp} {ta : TA} {tu tz : TS} {D : Ends} {x : Str} {b : Addr} {ys : List V} {j k : Nat} (h : EvA ta σ H [.str x, .ref b]) (hx : ∀ H1, Ex H H1 → SqL K H1 b ys) (hn : ys.length = x.length) (Pv : Nat → L2.St → Hp → Prop) (h0 : ∀ H1, Ex H H1 → Pv 0 σ H1)
    (hl : ∀ i σ' H', i ≤ x.length → Pv i σ' H' → SqL K H' b ys)
    (hs : ∀ i y σ' H' T, i < x.length → ys[i]? = some y → Pv i σ' H' → H' T = none → tu { D with nx := Pv (i + 1), ct := Pv (i + 1), bk := tz D } ((σ'.set j (some (sg x i))).set k (some y)) (upd H' T (.tup [sg x i, y]))) (hd : ∀ σ' H', Pv x.length σ' H' → tz D σ' H') :
    tSeq (tFor (iZipM K ta) (gTup K 2 (gCons (gName j) (gCons (gName k) gNil))) tu) tz D σ H := h H (Ex.refl H) _ fun H1 e1 => by
  refine ⟨x, b, ys, rfl, hx H1 e1, ?_⟩
  refine for_it (D := { D with nx := tz D }) (walk_zipM (K := K) (x := x) (ys := ys) (n := x.length) (by omega)) Pv (h0 H1 e1) hl (fun i v σ' H2 H' hi p y => ?_) hd
  obtain ⟨T, c, y, rfl, nT, rfl, hc, hy⟩ := y
  rw [sg_of hc]
  exact ⟨T, _, rfl, st_of upd_same, rfl, _, _, rfl, _, _, rfl, rfl, hs i y σ' H2 T hi hy p nT⟩
/-- the same, the last statement -/
theorem s_forEA {K : PySem.W.Frag} {σ : L2.St} {H : Hp} {ta : TA} {tu : TS} {D : Ends} {a : Addr} {xs : List V} {j k : Nat} (h : EvA ta σ H [.ref a]) (hx : SqA K H a xs) (Pv : Nat → L2.St → Hp → Prop) (h0 : ∀ H1, Ex H H1 → Pv 0 σ H1) (hl : ∀ i σ' H', i ≤ xs.length → Pv i σ' H' → Ex H H')
    (hs : ∀ i x σ' H' T, xs[i]? = some x → Pv i σ' H' → H' T = none → tu { D with nx := Pv (i + 1), ct := Pv (i + 1), bk := D.nx } ((σ'.set j (some (.int (i : Int)))).set k (some x)) (upd H' T (.tup [.int (i : Int), x]))) (hd : ∀ σ' H', Pv xs.length σ' H' → D.nx σ' H') :
    tFor (iEnumA K ta) (gTup K 2 (gCons (gName j) (gCons (gName k) gNil))) tu D σ H := q_forEA (tz := fun D σ H => D.nx σ H) h hx Pv h0 hl hs hd
end Qt
/-! Calls of what an expression gives; errors with one field. -/
namespace Qt
open PySem PySem.Spec PyProof.Rows L2 Evl
section
variable {X : Cx} {fe e : Expr} {es : List Expr} {pos : Pos} {tf : TE} {t : TA} {CX : CXT}
/-- fs[i](..): the value is one of some defs -/
def tCallE (tf : TE) (Cd : Addr → Sp → Prop) (E : L2.St → XK) (t : TA) : TE := fun σ H Q => tf σ H fun v H1 => ∃ f sp, v = .ref f ∧ Cd f sp ∧ t σ H1 fun vs H2 => sp vs H2 Q (E σ)
theorem pe_callES {Cd : Addr → Sp → Prop} {E : L2.St → XK} {j : Nat} (hr : Room j X.A) (hf : PE X fe tf) (hC : ∀ f sp, Cd f sp → PySem.W.keepIn X.K (.ref f) = true ∧ ∃ k fd ps, k ≤ j ∧ FnOk X.prog X.w X.K X.mg X.base CX k f fd ps sp ∧ Binds X.K fd ps []) (hx : ∀ σ, PassesAt CX X σ (E σ)) (ha : PA X (e :: es) t)
    (he : starEach (e :: es) X.env = (false, eval e X.env) :: starEach es X.env := by rfl) (hpl : (backTo pos (starEach es X.env)).any (·.1) = false := by rfl)
    (hc : eval (.Call fe (e :: es) [] pos) X.env = (do callWith pos (← eval fe X.env) [] (backTo pos (starEach (e :: es) X.env)) (backToKw pos (keywordEach [] X.env))) := by rfl) : PE X (.Call fe (e :: es) [] pos) (tCallE tf Cd E t) := by
  refine ⟨fun pins s σ H Q I h => ?_⟩
  refine Call_ (he := hc) (thn (hf.run pins s σ H _ I h) fun u s1 hh => ?_)
  obtain ⟨v, H1, I1, r1, f, sp, rfl, hd, q⟩ := hh
  obtain rfl : u = Value.ref f := r1
  obtain ⟨hk, k, fd, ps, hkj, F, hb⟩ := hC f sp hd
  refine PySem.W.callWith_K (h₀ := X.base) I1.ok.mod.kin hk (thn (ha.run pos pins s1 σ H1 _ I1 q) fun us s2 hh2 => ?_) he hpl
  obtain ⟨vs, H2, I2, r, q2⟩ := hh2
  exact ⟨I2.kIn, run_fnS F (hr.mono hkj) hb (hx σ) I2 r q2⟩
end
/-- what stands behind an error with one field that was made and raised -/
theorem raisedF {fn : Str} {H1 H2 : Hp} {a d CN : Addr} {v : V} (na : H1 a = none) (e : Ex (upd H1 a (exo a CN none)) H2) (nd : H2 d = none) (ne : d ≠ a) :
    H1 d = none ∧ Ex H1 (upd (del (upd (upd H2 d (exd d [(fn, v)])) a (exo a CN (some d))) a) d (.xd [(fn, v)])) := by
  have d0 : H1 d = none := by
    have z := fresh_back e nd
    rwa [upd_ne ne] at z
  refine ⟨d0, fun b o hb => ?_⟩
  have h1 : b ≠ a := ne_of_none hb na
  rw [upd_ne (ne_of_none hb d0), del_ne h1, upd_ne h1, upd_ne (ne_of_none hb d0)]
  exact e b o (by rw [upd_ne h1]; exact hb)
/-- an __init__ that keeps its one argument -/
def spInitF (K : PySem.W.Frag) (fn : Str) (C : Addr) : Sp := fun vs H Q _ => ∃ a v, vs = [.ref a, v] ∧ H a = some (exo a C none) ∧
  ∀ d H2, Ex H H2 → H2 d = none → d ≠ a → Q .non (upd (upd H2 d (exd d [(fn, v)])) a (exo a C (some d)))
end Qt
/-! A range kept in a name; a written dict with ints as keys. -/
namespace Qt
open PySem PySem.Spec PyProof.Rows L2 Evl
section
variable {X : Cx} {tg : Expr}
theorem cr_range1 : CallR X (.type "range") (fun vs H Q => ∃ j, vs = [V.int j] ∧ ∀ p, H p = none → Q (.ref p) (upd H p (.rng 0 j))) := by
  intro pins s σ H vs us Q I r h
  obtain ⟨j, rfl, q⟩ := h
  cases r with
  | cons rj rr =>
    cases rr
    obtain ⟨u, rfl⟩ := rj
    refine call_range_1 ⟨.ref s.heap.objs.size, upd H s.heap.objs.size (.rng 0 j), I.laid (t' := s.toks + 1 + 1) (fun b o e => Heap.get?_push_of_some _ e) (Nat.le_refl _) ?_, rfl, q _ (I.hok.fresh (Nat.le_refl _))⟩
    exact ⟨_, u, _, Heap.get?_push_size _ rfl⟩
def iRngV (te : TE) : TI := fun σ H R => te σ H fun x H1 => ∃ (a : Addr) (lo hi : Int), x = .ref a ∧ H1 a = some (.rng lo hi) ∧ -(2 ^ 62) ≤ lo ∧ lo < 2 ^ 62 ∧ -(2 ^ 62) ≤ hi ∧ hi < 2 ^ 62 ∧ R (Itr lo (hi - lo).toNat) H1
theorem pi_rng {l : Expr} {te : TE} (hl : PE X l te) : PI X tg l (iRngV te) := by
  refine ⟨fun pins s σ H R I h => ?_⟩
  refine thn (hl.run pins s σ H _ I h) fun v s1 ⟨x, H1, I1, r1, q1⟩ => ?_
  obtain ⟨a, lo, hi, e, ha, h1, h2, h3, h4, q⟩ := q1
  subst e
  cases r1
  obtain ⟨t, u, k, ho⟩ := I1.hok a _ ha
  refine wpAny_pyIter_range (show IsRange s1.heap a lo hi 1 t u k from ho) (small_one h1 h2 h3 h4) ?_
  refine ⟨s1.heap.objs.size, [s1.heap.objs.size], _, _, H1, rfl, I1.kept (t' := s1.toks) fun b o e => Heap.get?_push_of_some _ e, turn_range _ lo (hi - lo).toNat, ?_, fun b hb => ?_, q⟩
  · have e1 : lo + ((0 : Nat) : Int) * 1 = lo := by simp
    have e2 : (((hi - lo).toNat : Nat) : Int) - ((0 : Nat) : Int) = Builtin.Range.rangeSize lo hi 1 := by rw [rangeSize_one]; split <;> omega
    show IsRangeIter _ _ (lo + ((0 : Nat) : Int) * 1) ((((hi - lo).toNat : Nat) : Int) - ((0 : Nat) : Int)) 1
    rw [e1, e2]
    exact Heap.get?_push_size _ rfl
  · have e : b = s1.heap.objs.size := by simpa using hb
    subst e
    exact I1.fpOk (Nat.le_refl _) (I1.hok.fresh (Nat.le_refl _))
end
/-- keys that are ints -/
def KeysInt : List DictEntry → Prop
  | [] => True
  | e :: r => (∃ k t, e.key = .int k t ∧ e.hash = hashInt k) ∧ KeysInt r
theorem KeysInt.all : ∀ {l : List DictEntry}, KeysInt l → ∀ e ∈ l, ∃ k t, e.key = .int k t ∧ e.hash = hashInt k
  | _ :: _, ⟨h, _⟩, _, .head _ => h
  | _ :: _, ⟨_, r⟩, _, .tail _ m => r.all _ m
def KDctI (K : PySem.W.Frag) (p : Addr) (i : Int) (v : V) : Prop := ∃ es n u, K.lookup p = some ⟨.type "dict", none, .dict es n, #[]⟩ ∧ KeysInt es.toList ∧ findBy Value.isInt es i = some u ∧ RelV v u
def rIxDI (K : PySem.W.Frag) : R2 := fun x y H Q => ∃ p i v, x = .ref p ∧ y = .int i ∧ KDctI K p i v ∧ Q v H
section
variable {X : Cx}
theorem ix_kdictI : IxR X (rIxDI X.K) := by
  intro value slice pins s σ H x y v u Q I rx ry h hs
  obtain ⟨p, i, r, rfl, rfl, ⟨es, n, u0, hl, hk, e, ru⟩, q⟩ := h
  obtain rfl : v = Value.ref p := rx
  obtain ⟨t, rfl⟩ := ry
  have hm : s.heap.MapOf (intKind X.prog X.w) p (fun k => findBy Value.isInt es k) := ⟨_, es, n, I.kIn _ _ hl, ⟨rfl, rfl, rfl⟩, rfl, fun e he => by
    obtain ⟨k, t, e1, e2⟩ := hk.all e (Array.mem_toList_iff.mpr he)
    exact ⟨k, by rw [e1]; show Value.isInt k (.int k t) = true; simp [Value.isInt], e2⟩, fun _ => rfl⟩
  exact tail_any hm.typeIs slot_dict_getitem.lookup (wpAny_getItem_of (show (intKind X.prog X.w).is i (.int i t) = true from by show Value.isInt i (.int i t) = true; simp [Value.isInt]) hm e ⟨r, H, I.tok _, ru, q⟩) hs
end
end Qt
/-! Lists of pairs; long lists. -/
namespace Qt
open PySem PySem.Spec PyProof.Rows L2 Evl
section
variable {K : PySem.W.Frag} {σ : L2.St} {H : Hp} {ta te tl : TE} {D : Ends}
theorem s_appUB {l : Addr} {xs ys : List V} (hl : H l = some (.lst xs)) (ha : Ev ta σ H (.ref l)) (h : EvU te σ H ys) (hz : xs.length < sizeLine) (k : ∀ p H1, H p = none → Ex H H1 → H1 p = some (.tup ys) → D.nx σ (upd H1 l (.lst (xs ++ [.ref p])))) :
    tDrop (tBM K "list" rAppend ta (tCons te tNil)) D σ H := ha H (Ex.refl H) _ fun H1 e1 =>
  ⟨Or.inl ⟨rfl, xs, sq_of (e1 l _ hl)⟩, h H1 e1 _ fun p H2 hp e2 h2 => ⟨l, xs, .ref p, rfl, rfl, e2 l _ (e1 l _ hl), hz, k p H2 (fresh_back e1 hp) (e1.trans e2) h2⟩⟩
/-- the first of each pair of a list, made anew -/
theorem el_lcP {a : Addr} {xs : List V} {j k : Nat} {vs : List Nat} (f g v : Nat → V) (h : Ev tl σ H (.ref a)) (hx : SqL K H a xs) (hp : ∀ i x, xs[i]? = some x → ∃ t, x = .ref t ∧ SqT K H t [f i, g i]) (hz : xs.length < sizeLine)
    (hw : ∀ a b, wipe (((wipe σ vs).set j (some a)).set k (some b)) vs = wipe σ vs)
    (he : ∀ (i : Nat) H1, Ex H H1 → i < xs.length → Ev te (((wipe σ vs).set j (some (f i))).set k (some (g i))) H1 (v i)) :
    EvL (tLc (iList K tl) (gTup K 2 (gCons (gName j) (gCons (gName k) gNil))) tYes te vs) σ H ((List.range xs.length).map v) := fun H0 e Q q => h H0 e _ fun H1 e1 => ⟨a, rfl, ⟨xs, ex_l (e.trans e1) hx⟩, fun Dl hD => by
  refine lc_it (walk_list (xs := xs)) (fun i H' => Ex H1 H' ∧ H' Dl = some (.lst ((List.range i).map v))) ⟨Ex.new hD, upd_same⟩ (fun _ _ _ p => ex_l p.1 (ex_l (e.trans e1) hx)) (fun i z H2 H' hi p y' => ?_) (fun H' p => ?_)
  · obtain ⟨rfl, hy⟩ := y'
    obtain ⟨p2, p3⟩ := p
    obtain ⟨t, rfl, ht⟩ := hp i z hy
    refine ⟨t, _, rfl, ex_t p2 (ex_t (e.trans e1) ht), rfl, _, _, rfl, _, _, rfl, rfl, hw _ _, ?_⟩
    refine yes_if ?_
    refine he i H' ((e.trans e1).trans p2) hi _ (Ex.refl _) _ fun H4 e4 => ⟨_, e4 _ _ p3, by rw [List.length_map, List.length_range]; omega, Ex.mut (p2.trans e4) hD, ?_⟩
    rw [upd_same, List.range_succ, List.map_append]
    rfl
  · exact q Dl H' (fresh_back e1 hD) (e1.trans p.1) p.2⟩
end
theorem putK_new {κ : Type} [DecidableEq κ] {kvs : List (κ × V)} {k : κ} {v : V} (h : valV kvs k = none) : putK kvs k v = kvs ++ [(k, v)] := by
  unfold putK
  rw [valV_any, h]
  rfl
end Qt
namespace Qt
open PySem PySem.Spec PyProof.Rows L2 Evl
/-- an own class whose instances have these fields -/
structure OwnC (K : PySem.W.Frag) (mg : Str → Option Value) (x : Str) (C f : Addr) (zs : List Str) : Prop where
  m : mg x = some (.ref C)
  cl : Cls K C
  mks : Mk K C f
  na : ∀ z ∈ zs, NoAttr K C z
structure OwnAt (K : PySem.W.Frag) (x : Str) (C f : Addr) (zs : List Str) : Prop where
  m : PySem.W.nsIn K mainGlobals x = some (some (.ref C))
  pg : PySem.W.plainGet K C Str.empty = true
  hd : PySem.W.hasDictIn K C = true
  po : PySem.W.plainOver K C = true
  sa : PySem.W.findIn K (.ref C) "__setattr__" = some (some (.builtin "object.__setattr__"))
  mks : PySem.W.makesIn K C = true
  it : PySem.W.findIn K (.ref C) "__init__" = some (some (.ref f))
  fn : PySem.W.isFn K (.ref f) = true
  kp : PySem.W.keepIn K (.ref C) = true
  na : ∀ z ∈ zs, PySem.W.findIn K (.ref C) z = some none
theorem OwnAt.own {K : PySem.W.Frag} {h : Heap} {mg : Str → Option Value} {x : Str} {C f : Addr} {zs : List Str} (X : K.In h) (G : h.Ns mainGlobals mg) (A : OwnAt K x C f zs) : OwnC K mg x C f zs :=
  ⟨PySem.W.mg_of X G A.m, ⟨A.pg, A.hd, A.po, A.sa⟩, ⟨A.mks, A.it, A.fn, A.kp⟩, A.na⟩
/-- a def of a class stands in the written part -/
def FnAt (K : PySem.W.Frag) (f : Addr) (n q : Str) (st : Stmt) : Prop := ∃ (oc : Value) (od : Option Addr) (kV dc pm : Value) (an : Option Addr) (cd ct : Value) (sl : Array (Option Value)),
  K.lookup f = some ⟨oc, od, .func (PySem.W.fnOf n q (defArgs st) (defBody st) (defScope st) .none kV dc pm an cd ct), sl⟩ ∧ PySem.W.codeIn K cd q = true ∧ PySem.W.keepIn K (.ref f) = true
theorem FnAt.mk {K : PySem.W.Frag} {f : Addr} {n q : Str} {st : Stmt} {oc : Value} {od : Option Addr} {kV dc pm : Value} {an : Option Addr} {cd ct : Value} {sl : Array (Option Value)}
    (l : K.lookup f = some ⟨oc, od, .func (PySem.W.fnOf n q (defArgs st) (defBody st) (defScope st) .none kV dc pm an cd ct), sl⟩) (c : PySem.W.codeIn K cd q = true) (k : PySem.W.keepIn K (.ref f) = true) : FnAt K f n q st := ⟨_, _, _, _, _, _, _, _, _, l, c, k⟩
theorem FnAt.fn {K : PySem.W.Frag} {f : Addr} {n q : Str} {st : Stmt} {ps : List Str} (D : FnAt K f n q st)
    (hb : ∀ (kV doc pm : Value) (an : Option Addr) (cdv ct : Value) (us : List Value), us.length = ps.length → bindArgs (PySem.W.fnOf n q (defArgs st) (defBody st) (defScope st) .none kV doc pm an cdv ct) ⟨us, []⟩ = pure (ps.zip us)) : ∃ fd, Fun K n q st f fd ∧ Binds K fd ps [] := by
  obtain ⟨oc, od, kV, dc, pm, an, cd, ct, sl, l, c, k⟩ := D
  have F := fun_mk (st := st) l c k
  exact ⟨_, F, F.binds hb⟩
def MethAt (K : PySem.W.Frag) (C : Addr) (n q : Str) (st : Stmt) : Prop := ∃ g, PySem.W.findIn K (.ref C) n = some (some (.ref g)) ∧ PySem.W.isFn K (.ref g) = true ∧ FnAt K g n q st
theorem MethAt.mk {K : PySem.W.Frag} {C g : Addr} {n q : Str} {st : Stmt} {oc : Value} {od : Option Addr} {kV dc pm : Value} {an : Option Addr} {cd ct : Value} {sl : Array (Option Value)} (a : PySem.W.findIn K (.ref C) n = some (some (.ref g))) (i : PySem.W.isFn K (.ref g) = true)
    (l : K.lookup g = some ⟨oc, od, .func (PySem.W.fnOf n q (defArgs st) (defBody st) (defScope st) .none kV dc pm an cd ct), sl⟩) (c : PySem.W.codeIn K cd q = true) (k : PySem.W.keepIn K (.ref g) = true) : MethAt K C n q st := ⟨g, a, i, .mk l c k⟩
def MethC (K : PySem.W.Frag) (C : Addr) (n q : Str) (st : Stmt) (ps : List Str) : Prop := ∃ g fd, Meth K C n g ∧ Fun K n q st g fd ∧ Binds K fd ps []
theorem MethAt.meth {K : PySem.W.Frag} {C : Addr} {n q : Str} {st : Stmt} {ps : List Str} (D : MethAt K C n q st)
    (hb : ∀ (kV doc pm : Value) (an : Option Addr) (cdv ct : Value) (us : List Value), us.length = ps.length → bindArgs (PySem.W.fnOf n q (defArgs st) (defBody st) (defScope st) .none kV doc pm an cdv ct) ⟨us, []⟩ = pure (ps.zip us)) : MethC K C n q st ps := by
  obtain ⟨g, a, i, oc, od, kV, dc, pm, an, cd, ct, sl, l, c, k⟩ := D
  have F := fun_mk (st := st) l c k
  exact ⟨g, _, ⟨a, i, k⟩, F, F.binds hb⟩
theorem KeysInt.cons {e : DictEntry} {r : List DictEntry} {k : Int} {t : Tok} (h1 : e.key = .int k t) (h2 : e.hash = hashInt k) (h : KeysInt r) : KeysInt (e :: r) := ⟨⟨k, t, h1, h2⟩, h⟩
theorem KeysInt.nil : KeysInt [] := trivial
theorem find_int (es : Array DictEntry) (i : Int) : findBy Value.isInt es i = (es.toList.find? fun d => Value.isInt i d.key).map (·.val) := by
  obtain ⟨l⟩ := es
  unfold findBy
  rw [List.find?_toArray]
theorem KDctI.mk {K : PySem.W.Frag} {p : Addr} {i : Int} {v : V} {es : Array DictEntry} {n : Nat} {u : Value} (h1 : K.lookup p = some ⟨.type "dict", none, .dict es n, #[]⟩) (h2 : KeysInt es.toList) (h3 : (es.toList.find? fun d => Value.isInt i d.key).map (·.val) = some u) (h4 : RelV v u) : KDctI K p i v :=
  ⟨es, n, u, h1, h2, by rw [find_int]; exact h3, h4⟩
/-- a written dict of ints -/
def TabI (K : PySem.W.Frag) (p : Addr) (l : List (Int × Int)) : Prop := ∀ kv ∈ l, KDctI K p kv.1 (.int kv.2)
end Qt
/-! max(d.values(), default=a number). -/
namespace Qt
open PySem PySem.Spec PyProof.Rows L2 Evl
theorem max_name : (toString "max" ++ toString ".loop" : String) = "max.loop" := by decide
section
variable {P : Program} {w : World} {dv : Value} {A : Around} {E : Value → Shared → Prop} {s : Shared}
theorem max_argsE (a d : Value) : argsOk "max" ⟨[a], kwE d⟩ := by unfold argsOk; kernel_rfl
section
variable {R : Result → Shared → Prop} {I S : Addr} {fp wr : List Addr} {n : Nat} {Pv : Nat → Value → Prop} {St : Nat → Heap → Prop}
theorem maxE_loop (W : Walks P w A.in1 I fp wr n Pv St) (bt : Nat → Nat → Bool) (hcmp : CmpOf P w A.in1 .Gt Pv bt) (hSf : S ∉ fp) :
    ∀ (k j : Nat) (s : Shared) (v : Value) (c : Nat), n - (j + 1) = k → j + 1 ≤ n → St (j + 1) s.heap → Pv (argBest bt j) v → s.heap.get? S = some (bestO #[v, v] c) →
    (∀ u h' tk, Pv (argBest bt (n - 1)) u → (∀ b o, b ∉ wr → b ≠ S → s.heap.get? b = some o → h'.get? b = some o) → R (.ok (.ret u)) { s with heap := h', toks := tk }) →
    codeAny (model P w) A (.builtin "max.loop" ⟨[.ref I, .none, .ref S], kwE dv⟩) R s := by
  have out : S ∉ wr := fun h => hSf (W.sub _ h)
  intro k
  induction k with
  | zero =>
    intro j s v c hk hj hst hP hS hR
    have hn : j + 1 = n := by omega
    refine codeAny_builtin F.entry_max_loop ?_
    rw [Around.under_plainId F.plain_max_loop _]
    show wpAny _ A.in1 (seqItems? (.ref S) >>= _) _ _ s
    refine wpAny_bind (wpAny_seqItems hS rfl ?_)
    show wpAny _ A.in1 (tryCatch (pyNext (.ref I)) _ >>= _) _ _ s
    refine wpAny_bind (wpAny_tryCatch (W.done s _ _ (hn ▸ hst) fun h' tk keep => ?_))
    have hS' := keep S _ out hS
    show wpAny _ A.in1 (updateSeq S (fun _ => #[]) >>= _) _ _ _
    refine wpAny_bind (wpAny_updateSeq hS' rfl (wpAny_bind (wpAny_letGo (wpAny_pure (hR v _ tk (by rw [← hn]; exact hP) fun b o b1 b2 e => ?_)))))
    exact (Heap.get?_update_other _ _ (Ne.symm b2)).trans (keep b o b1 e)
  | succ k ih =>
    intro j s v c hk hj hst hP hS hR
    have lt : j + 1 < n := by omega
    refine codeAny_builtin F.entry_max_loop ?_
    rw [Around.under_plainId F.plain_max_loop _]
    show wpAny _ A.in1 (seqItems? (.ref S) >>= _) _ _ s
    refine wpAny_bind (wpAny_seqItems hS rfl ?_)
    show wpAny _ A.in1 (tryCatch (pyNext (.ref I)) _ >>= _) _ _ s
    refine wpAny_bind (wpAny_tryCatch (W.item (j + 1) s _ _ lt hst fun u h' tk hu hst' keep => ?_))
    have hS' := keep S _ out hS
    show wpAny _ A.in1 (tryCatch (holding [u, u] (richCompare .Gt u v >>= _)) _ >>= _) _ _ _
    refine wpAny_bind (wpAny_tryCatch (wpAny_holding (wpAny_bind (hcmp (j + 1) (argBest bt j) u v _ _ _ hu hP (wpAny_bind (wpAny_holding (wpAny_truthy_bool (wpAny_bind (wpAny_letGo (wpAny_pure ?_))))))))))
    cases hb : bt (j + 1) (argBest bt j) with
    | true =>
      simp only [if_true]
      refine wpAny_bind (wpAny_updateSeq hS' rfl (wpAny_bind (wpAny_letGo ?_)))
      rw [max_name]
      refine wpAny_pure ⟨plainId_quiet F.plain_max_loop _, ih (j + 1) _ u _ (by omega) lt (W.frame _ _ _ hst' fun b hbf o e => ?_) (by simp only [argBest, hb, if_true]; exact hu) (Heap.get?_update_self _ hS' rfl) fun u' h2 tk2 hu' keep2 => ?_⟩
      · exact (Heap.get?_update_other _ _ (fun h : S = b => hSf (by rw [h]; exact hbf))).trans e
      · exact hR u' h2 tk2 hu' fun b o b1 b2 e => keep2 b o b1 b2 ((Heap.get?_update_other _ _ (Ne.symm b2)).trans (keep b o b1 e))
    | false =>
      simp only [Bool.false_eq_true, if_false]
      refine wpAny_bind (wpAny_letGo ?_)
      rw [max_name]
      exact wpAny_pure ⟨plainId_quiet F.plain_max_loop _, ih (j + 1) _ v c (by omega) lt hst' (by simp only [argBest, hb, Bool.false_eq_true, if_false]; exact hP) hS' fun u' h2 tk2 hu' keep2 => hR u' h2 tk2 hu' fun b o b1 b2 e => keep2 b o b1 b2 (keep b o b1 e)⟩
theorem maxE_first (W : Walks P w A.in1 I fp wr n Pv St) (bt : Nat → Nat → Bool) (hcmp : CmpOf P w A.in1 .Gt Pv bt) (hSf : S ∉ fp) {s : Shared} {c : Nat} (hst : St 0 s.heap) (hS : s.heap.get? S = some (bestO #[] c))
    (h0 : n = 0 → ∀ h' tk, (∀ b o, b ∉ wr → b ≠ S → s.heap.get? b = some o → h'.get? b = some o) → R (.ok (.ret dv)) { s with heap := h', toks := tk })
    (h1 : 0 < n → ∀ u h' tk, Pv (argBest bt (n - 1)) u → (∀ b o, b ∉ wr → b ≠ S → s.heap.get? b = some o → h'.get? b = some o) → R (.ok (.ret u)) { s with heap := h', toks := tk }) :
    codeAny (model P w) A (.builtin "max.loop" ⟨[.ref I, .none, .ref S], kwE dv⟩) R s := by
  have out : S ∉ wr := fun h => hSf (W.sub _ h)
  refine codeAny_builtin F.entry_max_loop ?_
  rw [Around.under_plainId F.plain_max_loop _]
  show wpAny _ A.in1 (seqItems? (.ref S) >>= _) _ _ s
  refine wpAny_bind (wpAny_seqItems hS rfl ?_)
  show wpAny _ A.in1 (tryCatch (pyNext (.ref I)) _ >>= _) _ _ s
  by_cases hn : n = 0
  · refine wpAny_bind (wpAny_tryCatch (W.done s _ _ (hn ▸ hst) fun h' tk keep => ?_))
    refine wpAny_bind (wpAny_rule ?_)
    exact wpAny_pure (h0 hn _ tk fun b o b1 b2 e => keep b o b1 e)
  · refine wpAny_bind (wpAny_tryCatch (W.item 0 s _ _ (by omega) hst fun u h' tk hu hst' keep => ?_))
    have hS' := keep S _ out hS
    show wpAny _ A.in1 (updateSeq S (fun _ => #[u, u]) >>= _) _ _ _
    refine wpAny_bind (wpAny_updateSeq hS' rfl ?_)
    rw [max_name]
    refine wpAny_pure ⟨plainId_quiet F.plain_max_loop _, maxE_loop W bt hcmp hSf _ 0 _ u _ rfl (by omega) (W.frame _ _ _ hst' fun b hbf o e => ?_) hu (Heap.get?_update_self _ hS' rfl) fun u' h2 tk2 hu' keep2 => ?_⟩
    · exact (Heap.get?_update_other _ _ (fun h : S = b => hSf (by rw [h]; exact hbf))).trans e
    · exact h1 (by omega) u' h2 tk2 hu' fun b o b1 b2 e => keep2 b o b1 b2 ((Heap.get?_update_other _ _ (Ne.symm b2)).trans (keep b o b1 e))
end
theorem maxE_vals {v d : Addr} {kvs : List (Key × Value)} {ep : Nat} (val : Nat → Int) (hv : ∀ (i : Nat) (k : Key) (u : Value), kvs[i]? = some (k, u) → ∃ t, u = Value.int (val i) t) {Q : Value → Shared → Prop} (hh : A.handled = none) (hl : s.heap.IsValuesView v d) (hm : s.heap.DictAt (mixKind P w) d kvs ep)
    (h0 : kvs.length = 0 → ∀ h' tk, (∀ b o, s.heap.get? b = some o → h'.get? b = some o) → Q dv { s with heap := h', toks := tk })
    (h1 : 0 < kvs.length → ∀ t h' tk, (∀ b o, s.heap.get? b = some o → h'.get? b = some o) → Q (.int (val (argBest (fun i j => decide (val i > val j)) (kvs.length - 1))) t) { s with heap := h', toks := tk }) :
    wpAny (model P w) A (call (.builtin "max") [.ref v] (kwE dv)) Q E s := by
  have hdl : d < s.heap.objs.size := by
    obtain ⟨o, es, ho, _⟩ := id hm
    exact Heap.lt_size ho
  refine kmk_tree F.kind_max F.plain_max F.entry_max (max_argsE _ _) ?_
  show wpAny _ A.in1 (Builtin.Builtins.bindParams "max" ["key", "default"] 0 ⟨[], kwE dv⟩ >>= _) _ _ s
  refine wpAny_bind (wpAny_of_eq (show Builtin.Builtins.bindParams "max" ["key", "default"] 0 ⟨[], kwE dv⟩ = pure [none, some dv] from rfl) ?_)
  refine wpAny_bind (wpAny_pure (wpAny_bind (wpAny_pyIter_values hl hm (wpAny_bind (wpAny_newList ?_ (Nat.zero_le _))))))
  rw [max_name]
  let ob : Obj := { cls := .type "dict_valueiterator", data := .fields #[.ref d, .int 0 0, .int kvs.length 0, .int ep 0] }
  have hz : (s.heap.push ob).objs.size = s.heap.objs.size + 1 := Heap.size_push ..
  have hdI : d ≠ s.heap.objs.size := Nat.ne_of_lt hdl
  have kept : ∀ {h' : Heap}, (∀ b o, b ∉ [s.heap.objs.size] → b ≠ (s.heap.push ob).objs.size → ((s.heap.push ob).push (seqObj "list" #[] 0)).get? b = some o → h'.get? b = some o) → ∀ b o, s.heap.get? b = some o → h'.get? b = some o := by
    intro h' k b o e
    have hb := Heap.lt_size e
    refine k b o (by rw [List.mem_singleton]; exact Nat.ne_of_lt hb) (by rw [hz]; exact Nat.ne_of_lt (Nat.lt_succ_of_lt hb)) (Heap.get?_push_of_some _ (Heap.get?_push_of_some _ e))
  refine wpAny_pure ⟨plainId_quiet F.plain_max_loop _, maxE_first (Walks.dictValues (knd := mixKind P w) (A := A.in1) (by simp [hh]) s.heap.objs.size d hdI kvs ep) (fun i j => decide (val i > val j)) (CmpOf.ints_gt val fun i u hu => ?_) (fun z => ?_) ⟨⟨_, Heap.get?_push_of_some _ (Heap.get?_push_size _ rfl), rfl, rfl⟩, ?_⟩ (Heap.get?_push_size _ rfl) (fun hn h' tk k => ?_) fun hn u h' tk hu k => ?_⟩
  · obtain ⟨k, hk⟩ := hu
    exact hv i k u hk
  · rcases List.mem_cons.mp z with z | z
    · rw [hz] at z
      exact absurd z (Nat.ne_of_gt (Nat.lt_succ_self _))
    · rw [hz] at z
      exact absurd (List.mem_singleton.mp z) (Nat.ne_of_gt (Nat.lt_succ_of_lt hdl))
  · exact (hm.push _).push _
  · exact h0 hn h' tk (kept k)
  · obtain ⟨k2, hk2⟩ := hu
    obtain ⟨t, rfl⟩ := hv _ _ _ hk2
    exact h1 hn t h' tk (kept k)
end
theorem paired_get {α β : Type} {F : α → β → Prop} : ∀ {l₁ : List α} {l₂ : List β}, Paired F l₁ l₂ → ∀ {i : Nat} {a : α}, l₁[i]? = some a → ∃ b, l₂[i]? = some b ∧ F a b
  | _, _, .nil, _, _, h => by cases h
  | _, _, .cons h r, 0, _, e => ⟨_, rfl, by
    obtain rfl := Option.some.inj e
    exact h⟩
  | _, _, .cons _ r, i + 1, _, e => paired_get (i := i) r e
/-- what d.values() gives -/
def ValV (v d : Addr) : HO := .ext fun h => h.IsValuesView v d
def tValV (td : TE) : TE := fun σ H Q => td σ H fun x H1 => ∃ (d : Addr) (kvs : List (Key × V)), x = .ref d ∧ H1 d = some (.dK kvs) ∧ ∀ v, H1 v = none → Q (.ref v) (upd H1 v (ValV v d))
def rMaxVD : List V → List V → Hp → VK → Prop := fun vs zs H Q => ∃ (v d : Addr) (kvs : List (Key × V)) (ns : List Int) (z0 : Int), vs = [.ref v] ∧ zs = [.int z0] ∧ H v = some (ValV v d) ∧ H d = some (.dK kvs) ∧ kvs.map (·.2) = ns.map V.int ∧
  (ns = [] → Q (.int z0) H) ∧ ∀ m, m ∈ ns → (∀ y, y ∈ ns → y ≤ m) → Q (.int m) H
section
variable {X : Cx} {e : Expr} {td : TE} {apos cpos : Pos}
theorem pe_valuesV (he : PE X e td) (hbase : attributeBase e "values" X.env (eval e X.env) = eval e X.env := by rfl) (hline : (apos.endLine == cpos.line) = true := by rfl) : PE X (.Call (.Attribute e "values" apos) [] [] cpos) (tValV td) := by
  refine ⟨fun pins s σ H Q I h => ?_⟩
  refine wpAny_Call_method (T := "dict") (id := "dict.values") hbase rfl hline F.plainAttrs_dict F.slot_dict_values F.type_dict_values (thn (he.run pins s σ H _ I h) fun u s1 ⟨x, H1, I1, rx, d, kvs, ex, hd, q⟩ => ?_)
  subst ex
  obtain rfl : u = Value.ref d := rx
  obtain ⟨_, hs, vs, _, hm⟩ := dk_of I1.hok hd
  refine ⟨hm.typeIs, hm.mapOf.noDict, ?_⟩
  show wpAny _ _ (callWith cpos (.builtin "dict.values") [.ref d] [] []) _ X.xe s1
  refine method_meetsIn F.slot_dict_values F.entry_dict_values rfl (PySem.evalArgs_none ⟨rfl, hm.typeIs, F.args_dict_values_1 _, _, meets_dict_values (mixKind X.prog X.w) d hs, ⟨vs, hm⟩, ?_⟩)
  refine ⟨.ref s1.heap.objs.size, upd H1 s1.heap.objs.size (ValV s1.heap.objs.size d), I1.laid (t' := s1.toks) (fun b o e => Heap.get?_push_of_some _ e) (Nat.le_refl _) ?_, rfl, q _ (I1.hok.fresh (Nat.le_refl _))⟩
  exact ⟨⟨_, Heap.get?_push_size _ rfl, rfl, rfl⟩, ⟨_, Heap.get?_push_size _ rfl⟩, fun h1 h2 p k => let ⟨o, ho, r⟩ := p; ⟨o, k _ ho, r⟩⟩
theorem cr_maxVD (hc : X.calm = true) : CallRK X (.builtin "max") [PySem.Str.ofString "default"] rMaxVD := by
  intro pins s σ H xs zs us ws Q I r rz h
  obtain ⟨v, d, kvs, ns, z0, rfl, rfl, hv, hd, hn, q0, q1⟩ := h
  rw [Vals.ref1 r]
  obtain ⟨w1, rfl, e1⟩ := vals1 rz
  obtain ⟨t1, rfl⟩ := e1
  obtain ⟨_, _, vs, kv, o, es, ep, hm⟩ := dk_of I.hok hd
  have hl : kvs.length = vs.length := Paired.length kv
  have hnl : kvs.length = ns.length := by
    have z := congrArg List.length hn
    rw [List.length_map, List.length_map] at z
    exact z
  have hview := (I.hok v _ hv).1
  refine maxE_vals (ep := ep) (kvs := vs) (fun i => ns.getD i 0) (fun i k u hk => ?_) (I.ok.hd hc) hview ⟨o, es, hm⟩ (fun h0 h' tk kk => ?_) fun h0 t h' tk kk => ?_
  · have hi := (List.getElem?_eq_some_iff.mp hk).1
    have hi2 : i < kvs.length := by omega
    obtain ⟨y, hy, ry⟩ := paired_get kv (i := i) (List.getElem?_eq_getElem hi2)
    rw [hk] at hy
    cases hy
    have hx : (kvs.map (·.2))[i]? = some (kvs[i]).2 := by rw [List.getElem?_map, List.getElem?_eq_getElem hi2]; rfl
    rw [hn, List.getElem?_map, List.getElem?_eq_getElem (by omega)] at hx
    have hx := Option.some.inj hx
    have r2 := ry.2
    rw [← hx] at r2
    obtain ⟨t, ht⟩ := r2
    have ht : u = Value.int _ t := ht
    refine ⟨t, ?_⟩
    rw [ht, List.getD_eq_getElem?_getD, List.getElem?_eq_getElem (by omega)]
    rfl
  · exact ⟨.int z0, H, I.kept (t' := tk) kk, ⟨_, rfl⟩, q0 (List.eq_nil_of_length_eq_zero (by omega))⟩
  · obtain ⟨b1, b2⟩ := argBest_gt (fun i => ns.getD i 0) (vs.length - 1)
    refine ⟨.int _, H, I.kept (t' := tk) kk, ⟨t, rfl⟩, q1 _ ?_ fun z hz => ?_⟩
    · have hi : argBest (fun i j => decide (ns.getD i 0 > ns.getD j 0)) (vs.length - 1) < ns.length := by omega
      rw [List.getD_eq_getElem?_getD, List.getElem?_eq_getElem hi]
      exact List.getElem_mem hi
    · obtain ⟨j, hj, rfl⟩ := List.getElem_of_mem hz
      have := b2 j (by omega)
      rw [List.getD_eq_getElem?_getD (i := j), List.getElem?_eq_getElem hj] at this
      exact this
end
end Qt
/-! A dict comprehension over a new list, with a test, all keys different. -/
namespace Qt
open PySem PySem.Spec PyProof.Rows L2 Evl
def EvD (te : TE) (σ : L2.St) (H : Hp) (kvs : List (Key × V)) : Prop := ∀ H1, Ex H H1 → ∀ Q : VK, (∀ p H2, H1 p = none → Ex H1 H2 → H2 p = some (.dK kvs) → Q (.ref p) H2) → te σ H1 Q
theorem valV_none {κ : Type} [DecidableEq κ] {kvs : List (κ × V)} {k : κ} (h : ∀ p ∈ kvs, p.1 ≠ k) : valV kvs k = none := by
  unfold valV
  have z : (kvs.find? fun kv => decide (kv.1 = k)) = none := List.find?_eq_none.mpr fun p hp => by simpa using h p hp
  rw [z]
  rfl
theorem el_dcL {K : PySem.W.Frag} {σ : L2.St} {H : Hp} {tl tk tv : TE} {tt : TT} {j : Nat} {vs : List Nat} {xs : List V} (f : Nat → Bool) (kf : Nat → Key) (vf : Nat → V) (h : EvL tl σ H xs) (hz : xs.length ≤ 40000) (hw : ∀ x, wipe ((wipe σ vs).set j (some x)) vs = wipe σ vs)
    (hn : ∀ a b, a < b → b < xs.length → kf a ≠ kf b) (ht : ∀ (i : Nat) (x : V) H1, Ex H H1 → xs[i]? = some x → EvT tt ((wipe σ vs).set j (some x)) H1 (f i))
    (hk : ∀ (i : Nat) (x : V) H1, Ex H H1 → xs[i]? = some x → f i = true → Ev tk ((wipe σ vs).set j (some x)) H1 (kV (kf i))) (hv : ∀ (i : Nat) (x : V) H1, Ex H H1 → xs[i]? = some x → f i = true → Ev tv ((wipe σ vs).set j (some x)) H1 (vf i)) :
    EvD (tDc (iList K tl) (gName j) tt tk tv vs) σ H (((List.range xs.length).filter f).map fun i => (kf i, vf i)) := fun H0 e Q q => h H0 e _ fun a H1 na e1 hx => ⟨a, rfl, ⟨xs, sq_of hx⟩, fun D hD => by
  have ll : ∀ i, (((List.range i).filter f).map fun i => (kf i, vf i)).length ≤ i := fun i => by
    have z := List.length_filter_le f (List.range i)
    rw [List.length_map]
    rw [List.length_range] at z
    exact z
  refine ⟨fun i m H' => m = xs.length - i ∧ i ≤ xs.length ∧ Ex H1 H' ∧ H' D = some (.dK (((List.range i).filter f).map fun i => (kf i, vf i))), ⟨xs.length, by simp, Nat.zero_le _, Ex.new hD, upd_same⟩, ?_⟩
  rintro i m H' ⟨rfl, hi, eH, hd⟩
  by_cases hlt : i < xs.length
  · refine .inr ⟨⟨xs, xs[i], sq_of (eH _ _ hx), by simp [hlt]⟩, _, fun H'' p' => ⟨xs.length - (i + 1), by omega, rfl, hlt, p'⟩, fun x H'' y => ?_⟩
    obtain ⟨rfl, y⟩ := y
    have hxi := y xs (sq_of (eH _ _ hx))
    have e0 := (e.trans e1).trans eH
    refine ⟨hw _, ht i x _ e0 hxi _ (Ex.refl _) _ fun H3 e3 => ?_⟩
    cases hf : f i with
    | true =>
      refine iteT (hk i x _ (e0.trans e3) hxi hf _ (Ex.refl _) _ fun H4 e4 => hv i x _ ((e0.trans e3).trans e4) hxi hf _ (Ex.refl _) _ fun H5 e5 => ?_)
      have e35 := (e3.trans e4).trans e5
      refine ⟨_, kf i, rfl, e35 _ _ hd, Nat.lt_of_le_of_lt (ll i) (by rw [sizeLine_eq]; omega), Ex.mut (eH.trans e35) hD, ?_⟩
      rw [upd_same, putK_new (valV_none fun p hp => ?_), List.range_succ, List.filter_append, List.map_append, List.filter_cons_of_pos hf]
      · rfl
      · obtain ⟨b, hb, rfl⟩ := List.mem_map.mp hp
        exact hn b i (List.mem_range.mp (List.mem_filter.mp hb).1) hlt
    | false =>
      refine iteF ?_
      refine ⟨eH.trans e3, ?_⟩
      rw [List.range_succ, List.filter_append, List.filter_cons_of_neg (by rw [hf]; simp), List.filter_nil, List.append_nil]
      exact e3 _ _ hd
  · obtain rfl : i = xs.length := by omega
    exact .inl ⟨⟨xs, sq_of (eH _ _ hx), Nat.le_refl _⟩, q D H' (fresh_back e1 hD) (e1.trans eH) hd⟩⟩
/-- max within a block -/
theorem cr_maxK {X : Cx} (K : PySem.W.Frag) (h : X.K = K) (hc : X.calm = true) : CallR X (.builtin "max") (rMax K) := h ▸ cr_max hc
end Qt
/-! Dict comprehensions over any walk; over numbered items; over a dict's keys. A def with a default. x |= y. -/
namespace Qt
open PySem PySem.Spec PyProof.Rows L2 Evl
theorem ip_or {X : Cx} : PIp X .BitOr (ipI fun i j => Builtin.bitOr i j) := by
  intro pins s σ H x y v u Q I r1 r2 h
  obtain ⟨i, j, e1, e2, q⟩ := h
  subst e1; subst e2
  obtain ⟨t, rfl⟩ := r1
  obtain ⟨t', rfl⟩ := r2
  exact ior_int ⟨.int _, H, I.tok _, ⟨_, rfl⟩, q⟩
section
variable {J : It} {n : Nat} {G : Hp → Prop} {Y : Nat → Hp → V → Hp → Prop}
theorem dc_it (w : Walk J n G Y) {g : TG} {tt : TT} {tk tv : TE} {vs : List Nat} {σ : L2.St} {H1 : Hp} {D : Addr} {Qd : Hp → Prop} (Pv : Nat → Hp → Prop) (h0 : Pv 0 (upd H1 D (.dK []))) (hG : ∀ i H, i ≤ n → Pv i H → G H)
    (hs : ∀ i x H H', i < n → Pv i H → Y i H x H' → g x (wipe σ vs) H' fun σ2 H2 => wipe σ2 vs = wipe σ vs ∧ tt σ2 H2 fun b H3 =>
      if b = true then tk σ2 H3 fun y H4 => tv σ2 H4 fun z H5 => ∃ kvs k, y = kV k ∧ H5 D = some (.dK kvs) ∧ kvs.length < sizeLine ∧ Pv (i + 1) (upd H5 D (.dK (putK kvs k z))) else Pv (i + 1) H3) (hd : ∀ H, Pv n H → Qd H) :
    ∃ W : Nat → Nat → Hp → Prop, (∃ m, W 0 m (upd H1 D (.dK []))) ∧ ∀ i m H, W i m H →
      (J.stop i H ∧ Qd H) ∨ (J.go i H ∧ ∃ Nx : Hp → Prop, (∀ H', Nx H' → ∃ m', m' < m ∧ W (i + 1) m' H') ∧ ∀ x H', J.yld i H x H' → g x (wipe σ vs) H' fun σ2 H2 => wipe σ2 vs = wipe σ vs ∧ tt σ2 H2 fun b H3 =>
        if b = true then tk σ2 H3 fun y H4 => tv σ2 H4 fun z H5 => ∃ kvs k, y = kV k ∧ H5 D = some (.dK kvs) ∧ kvs.length < sizeLine ∧ Nx (upd H5 D (.dK (putK kvs k z))) else Nx H3) := by
  refine ⟨fun i m H => m = n - i ∧ i ≤ n ∧ Pv i H, ⟨n, by simp, Nat.zero_le _, h0⟩, ?_⟩
  rintro i m H ⟨rfl, hi, p⟩
  have q := hG i H hi p
  by_cases hlt : i < n
  · exact .inr ⟨w.goes i H hlt q, Pv (i + 1), fun H' p' => ⟨n - (i + 1), by omega, rfl, hlt, p'⟩, fun x H' y => hs i x H H' hlt p (w.yields i H x H' hlt q y)⟩
  · obtain rfl : i = n := by omega
    exact .inl ⟨w.stops H q, hd H p⟩
end
/-- n entries with the keys kf, each value as R tells -/
def DRel (R : Nat → V → Hp → Prop) (kf : Nat → Key) (n : Nat) (kvs : List (Key × V)) (H : Hp) : Prop := kvs.length = n ∧ ∀ i, i < n → ∃ v, kvs[i]? = some (kf i, v) ∧ R i v H
theorem DRel.nil {R : Nat → V → Hp → Prop} {kf : Nat → Key} {H : Hp} : DRel R kf 0 [] H := ⟨rfl, fun _ h => absurd h (Nat.not_lt_zero _)⟩
theorem DRel.snoc {R : Nat → V → Hp → Prop} {kf : Nat → Key} {n : Nat} {kvs : List (Key × V)} {H H1 : Hp} {v : V} (h : DRel R kf n kvs H) (m : ∀ i v, R i v H → R i v H1) (hv : R n v H1) : DRel R kf (n + 1) (kvs ++ [(kf n, v)]) H1 :=
  ⟨by rw [List.length_append, h.1]; rfl, fun i hi => by
    rcases Nat.lt_or_ge i n with z | z
    · obtain ⟨u, a, b⟩ := h.2 i z
      exact ⟨u, by rw [List.getElem?_append_left (by rw [h.1]; exact z)]; exact a, m i u b⟩
    · obtain rfl : i = n := by omega
      exact ⟨v, by rw [List.getElem?_append_right (by rw [h.1]; exact Nat.le_refl _), h.1, Nat.sub_self]; rfl, hv⟩⟩
theorem DRel.new {R : Nat → V → Hp → Prop} {kf : Nat → Key} {n : Nat} {kvs : List (Key × V)} {H : Hp} {k : Key} (h : DRel R kf n kvs H) (hn : ∀ a, a < n → kf a ≠ k) : valV kvs k = none := valV_none fun p hp => by
  obtain ⟨i, hi, e⟩ := List.getElem_of_mem hp
  obtain ⟨v, a, _⟩ := h.2 i (by rw [← h.1]; exact hi)
  rw [List.getElem?_eq_getElem hi, e] at a
  rw [Option.some.inj a]
  exact hn i (by rw [← h.1]; exact hi)
theorem valV_app {κ : Type} [DecidableEq κ] {k : κ} : ∀ {a b : List (κ × V)}, valV a k = none → valV (a ++ b) k = valV b k
  | [], _, _ => rfl
  | p :: r, b, h => by
    by_cases e : p.1 = k
    · rw [valV_pos e] at h
      cases h
    · rw [valV_neg e] at h
      rw [List.cons_append, valV_neg e]
      exact valV_app h
theorem DRel.at {R : Nat → V → Hp → Prop} {kf : Nat → Key} : ∀ {n : Nat} {kvs : List (Key × V)} {H : Hp}, DRel R kf n kvs H → (∀ a b, a < b → b < n → kf a ≠ kf b) → ∀ i, i < n → ∃ v, valV kvs (kf i) = some v ∧ R i v H := fun {n kvs H} h hn i hi => by
  obtain ⟨v, a, b⟩ := h.2 i hi
  refine ⟨v, ?_, b⟩
  have hi' : i < kvs.length := by rw [h.1]; exact hi
  have e := (List.take_append_drop i kvs).symm
  rw [e, valV_app, List.drop_eq_getElem_cons hi', valV_pos]
  · rw [List.getElem?_eq_getElem hi'] at a
    rw [Option.some.inj a]
  · rw [List.getElem?_eq_getElem hi'] at a
    rw [Option.some.inj a]
  · refine valV_none fun p hp => ?_
    obtain ⟨j, hj, ej⟩ := List.getElem_of_mem hp
    rw [List.length_take] at hj
    obtain ⟨u, c, _⟩ := h.2 j (by omega)
    rw [List.getElem_take] at ej
    rw [List.getElem?_eq_getElem (by omega), ej] at c
    rw [Option.some.inj c]
    exact hn j i (by omega) hi
/-- {kf: v for j, k in enumerate(a new list)}, keys all different -/
theorem el_dcE {K : PySem.W.Frag} {σ : L2.St} {H : Hp} {te tk tv : TE} {j k : Nat} {vs : List Nat} {xs : List V} (kf : Nat → Key) (vf : Nat → V) (h : EvL te σ H xs) (hz : xs.length ≤ 40000)
    (hw : ∀ a b, wipe (((wipe σ vs).set j (some a)).set k (some b)) vs = wipe σ vs) (hn : ∀ a b, a < b → b < xs.length → kf a ≠ kf b)
    (hk : ∀ (i : Nat) y H1, Ex H H1 → xs[i]? = some y → Ev tk (((wipe σ vs).set j (some (.int (i : Int)))).set k (some y)) H1 (kV (kf i)))
    (hv : ∀ (i : Nat) y H1, Ex H H1 → xs[i]? = some y → Ev tv (((wipe σ vs).set j (some (.int (i : Int)))).set k (some y)) H1 (vf i)) :
    EvD (tDc (iEnum K (tCons te tNil)) (gTup K 2 (gCons (gName j) (gCons (gName k) gNil))) tYes tk tv vs) σ H ((List.range xs.length).map fun i => (kf i, vf i)) := fun H0 e Q q => h H0 e _ fun a H1 na e1 hx => ⟨a, xs, rfl, sq_of hx, fun D hD => by
  refine dc_it (walk_enum (K := K) (a := a) (xs := xs)) (fun i H' => Ex H1 H' ∧ H' D = some (.dK ((List.range i).map fun i => (kf i, vf i)))) ⟨Ex.new hD, upd_same⟩ (fun _ _ _ p => sq_of (p.1 _ _ hx)) (fun i z H2 H' hi p y' => ?_) (fun H' p => q D H' (fresh_back e1 hD) (e1.trans p.1) p.2)
  obtain ⟨T, n, y, rfl, nT, rfl, hn', hy⟩ := y'
  obtain rfl : V.int (i : Nat) = n := Option.some.inj hn'
  obtain ⟨p1, p2⟩ := p
  have nTD : D ≠ T := ne_of_none p2 nT
  have eT := Ex.new (o := .tup [.int (i : Nat), y]) nT
  refine ⟨T, _, rfl, st_of upd_same, rfl, _, _, rfl, _, _, rfl, rfl, hw _ _, ?_⟩
  refine yes_if ?_
  have e0 := ((e.trans e1).trans p1).trans eT
  refine hk i y _ e0 hy _ (Ex.refl _) _ fun H4 e4 => hv i y _ (e0.trans e4) hy _ (Ex.refl _) _ fun H5 e5 => ?_
  have e45 := e4.trans e5
  refine ⟨_, kf i, rfl, e45 _ _ (eT _ _ p2), by rw [List.length_map, List.length_range, sizeLine_eq]; omega, Ex.mut ((p1.trans eT).trans e45) hD, ?_⟩
  rw [upd_same, putK_new (valV_none fun p hp => ?_), List.range_succ, List.map_append]
  · rfl
  · obtain ⟨b, hb, rfl⟩ := List.mem_map.mp hp
    exact hn b i (List.mem_range.mp hb) hi⟩
/-- back from a frozen dict -/
theorem ex_thaw {H H' : Hp} {d : Addr} {od : Obj} {u : HO} (h : H d = some u) (e : Ex (upd H d (.frz od u)) H') : Ex H (upd H' d u) := fun a o ha => by
  by_cases z : a = d
  · rw [z, h] at ha
    rw [z, upd_same]
    exact ha
  · rw [upd_ne z]
    exact e a o (by rw [upd_ne z]; exact ha)
/-- {j: v for j in a dict}, the values as R tells -/
theorem el_dcK {K : PySem.W.Frag} {σ : L2.St} {H : Hp} {td tv : TE} {d : Addr} {j : Nat} {vs : List Nat} {kvs : List (Key × V)} (R : Nat → V → Hp → Prop) (kf : Nat → Key) (h : ∀ H1 od, Ev td σ (upd H1 d (.frz od (.dK kvs))) (.ref d)) (hd : H d = some (.dK kvs)) (hz : kvs.length ≤ 40000)
    (hkf : ∀ i, i < kvs.length → ∃ v, kvs[i]? = some (kf i, v)) (hn : ∀ a b, a < b → b < kvs.length → kf a ≠ kf b)
    (hw : ∀ x, wipe ((wipe σ vs).set j (some x)) vs = wipe σ vs) (hj : ∀ x, ((wipe σ vs).set j (some x))[j]? = some (some x))
    (hR : ∀ i v H1 H2 x, (∃ kv od, H1 x = some (.dK kv) ∨ H1 x = some (.frz od (.dK kv))) → (∀ a o, a ≠ x → H1 a = some o → H2 a = some o) → R i v H1 → R i v H2)
    (hv : ∀ (i : Nat) v H1, kvs[i]? = some (kf i, v) → (∃ H0 od, Ex H H0 ∧ Ex (upd H0 d (.frz od (.dK kvs))) H1 ∧ H1 d = some (.frz od (.dK kvs))) → ∀ Q : VK, (∀ v H2, Ex H1 H2 → R i v H2 → Q v H2) → tv ((wipe σ vs).set j (some (kV (kf i)))) H1 Q)
    {H0 : Hp} (e : Ex H H0) {Q : VK} (q : ∀ p kvs' H2, H0 p = none → Ex H0 H2 → H2 p = some (.dK kvs') → DRel R kf kvs.length kvs' H2 → Q (.ref p) H2) :
    tLockE (tDc (iKeys td) (gName j) tYes (tVar j) tv vs) σ H0 Q := by
  have hd0 := e _ _ hd
  refine ⟨d, .dK kvs, hd0, trivial, fun od => ?_⟩
  refine h H0 od _ (Ex.refl _) _ fun H1 e1 => ?_
  have hz1 : H1 d = some (.frz od (.dK kvs)) := e1 _ _ upd_same
  refine ⟨d, od, rfl, .inl ⟨kvs, hz1, fun D nD => ?_⟩⟩
  have Dd : D ≠ d := fun z => by rw [z, hz1] at nD; cases nD
  have nD0 : H0 D = none := by
    have := fresh_back e1 nD
    rwa [upd_ne Dd] at this
  refine dc_it (walk_keys (d := d) (o := od) (kvs := kvs)) (fun i H' => Ex H1 H' ∧ ∃ kv', H' D = some (.dK kv') ∧ DRel R kf i kv' H') ⟨Ex.new nD, [], upd_same, DRel.nil⟩ (fun i H' _ p => p.1 _ _ hz1) (fun i x G H' hi p y => ?_) (fun H' p => ?_)
  · obtain ⟨rfl, kk, v, hkv, rfl⟩ := y
    obtain ⟨p1, kv', p2, p3⟩ := p
    obtain ⟨v', hkf'⟩ := hkf i hi
    have ek : kk = kf i := by
      rw [hkv] at hkf'
      exact congrArg Prod.fst (Option.some.inj hkf')
    subst ek
    refine ⟨hw _, yes_if ?_⟩
    refine ⟨_, hj _, hv i v _ hkv ⟨H0, od, e, e1.trans p1, p1 _ _ hz1⟩ _ fun u H3 e3 hu => ?_⟩
    refine ⟨kv', kf i, rfl, e3 _ _ p2, by rw [p3.1, sizeLine_eq]; omega, Ex.mut (p1.trans e3) nD, kv' ++ [(kf i, u)], ?_, ?_⟩
    · rw [upd_same, putK_new (p3.new fun a ha => hn a i ha hi)]
    · exact p3.snoc (fun i v r => hR i v _ _ D ⟨kv', od, .inl (e3 _ _ p2)⟩ (fun a o hx hh => by rw [upd_ne hx]; exact hh) (hR i v _ _ D ⟨kv', od, .inl p2⟩ (fun a o _ hh => e3 _ _ hh) r)) (hR i u _ _ D ⟨kv', od, .inl (e3 _ _ p2)⟩ (fun a o hx hh => by rw [upd_ne hx]; exact hh) hu)
  · obtain ⟨p1, kv', p2, p3⟩ := p
    refine ⟨p1 _ _ hz1, q D kv' _ nD0 (ex_thaw hd0 (e1.trans p1)) (by rw [upd_ne Dd]; exact p2) ⟨p3.1, fun i hi => ?_⟩⟩
    obtain ⟨v, a, b⟩ := p3.2 i hi
    exact ⟨v, a, hR i v _ _ d ⟨kvs, od, .inr (p1 _ _ hz1)⟩ (fun x o hx hh => by rw [upd_ne hx]; exact hh) b⟩
/-! ### a def with one default -/
section
variable (P : Program) (w : World) (K : PySem.W.Frag) (mg : Str → Option Value) (base : Heap)
def EntD (x : Str) (st : Stmt) (ps : List Str) (d : Int) : Prop := ∃ (f : Addr) (fd : FuncData) (ds : List Value), FunD K x x (defArgs st) (defBody st) (defScope st) [.int d] [] f fd ∧ mg x = some (.ref f) ∧ Binds K fd ps [] ∧ Vals [V.int d] ds ∧ Binds K fd ps ds
def CalD (CX : CXT) (k : Nat) (x : Str) (ps : List Str) (sp : Sp) (d : Int) : Prop := ∃ (f : Addr) (fd : FuncData) (ds : List Value), FnOk P w K mg base CX k f fd ps sp ∧ mg x = some (.ref f) ∧ PySem.W.keepIn K (.ref f) = true ∧ Binds K fd ps [] ∧ Vals [V.int d] ds ∧ Binds K fd ps ds
end
theorem FunD.ok0 {P : Program} {w : World} {K : PySem.W.Frag} {mg : Str → Option Value} {base : Heap} {x qual : Str} {params : Arguments} {body : List Stmt} {scope : Scope} {dvs : List V} {kws : List (Str × V)} {f : Addr} {fd : FuncData} {N ps : List Str} {k : Nat} {sp : Sp}
    (F : FunD K x qual params body scope dvs kws f fd) (S : FnScope N ps scope) (len : ∀ vs H Q E, sp vs H Q E → vs.length = ps.length)
    (hbody : ∀ (cdv : Value) (A : Around) (outer : List Env) (s : Shared) (H : Hp) (vs : List V) (Q : VK) (E : XK), Room k (A.deeper (envOfC qual scope s.heap.objs.size f cdv)) → sp vs H Q E →
      ∃ t, PSs (cxOf CX0 P w K mg base N qual scope f cdv A outer s H E).nox body t ∧ t { nx := fun _ H' => Q .non H', rt := Q } (start N vs) H) : FnOk P w K mg base CX0 (k + 1) f fd ps sp :=
  F.ok S len fun cdv A outer s H vs Q E hr h => by
    obtain ⟨t, h1, h2⟩ := hbody cdv A outer s H vs Q E hr h
    exact ⟨t, h1.nox, h2⟩
def DefAtD (K : PySem.W.Frag) (x : Str) (st : Stmt) (d : Int) : Prop := ∃ (f : Addr) (oc : Value) (od : Option Addr) (kV dc pm : Value) (an : Option Addr) (cd ct : Value) (sl : Array (Option Value)) (T : Addr) (o : Obj) (its : List Value) (n : Nat),
  PySem.W.nsIn K mainGlobals x = some (some (.ref f)) ∧ K.lookup f = some ⟨oc, od, .func (PySem.W.fnOf x x (defArgs st) (defBody st) (defScope st) (.ref T) kV dc pm an cd ct), sl⟩ ∧ PySem.W.codeIn K cd x = true ∧ PySem.W.keepIn K (.ref f) = true ∧ K.lookup T = some o ∧ o.data = .seq its.toArray n ∧ Vals [V.int d] its
theorem DefAtD.mk {K : PySem.W.Frag} {x : Str} {st : Stmt} {d : Int} {f : Addr} {oc : Value} {od : Option Addr} {kV dc pm : Value} {an : Option Addr} {cd ct : Value} {sl : Array (Option Value)} {T : Addr} {c2 : Value} {d2 : Option Addr} {u : Value} {n : Nat} {s2 : Array (Option Value)}
    (a : PySem.W.nsIn K mainGlobals x = some (some (.ref f))) (l : K.lookup f = some ⟨oc, od, .func (PySem.W.fnOf x x (defArgs st) (defBody st) (defScope st) (.ref T) kV dc pm an cd ct), sl⟩) (c : PySem.W.codeIn K cd x = true) (k : PySem.W.keepIn K (.ref f) = true)
    (l2 : K.lookup T = some ⟨c2, d2, .seq #[u] n, s2⟩) (hv : RelV (.int d) u) : DefAtD K x st d := ⟨f, oc, od, kV, dc, pm, an, cd, ct, sl, T, _, [u], n, a, l, c, k, l2, rfl, .cons hv .nil⟩
theorem DefAtD.ent {K : PySem.W.Frag} {h : Heap} {mg : Str → Option Value} {x : Str} {st : Stmt} {d : Int} {ps : List Str} {n : Nat} (D : DefAtD K x st d) (X : K.In h) (G : h.Ns mainGlobals mg) (hn : n + 1 = ps.length)
    (h1 : ∀ (T : Addr) (kV doc pm : Value) (an : Option Addr) (cdv ct : Value) (us its : List Value), us.length = n + 1 → its.length = 1 → ∃ k, bindArgs (PySem.W.fnOf x x (defArgs st) (defBody st) (defScope st) (.ref T) kV doc pm an cdv ct) ⟨us, []⟩ = seqItems? (.ref T) >>= k ∧ k (some its.toArray) = pure (ps.zip (us ++ its.drop 1)))
    (h0 : ∀ (T : Addr) (kV doc pm : Value) (an : Option Addr) (cdv ct : Value) (us its : List Value), us.length = n → its.length = 1 → ∃ k, bindArgs (PySem.W.fnOf x x (defArgs st) (defBody st) (defScope st) (.ref T) kV doc pm an cdv ct) ⟨us, []⟩ = seqItems? (.ref T) >>= k ∧ k (some its.toArray) = pure (ps.zip (us ++ its.drop 0))) : EntD K mg x st ps d := by
  obtain ⟨f, oc, od, kV, dc, pm, an, cd, ct, sl, T, o, its, m, a, l, c, k, l2, e2, v2⟩ := D
  have F : FunD K x x (defArgs st) (defBody st) (defScope st) [.int d] [] f (PySem.W.fnOf x x (defArgs st) (defBody st) (defScope st) (.ref T) kV dc pm an cd ct) :=
    ⟨⟨oc, od, _, kV, dc, pm, an, cd, ct, sl, rfl, l, c, .inr ⟨by simp, T, o, its, m, rfl, l2, e2, v2⟩, .inl rfl⟩, k⟩
  obtain ⟨d1, r1, b1⟩ := F.binds1 (ps := ps) (n + 1) 1 (by simp) (by simpa using hn) h1
  obtain ⟨d0, r0, b0⟩ := F.binds1 (ps := ps) n 0 (by simp) (by simpa using hn) h0
  cases r1
  exact ⟨f, _, d0, F, PySem.W.mg_of X G a, b1, r0, b0⟩
/-! ### what evaluates to something that R tells; two names unpacked -/
def EvR (te : TE) (σ : L2.St) (H : Hp) (R : V → Hp → Prop) : Prop := ∀ H1, Ex H H1 → ∀ Q : VK, (∀ v H2, Ex H1 H2 → R v H2 → Q v H2) → te σ H1 Q
section
variable {K : PySem.W.Frag} {σ : L2.St} {H : Hp} {td ty tx te : TE} {D : Ends} {tz : TS}
theorem ev_dget {a : Addr} {kvs : List (Key × V)} {k : Key} {v : V} (h : Ev td σ H (.ref a)) (hk : Ev ty σ H (kV k)) (ha : H a = some (.dK kvs)) (hv : valV kvs k = some v) : Ev (tDGet td ty) σ H v := fun H1 e Q q =>
  h H1 e _ fun H2 e2 => hk H2 (e.trans e2) _ fun H3 e3 => ⟨a, v, rfl, by rw [← hv]; exact DGet.k (((e.trans e2).trans e3) _ _ ha), q H3 (e2.trans e3)⟩
theorem er_dget2 {a : Addr} {kvs : List (Key × V)} {k : Key} {ds : List V} (h : Ev td σ H (.ref a)) (hk : Ev ty σ H (kV k)) (hx : EvU tx σ H ds) (ha : H a = some (.dK kvs)) :
    EvR (tDGet2 td ty tx) σ H (fun v H2 => ∃ t, H2 t = some (.tup ds) ∧ v = (valV kvs k).getD (.ref t)) := fun H1 e Q q =>
  h H1 e _ fun H2 e2 => ⟨a, rfl, .inl ⟨kvs, .inl ((e.trans e2) _ _ ha)⟩, hk H2 (e.trans e2) _ fun H3 e3 => hx H3 ((e.trans e2).trans e3) _ fun t H4 nt e4 ht => ⟨_, DGet.k ((((e.trans e2).trans e3).trans e4) _ _ ha), q _ H4 ((e2.trans e3).trans e4) ⟨t, ht, rfl⟩⟩⟩
theorem er_of {v : V} {R : V → Hp → Prop} (h : Ev te σ H v) (hr : ∀ H1, Ex H H1 → R v H1) : EvR te σ H R := fun H1 e Q q => h H1 e Q fun H2 e2 => q v H2 e2 (hr H2 (e.trans e2))
theorem s_unp2 {i j : Nat} {R : V → Hp → Prop} {x y : V} (h : EvR te σ H R) (hr : ∀ v H1, Ex H H1 → R v H1 → ∃ t, v = .ref t ∧ SqT K H1 t [x, y]) (k : ∀ H1, Ex H H1 → D.nx ((σ.set i (some x)).set j (some y)) H1) :
    tAsg te (gTup K 2 (gCons (gName i) (gCons (gName j) gNil))) D σ H := h H (Ex.refl H) _ fun v H1 e r => by
  obtain ⟨t, rfl, ht⟩ := hr v H1 e r
  exact ⟨t, _, rfl, ht, rfl, _, _, rfl, _, _, rfl, rfl, k H1 e⟩
theorem q_unp2 {i j : Nat} {R : V → Hp → Prop} {x y : V} (h : EvR te σ H R) (hr : ∀ v H1, Ex H H1 → R v H1 → ∃ t, v = .ref t ∧ SqT K H1 t [x, y]) (k : ∀ H1, Ex H H1 → tz D ((σ.set i (some x)).set j (some y)) H1) :
    tSeq (tAsg te (gTup K 2 (gCons (gName i) (gCons (gName j) gNil)))) tz D σ H := s_unp2 (D := { D with nx := tz D }) h hr k
end
end Qt
/-! Steps by what R tells; pairs of a value and a new list. -/
namespace Qt
open PySem PySem.Spec PyProof.Rows L2 Evl
section
variable {K : PySem.W.Frag} {σ : L2.St} {H : Hp} {ta tb te : TE} {D : Ends} {tz : TS}
theorem s_asgR {i : Nat} {R : V → Hp → Prop} (h : EvR te σ H R) (k : ∀ v H1, Ex H H1 → R v H1 → D.nx (σ.set i (some v)) H1) : tAsg te (gName i) D σ H := h H (Ex.refl H) _ fun v H1 e r => k v H1 e r
theorem q_asgR {i : Nat} {R : V → Hp → Prop} (h : EvR te σ H R) (k : ∀ v H1, Ex H H1 → R v H1 → tz D (σ.set i (some v)) H1) : tSeq (tAsg te (gName i)) tz D σ H := s_asgR (D := { D with nx := tz D }) h k
theorem s_retR {R : V → Hp → Prop} (h : EvR te σ H R) (k : ∀ v H1, Ex H H1 → R v H1 → D.rt v H1) : tRet te D σ H := h H (Ex.refl H) _ fun v H1 e r => k v H1 e r
/-- (value, a new list) -/
theorem er_pairL {v : V} {xs : List V} (ha : Ev ta σ H v) (hb : ∀ H1, Ex H H1 → EvL tb σ H1 xs) : EvR (tTup (tCons ta (tCons tb tNil))) σ H (fun u H1 => ∃ t L, u = .ref t ∧ H1 t = some (.tup [v, .ref L]) ∧ H1 L = some (.lst xs) ∧ t ≠ L ∧ H t = none ∧ H L = none) := fun H1 e Q q =>
  ha H1 e _ fun H2 e2 => hb H2 (e.trans e2) H2 (Ex.refl _) _ fun L H3 nL e3 hL => ⟨by show 2 ≤ sizeLine; decide, fun t nt => by
    have tL : t ≠ L := fun z => by rw [z, hL] at nt; cases nt
    exact q _ _ ((e2.trans e3).trans (Ex.new nt)) ⟨t, L, rfl, upd_same, (Ex.new nt) _ _ hL, tL, fresh_back ((e.trans e2).trans e3) nt, fresh_back (e.trans e2) nL⟩⟩
/-- a comparison of data, from what R tells of the left -/
theorem er_eqD {R : V → Hp → Prop} {y : V} {d : PyData} (ha : EvR ta σ H R) (hx : ∀ v H1, Ex H H1 → R v H1 → ∀ H2, Ex H1 H2 → Dp K H2 v d) (hb : ∀ H1, Ex H H1 → Ev tb σ H1 y) (hy : ∀ H1, Ex H H1 → Dp K H1 y d) (s : SeqAt.shaped d = true) : Ev (tOp (rEqD K) ta tb) σ H (.bl true) := fun H1 e Q q =>
  ha H1 e _ fun v H2 e2 r => hb H2 (e.trans e2) H2 (Ex.refl _) _ fun H3 e3 => eq_same (hx v H2 (e.trans e2) r H3 e3) (hy H3 ((e.trans e2).trans e3)) s (q H3 (e2.trans e3))
theorem er_neD {R : V → Hp → Prop} {y : V} {d : PyData} (ha : EvR ta σ H R) (hx : ∀ v H1, Ex H H1 → R v H1 → ∀ H2, Ex H1 H2 → Dp K H2 v d) (hb : ∀ H1, Ex H H1 → Ev tb σ H1 y) (hy : ∀ H1, Ex H H1 → Dp K H1 y d) (s : SeqAt.shaped d = true) : Ev (tOp (rNeD K) ta tb) σ H (.bl false) := fun H1 e Q q =>
  ha H1 e _ fun v H2 e2 r => hb H2 (e.trans e2) H2 (Ex.refl _) _ fun H3 e3 => ne_same (hx v H2 (e.trans e2) r H3 e3) (hy H3 ((e.trans e2).trans e3)) s (q H3 (e2.trans e3))
/-- a call whose answer R tells -/
theorem er_call {sp : Sp} {dvs vs : List V} {E : XK} {t : TA} {R : V → Hp → Prop} (ha : EvA t σ H vs) (h : ∀ H1, Ex H H1 → ∀ (Q : VK) (E : XK), (∀ v H2, Ex H1 H2 → R v H2 → Q v H2) → sp (vs ++ dvs) H1 Q E) : EvR (tCall sp dvs E t) σ H R := fun H1 e Q q =>
  ha H1 e _ fun H2 e2 => h H2 (e.trans e2) Q E fun v H3 e3 r => q v H3 (e2.trans e3) r
theorem er_imp {R S : V → Hp → Prop} (h : EvR te σ H R) (k : ∀ v H1, Ex H H1 → R v H1 → S v H1) : EvR te σ H S := fun H1 e Q q => h H1 e Q fun v H2 e2 r => q v H2 e2 (k v H2 (e.trans e2) r)
end
/-! ### texts within a list; a list's truth -/
theorem inV_strs {z : Str} {l : List Str} : inV (.str z) (l.map V.str) = decide (z ∈ l) := by
  unfold inV
  rw [List.any_map, Bool.eq_iff_iff, List.any_eq_true, decide_eq_true_iff]
  constructor
  · rintro ⟨x, hx, e⟩
    have e' : (x == z) = true := e
    rw [← beq_iff_eq.mp e']
    exact hx
  · intro h
    exact ⟨z, h, by show (z == z) = true; exact beq_self_eq_true z⟩
theorem shaped_int (i : Int) : SeqAt.shaped (.int i) = true := by
  unfold SeqAt.shaped
  show ((PyData.int i).canLay0 && decide ((PyData.int i).depth ≤ 64)) = true
  rfl
section
variable {K : PySem.W.Frag} {σ : L2.St} {H : Hp} {ta tb te : TE} {D : Ends} {tz : TS}
theorem rv_eqNil {a b : Addr} {l : List Str} (ha : SqL K H a (l.map V.str)) (hb : SqL K H b []) (hl : ∀ z ∈ l, lowS z) : RV (rEqD K) (.ref a) (.ref b) H (.bl l.isEmpty) := fun H1 e Q q =>
  ⟨.list (l.map PyData.str), .list [], .lst (ex_l e ha) (dp_texts _), .lst (ex_l e hb) .nil, shaped_texts hl, by decide +kernel, by
    have z : PyData.eqv (.list (l.map PyData.str)) (.list []) = l.isEmpty := by
      cases l with
      | nil => exact SeqAt.eqv_refl _ rfl
      | cons x r => rfl
    rw [z]
    exact q H1 (Ex.refl H1)⟩
/-- xs.extend(a new list) -/
theorem s_extL {l : Addr} {xs ys : List V} (hl : H l = some (.lst xs)) (ha : Ev ta σ H (.ref l)) (h : EvL te σ H ys) (hz : xs.length + ys.length ≤ sizeLine) (k : ∀ H1, Ex H H1 → D.nx σ (upd H1 l (.lst (xs ++ ys)))) :
    tDrop (tBM K "list" rExtend ta (tCons te tNil)) D σ H := ha H (Ex.refl H) _ fun H1 e1 =>
  ⟨Or.inl ⟨rfl, xs, sq_of (e1 l _ hl)⟩, h H1 e1 _ fun p H2 hp e2 h2 => ⟨l, p, xs, ys, rfl, rfl, e2 l _ (e1 l _ hl), h2, hz, k H2 (e1.trans e2)⟩⟩
theorem cut_but {α : Type} {xs : List V} : cutV xs none (some (-1)) = xs.dropLast := by
  unfold cutV
  rw [HT.sIx_none, List.drop_zero, Nat.sub_zero, List.dropLast_eq_take]
  congr 1
  show (if ((-1 : Int)) < 0 then ((-1 : Int) + (xs.length : Int)).toNat else min (-1 : Int).toNat xs.length) = _
  rw [if_pos (by omega)]
  omega
theorem at_last1 {ls : List V} {v : V} (h : ls ≠ []) (hv : ls[ls.length - 1]? = some v) : atI ls (-1) = some v := by
  have := List.length_pos_iff.mpr h
  unfold atI
  unfold ixN
  rw [if_neg (by omega), if_pos (by omega)]
  simp only [Option.bind_some]
  rw [← hv]
  congr 1
  omega
end
end Qt
/-! Lists of tuples of flat values. -/
namespace Qt
open PySem PySem.Spec PyProof.Rows L2 Evl
/-- at p stands a list of tuples: their contents are xss -/
def LTup (H : Hp) (p : Addr) (xss : List (List V)) : Prop := ∃ ts : List Addr, H p = some (.lst (ts.map V.ref)) ∧ Paired (fun t x => H t = some (.tup x)) ts xss
theorem pr_imp {α β : Type} {R S : α → β → Prop} : ∀ {ts : List α} {ws : List β}, Paired R ts ws → (∀ t w, t ∈ ts → R t w → S t w) → Paired S ts ws
  | _, _, .nil, _ => .nil
  | _, _, .cons h r, k => .cons (k _ _ List.mem_cons_self h) (pr_imp r fun t w ht => k t w (List.mem_cons_of_mem _ ht))
theorem pr_put {α β : Type} {R : α → β → Prop} : ∀ {ts : List α} {ws : List β} {t : α} {w : β}, Paired R ts ws → R t w → Paired R (ts ++ [t]) (ws ++ [w])
  | _, _, _, _, .nil, h => .cons h .nil
  | _, _, _, _, .cons h r, h2 => .cons h (pr_put r h2)
theorem pr_len {α β : Type} {R : α → β → Prop} : ∀ {ts : List α} {ws : List β}, Paired R ts ws → ts.length = ws.length
  | _, _, .nil => rfl
  | _, _, .cons _ r => congrArg (· + 1) (pr_len r)
theorem LTup.ex {H H1 : Hp} {p : Addr} {xss : List (List V)} (h : LTup H p xss) (e : Ex H H1) : LTup H1 p xss := by
  obtain ⟨ts, a, b⟩ := h
  exact ⟨ts, e _ _ a, pr_imp b fun t x _ q => e _ _ q⟩
theorem LTup.nil {H : Hp} {p : Addr} (h : H p = some (.lst [])) : LTup H p [] := ⟨[], h, .nil⟩
/-- one more tuple behind: t is new and the list at p was as told in the heap before -/
theorem LTup.snoc {H H1 : Hp} {p t : Addr} {xss : List (List V)} {x : List V} {ts : List Addr} (hp : H p = some (.lst (ts.map V.ref))) (hq : Paired (fun t x => H t = some (.tup x)) ts xss) (e : Ex H H1) (ht : H1 t = some (.tup x)) :
    LTup (upd H1 p (.lst (ts.map V.ref ++ [.ref t]))) p (xss ++ [x]) := by
  have hp1 := e _ _ hp
  refine ⟨ts ++ [t], by rw [upd_same, List.map_append]; rfl, pr_put (pr_imp hq fun u x _ q => ?_) ?_⟩
  · have z := e _ _ q
    rw [upd_ne (fun y => by rw [y, hp1] at z; cases z)]
    exact z
  · rw [upd_ne (fun y => by rw [y, hp1] at ht; cases ht)]
    exact ht
def datV : V → PyData
  | .int i => .int i
  | .str z => .str z
  | .bl b => .bool b
  | _ => .none
def okV : V → Prop
  | .int _ => True
  | .str z => lowS z
  | .bl _ => True
  | .non => True
  | _ => False
theorem dp_flat {K : PySem.W.Frag} {H : Hp} {v : V} (h : okV v) : Dp K H v (datV v) := by
  cases v with
  | int i => exact .int i
  | str z => exact .str z
  | bl b => exact .bl b
  | non => exact .non
  | _ => exact h.elim
theorem dp_flats {K : PySem.W.Frag} {H : Hp} : ∀ {xs : List V}, (∀ v ∈ xs, okV v) → DpAll K H xs (xs.map datV)
  | [], _ => .nil
  | v :: r, h => .cons (dp_flat (h v List.mem_cons_self)) (dp_flats fun u hu => h u (List.mem_cons_of_mem _ hu))
theorem dp_ltup0 {K : PySem.W.Frag} {H : Hp} : ∀ {ts : List Addr} {xss : List (List V)}, Paired (fun t x => H t = some (.tup x)) ts xss → (∀ x ∈ xss, ∀ v ∈ x, okV v) → DpAll K H (ts.map V.ref) (xss.map fun x => .tuple (x.map datV))
  | _, _, .nil, _ => .nil
  | _, _, .cons h r, k => .cons (.tup (st_of h) (dp_flats (k _ List.mem_cons_self))) (dp_ltup0 r fun x hx => k x (List.mem_cons_of_mem _ hx))
def dTups (xss : List (List V)) : PyData := .list (xss.map fun x => .tuple (x.map datV))
theorem dp_ltup {K : PySem.W.Frag} {H : Hp} {p : Addr} {xss : List (List V)} (h : LTup H p xss) (k : ∀ x ∈ xss, ∀ v ∈ x, okV v) : Dp K H (.ref p) (dTups xss) := by
  obtain ⟨ts, a, b⟩ := h
  exact .lst (sq_of a) (dp_ltup0 b k)
theorem lay_flat {v : V} (h : okV v) : (datV v).canLay0 = true ∧ (datV v).depth ≤ 0 := by
  cases v with
  | int i => exact ⟨rfl, Nat.le_refl _⟩
  | str z => exact ⟨strOk_low h, Nat.le_refl _⟩
  | bl b => exact ⟨rfl, Nat.le_refl _⟩
  | non => exact ⟨rfl, Nat.le_refl _⟩
  | _ => exact h.elim
theorem shaped_ltup {xss : List (List V)} (k : ∀ x ∈ xss, ∀ v ∈ x, okV v) : SeqAt.shaped (dTups xss) = true := shaped_list fun d hd => by
  obtain ⟨x, hx, rfl⟩ := List.mem_map.mp hd
  refine ⟨lay_all (ds := x.map datV) fun d hd => ?_, ?_⟩
  · obtain ⟨v, hv, rfl⟩ := List.mem_map.mp hd
    exact (lay_flat (k x hx v hv)).1
  · show PyData.depthAll (x.map datV) + 1 ≤ 10
    have := depth_all (n := 0) (ds := x.map datV) fun d hd => by
      obtain ⟨v, hv, rfl⟩ := List.mem_map.mp hd
      exact (lay_flat (k x hx v hv)).2
    omega
def EvG (te : TE) (σ : L2.St) (H : Hp) (xss : List (List V)) : Prop := ∀ H1, Ex H H1 → ∀ Q : VK, (∀ p H2, H1 p = none → Ex H1 H2 → LTup H2 p xss → Q (.ref p) H2) → te σ H1 Q
section
variable {K : PySem.W.Frag} {σ : L2.St} {H : Hp} {te1 te2 til : TE} {tt : TT} {ta : TA} {D : Ends} {tz : TS}
/-- what two fors with a test give, up to the outer turn i -/
def givenF (n2 : Nat) (f : Nat → Nat → Bool) (v : Nat → Nat → List V) (i : Nat) : List (List V) := (List.range i).flatMap fun a => ((List.range n2).filter (f a)).map (v a)
theorem givenF_succ (n2 : Nat) (f : Nat → Nat → Bool) (v : Nat → Nat → List V) (i : Nat) : givenF n2 f v (i + 1) = givenF n2 f v i ++ ((List.range n2).filter (f i)).map (v i) := by
  unfold givenF
  rw [List.range_succ, List.flatMap_append, List.flatMap_singleton]
theorem givenF_len (n2 : Nat) (f : Nat → Nat → Bool) (v : Nat → Nat → List V) (i : Nat) : (givenF n2 f v i).length ≤ i * n2 := by
  induction i with
  | zero => simp [givenF]
  | succ i ih =>
    have z := List.length_filter_le (f i) (List.range n2)
    rw [List.length_range] at z
    rw [givenF_succ, List.length_append, List.length_map, Nat.succ_mul]
    omega
/-- [(a, b) for i in range(n) for s in a text if ..] -/
theorem eg_lc2RS {n : Int} {z : Str} {j l : Nat} {vs vs1 : List Nat} (f : Nat → Nat → Bool) (v1 v2 : Nat → Nat → V) (h : EvA ta σ H [.int n]) (hn : 0 ≤ n ∧ n ≤ 1000) (hy : z.length ≤ 10)
    (hw : ∀ x, wipe ((wipe σ vs).set j (some x)) vs = wipe σ vs)
    (hw1 : ∀ x s, wipe ((wipe ((wipe σ vs).set j (some x)) vs1).set l (some s)) vs1 = wipe ((wipe σ vs).set j (some x)) vs1)
    (hi : ∀ (i : Nat) H1, Ex H H1 → (i : Int) < n → Ev til ((wipe σ vs).set j (some (.int (i : Int)))) H1 (.str z))
    (ht : ∀ (i m : Nat) H1, Ex H H1 → (i : Int) < n → m < z.length → EvT tt ((wipe ((wipe σ vs).set j (some (.int (i : Int)))) vs1).set l (some (sg z m))) H1 (f i m))
    (he1 : ∀ (i m : Nat) H1, Ex H H1 → (i : Int) < n → m < z.length → Ev te1 ((wipe ((wipe σ vs).set j (some (.int (i : Int)))) vs1).set l (some (sg z m))) H1 (v1 i m))
    (he2 : ∀ (i m : Nat) H1, Ex H H1 → (i : Int) < n → m < z.length → Ev te2 ((wipe ((wipe σ vs).set j (some (.int (i : Int)))) vs1).set l (some (sg z m))) H1 (v2 i m)) :
    EvG (tLc2 (iRng1 ta) (gName j) tYes (iStr til) (gName l) tt (tTup (tCons te1 (tCons te2 tNil))) vs vs1) σ H (givenF z.length f (fun i m => [v1 i m, v2 i m]) n.toNat) := fun H0 e Q q => h H0 e _ fun H1 e1 => ⟨n, rfl, by omega, by omega, fun Dl hD => by
  refine lc2_out (walk_range (lo := 0) (n := n.toNat)) (fun i H' => Ex H1 H' ∧ LTup H' Dl (givenF z.length f (fun i m => [v1 i m, v2 i m]) i)) ⟨Ex.new hD, LTup.nil upd_same⟩ (fun _ _ _ p => trivial) (fun i y H2 H' hlt p y' => ?_) (fun H' p => q Dl H' (fresh_back e1 hD) (e1.trans p.1) p.2)
  obtain ⟨rfl, rfl⟩ := y'
  obtain ⟨p1, p2⟩ := p
  dsimp only
  rw [Int.zero_add]
  have hi' : (i : Int) < n := by omega
  refine ⟨hw _, ?_⟩
  refine yes_if ?_
  refine hi i H1 (e.trans e1) hi' _ p1 _ fun H3 e3 => ⟨z, rfl, ?_⟩
  refine lc2_in (walk_str (z := z)) (fun m H' => Ex H1 H' ∧ LTup H' Dl (givenF z.length f (fun i m => [v1 i m, v2 i m]) i ++ ((List.range m).filter (f i)).map fun m => [v1 i m, v2 i m])) ⟨p1.trans e3, by rw [List.range_zero, List.filter_nil, List.map_nil, List.append_nil]; exact p2.ex e3⟩ (fun _ _ _ p => trivial) (fun m s H4 H5 hmlt p y2 => ?_) (fun H' p => ?_)
  · obtain ⟨rfl, c, hc, rfl⟩ := y2
    obtain ⟨g1, ts, g2, g3⟩ := p
    have hml : m < z.length := hmlt
    refine ⟨hw1 _ _, ?_⟩
    rw [sg_of hc]
    refine ht i m H1 (e.trans e1) hi' hml _ g1 _ fun H6 e6 => ?_
    cases hf : f i m with
    | true =>
      refine iteT ?_
      refine he1 i m H1 (e.trans e1) hi' hml _ (g1.trans e6) _ fun H7 e7 => he2 i m H1 (e.trans e1) hi' hml _ ((g1.trans e6).trans e7) _ fun H8 e8 => ⟨by show 2 ≤ sizeLine; decide, fun t nt => ?_⟩
      have e68 := (e6.trans e7).trans e8
      refine ⟨_, (Ex.new nt) _ _ (e68 _ _ g2), ?_, Ex.mut ((g1.trans e68).trans (Ex.new nt)) hD, ?_⟩
      · have b0 := pr_len g3
        have b1 := givenF_len z.length f (fun i m => [v1 i m, v2 i m]) i
        have b2 := List.length_filter_le (f i) (List.range m)
        rw [List.length_range] at b2
        rw [List.length_append, List.length_map] at b0
        have b3 : i * z.length ≤ 1000 * 10 := Nat.mul_le_mul (by omega) hy
        rw [List.length_map, sizeLine_eq]
        omega
      · rw [List.range_succ, List.filter_append, List.filter_cons_of_pos hf, List.map_append, ← List.append_assoc]
        exact LTup.snoc g2 g3 (e68.trans (Ex.new nt)) upd_same
    | false =>
      refine iteF ⟨g1.trans e6, ?_⟩
      rw [List.range_succ, List.filter_append, List.filter_cons_of_neg (by rw [hf]; exact Bool.false_ne_true), List.filter_nil, List.append_nil]
      exact LTup.ex ⟨ts, g2, g3⟩ e6
  · refine ⟨p.1, ?_⟩
    rw [givenF_succ]
    exact p.2⟩
theorem s_retG {te : TE} {xss : List (List V)} (h : EvG te σ H xss) (k : ∀ p H1, H p = none → Ex H H1 → LTup H1 p xss → D.rt (.ref p) H1) : tRet te D σ H := h H (Ex.refl H) _ fun p H1 np e hp => k p H1 np e hp
/-- the promise of a list of tuples -/
def RetT (xss : List (List V)) (H : Hp) (Q : VK) : Prop := ∀ p H2, H p = none → Ex H H2 → LTup H2 p xss → Q (.ref p) H2
end
end Qt
/-! min, <, sorted of data of any depth. -/
namespace Qt
open PySem PySem.Spec PyProof.Rows L2 Evl PySem.W
theorem depthAll_mem {n : Nat} : ∀ {ds : List PyData}, (∀ d ∈ ds, d.depth ≤ n) → PyData.depthAll ds ≤ n
  | [], _ => by simp [PyData.depthAll]
  | d :: r, h => by
    have h1 := h d List.mem_cons_self
    have h2 := depthAll_mem fun x hx => h x (List.mem_cons_of_mem _ hx)
    simp only [PyData.depthAll]
    omega
theorem canLay_mem {d : PyData} : ∀ {ds : List PyData}, PyData.canLayAll0 ds = true → d ∈ ds → d.canLay0 = true
  | [], _, h => nomatch h
  | e :: r, hl, h => by
    simp only [PyData.canLayAll0, Bool.and_eq_true] at hl
    rcases List.mem_cons.mp h with rfl | h
    · exact hl.1
    · exact canLay_mem hl.2 h
theorem minD_mem (d : PyData) : ∀ ds : List PyData, minD d ds ∈ d :: ds := fun ds => by
  unfold minD
  induction ds generalizing d with
  | nil => exact List.mem_cons_self
  | cons e r ih =>
    rw [List.foldl_cons]
    have z := ih (if dataLt e d = true then e else d)
    rcases List.mem_cons.mp z with z | z
    · rw [z]
      split
      · exact List.mem_cons_of_mem _ List.mem_cons_self
      · exact List.mem_cons_self
    · exact List.mem_cons_of_mem _ (List.mem_cons_of_mem _ z)
section
variable {X : Cx}
/-- min(l) of alike data: the item that stands there -/
def rMinG (K : PySem.W.Frag) : List V → Hp → VK → Prop := fun xs H Q => ∃ (a : Addr) (ys : List V) (d : PyData) (ds : List PyData), xs = [.ref a] ∧ SqL K H a ys ∧ DpAll K H ys (d :: ds) ∧ AlikeAll (d :: ds) ∧ (∀ z ∈ d :: ds, z.depth ≤ 60) ∧ PyData.canLayAll0 (d :: ds) = true ∧
  ∀ (i : Nat) (y : V), ys[i]? = some y → (d :: ds)[i]? = some (minD d ds) → Q y H
theorem cr_minG (hc : X.calm = true) (hu : X.A.units + 64 < cLine) : CallR X (.builtin "min") (rMinG X.K) := by
  intro pins s σ H xs us Q I r h
  obtain ⟨a, ys, d, ds, rfl, hs, hd, hal, hdp, hlay, q⟩ := h
  obtain ⟨u, rfl, ru⟩ := vals1 r
  obtain rfl : u = Value.ref a := ru
  obtain ⟨its, rv, hl, hz⟩ := I.list hs
  obtain ⟨as, hr⟩ := Dp.readsAll I (d :: ds) ys its hd rv
  have hdd := depthAll_mem hdp
  refine min_list_data (I.ok.hd hc) hl.isList hr hal (by omega) fun i v h' tk bs hi hm k => ?_
  have hi' : its[i]? = some v := by simpa using hi
  have hil : i < its.length := (List.getElem?_eq_some_iff.mp hi').1
  have hyl : i < ys.length := by rw [rv.length]; exact hil
  have hdl : i < (d :: ds).length := by
    have := SeqAt.ReadsAll.length (d :: ds) its as hr
    omega
  obtain ⟨u, hu1, hu2⟩ := rv.get (List.getElem?_eq_getElem hyl)
  obtain rfl : v = u := Option.some.inj (hi'.symm.trans hu1)
  refine ⟨ys[i], H, I.kept k, hu2, q i _ (List.getElem?_eq_getElem hyl) ?_⟩
  obtain ⟨cs, r1, _, mem, _⟩ := readsAll_atA (vs := its.toArray) hr i v (by simpa using hi)
  have e1 := SeqAt.readOf_eq (canLay_mem hlay mem) (reads_keeps k r1)
  have e2 := SeqAt.readOf_eq (canLay_mem hlay (minD_mem d ds)) hm
  rw [List.getElem?_eq_getElem hdl]
  rw [e2, List.getD_eq_getElem?_getD, List.getElem?_eq_getElem hdl] at e1
  exact congrArg some e1.symm
/-- x < y of alike data -/
def rLtG (K : PySem.W.Frag) : R2 := fun x y H Q => ∃ d e, Dp K H x d ∧ Dp K H y e ∧ alike d e = true ∧ d ≠ .none ∧ d.depth ≤ 60 ∧ Q (.bl (dataLt d e)) H
theorem op_ltG (hu : X.A.units + 64 < cLine) : OpR X (compareOp .Lt) (rLtG X.K) := by
  intro pins s σ H x y v u Q I rx ry h
  obtain ⟨d, e, hd, he, ha, hn, hdp, q⟩ := h
  obtain ⟨as, r1⟩ := Dp.reads I d x v hd rx
  obtain ⟨bs, r2⟩ := Dp.reads I e y u he ry
  exact lt_data r1 r2 ha hn (by have := Nat.min_le_left d.depth e.depth; omega) ⟨.bl _, H, I, rfl, q⟩
theorem each_rel {β : Type} {f : β → V} : ∀ {bs : List β} {us : List Value}, Vals (bs.map f) us → EachIs (fun v b => RelV (f b) v) us bs
  | [], _, h => by cases h; exact .nil
  | b :: r, _, h => by
    cases h with
    | cons h1 h2 => exact .cons h1 (each_rel h2)
theorem each_vals {β : Type} {f : β → V} : ∀ {bs : List β} {us : List Value}, EachIs (fun v b => RelV (f b) v) us bs → Vals (bs.map f) us
  | _, _, .nil => .nil
  | _, _, .cons h1 h2 => .cons h1 (each_vals h2)
theorem each_reads {β : Type} {h : Heap} {enc : β → PyData} : ∀ {bs : List β} {us : List Value} {as : List Addr}, ReadsAll h us (bs.map enc) as → EachIs (fun v b => ∃ as, Reads h v (enc b) as) us bs := fun r => readsAll_each enc r
/-- sorted(l) of alike data: the items, each beside its data -/
def rSortedG (K : PySem.W.Frag) : List V → Hp → VK → Prop := fun xs H Q => ∃ (a : Addr) (zs : List (PyData × V)), xs = [.ref a] ∧ SqL K H a (zs.map Prod.snd) ∧ DpAll K H (zs.map Prod.snd) (zs.map Prod.fst) ∧ AllAlike (zs.map Prod.fst) ∧ Sortable (zs.map Prod.fst) ∧ (∀ z ∈ zs, z.1.depth ≤ 60) ∧
  ∀ p, H p = none → Q (.ref p) (upd H p (.lst ((zs.mergeSort (dataLe false Prod.fst)).map Prod.snd)))
theorem cr_sortedG (hu : X.A.units + 64 < cLine) : CallR X (.builtin "sorted") (rSortedG X.K) := by
  intro pins s σ H xs us Q I r h
  obtain ⟨a, zs, rfl, hs, hd, hal, hso, hdp, q⟩ := h
  obtain ⟨u, rfl, ru⟩ := vals1 r
  obtain rfl : u = Value.ref a := ru
  obtain ⟨its, rv, hl, hz⟩ := I.list hs
  obtain ⟨as, hr⟩ := Dp.readsAll I (zs.map Prod.fst) _ its hd rv
  refine sorted_data (vs := its) (bs := zs) (enc := Prod.fst) (R := fun v z => RelV z.2 v) hl.isList (each_rel rv) (readsAll_each _ hr) hal hso (by rw [← List.length_map (f := Prod.snd)]; exact hz) (fun b hb => by have := hdp b hb; omega) fun out hlen he => ?_
  have k : ∀ b o, s.heap.get? b = some o → (sortedAll s.heap its out.toArray).get? b = some o := fun b o e => sortedAll_old e
  obtain ⟨n, hn⟩ := sortedAll_at s.heap its out.toArray
  have hv : Vals ((zs.mergeSort (dataLe false Prod.fst)).map Prod.snd) out := each_vals he
  refine ⟨.ref (s.heap.objs.size + 1), upd H (s.heap.objs.size + 1) (.lst ((zs.mergeSort (dataLe false Prod.fst)).map Prod.snd)), I.laid (a := s.heap.objs.size + 1) (o := .lst ((zs.mergeSort (dataLe false Prod.fst)).map Prod.snd)) (t' := s.toks) k (Nat.le_succ _) ⟨?_, out, n, hv, hn⟩, rfl, q _ (I.hok.fresh (Nat.le_succ _))⟩
  rw [List.length_map, List.length_mergeSort, ← List.length_map (f := Prod.snd)]
  exact hz
end
end Qt
/-! Lists of pairs, made by one for; min of them; comparing answers that both are told. -/
namespace Qt
open PySem PySem.Spec PyProof.Rows L2 Evl PySem.W
theorem pr_at {α β : Type} {R : α → β → Prop} : ∀ {ts : List α} {ws : List β} {i : Nat} {t : α} {w : β}, Paired R ts ws → ts[i]? = some t → ws[i]? = some w → R t w
  | _, _, _, _, _, .nil, h, _ => by simp at h
  | _, _, 0, _, _, .cons h _, a, b => by
    simp at a b
    rw [← a, ← b]
    exact h
  | _, _, i + 1, _, _, .cons _ r, a, b => pr_at r (by simpa using a) (by simpa using b)
section
variable {K : PySem.W.Frag} {σ : L2.St} {H : Hp} {ta tb tl te te1 te2 : TE} {t : TT} {D : Ends} {tz : TS}
theorem eg_is {xss yss : List (List V)} (h : EvG te σ H xss) (e : xss = yss) : EvG te σ H yss := e ▸ h
theorem q_asgG {i : Nat} {xss : List (List V)} (h : EvG te σ H xss) (k : ∀ p H1, H p = none → Ex H H1 → LTup H1 p xss → tz D (σ.set i (some (.ref p))) H1) : tSeq (tAsg te (gName i)) tz D σ H :=
  h H (Ex.refl H) _ fun p H1 np e hp => k p H1 np e hp
/-- [(a, b) for x in a list if ..] -/
theorem eg_lcL {a : Addr} {xs : List V} {j : Nat} {vs : List Nat} (f : Nat → Bool) (v1 v2 : Nat → V) (h : Ev tl σ H (.ref a)) (hx : SqL K H a xs) (hz : xs.length ≤ 40000) (hw : ∀ x, wipe ((wipe σ vs).set j (some x)) vs = wipe σ vs)
    (ht : ∀ (i : Nat) (x : V) H1, Ex H H1 → xs[i]? = some x → EvT t ((wipe σ vs).set j (some x)) H1 (f i))
    (he1 : ∀ (i : Nat) (x : V) H1, Ex H H1 → xs[i]? = some x → Ev te1 ((wipe σ vs).set j (some x)) H1 (v1 i))
    (he2 : ∀ (i : Nat) (x : V) H1, Ex H H1 → xs[i]? = some x → Ev te2 ((wipe σ vs).set j (some x)) H1 (v2 i)) :
    EvG (tLc (iList K tl) (gName j) t (tTup (tCons te1 (tCons te2 tNil))) vs) σ H (((List.range xs.length).filter f).map fun i => [v1 i, v2 i]) := fun H0 e Q q => h H0 e _ fun H1 e1 => ⟨a, rfl, ⟨xs, ex_l (e.trans e1) hx⟩, fun Dl hD => by
  refine lc_list (xs := xs) (fun i H' => Ex H1 H' ∧ LTup H' Dl (((List.range i).filter f).map fun i => [v1 i, v2 i])) ⟨Ex.new hD, LTup.nil upd_same⟩ (fun i H' _ p => ex_l ((e.trans e1).trans p.1) hx) (fun i x H2 hi p => ⟨hw x, ?_⟩) (fun H' p => q Dl H' (fresh_back e1 hD) (e1.trans p.1) p.2)
  obtain ⟨g1, ts, g2, g3⟩ := p
  have hil := (List.getElem?_eq_some_iff.mp hi).1
  refine ht i x H1 (e.trans e1) hi _ g1 _ fun H6 e6 => ?_
  cases hf : f i with
  | true =>
    refine iteT ?_
    refine he1 i x H1 (e.trans e1) hi _ (g1.trans e6) _ fun H7 e7 => he2 i x H1 (e.trans e1) hi _ ((g1.trans e6).trans e7) _ fun H8 e8 => ⟨by show 2 ≤ sizeLine; decide, fun p np => ?_⟩
    have e68 := (e6.trans e7).trans e8
    refine ⟨_, (Ex.new np) _ _ (e68 _ _ g2), ?_, Ex.mut ((g1.trans e68).trans (Ex.new np)) hD, ?_⟩
    · have b0 := pr_len g3
      have b2 := List.length_filter_le f (List.range i)
      rw [List.length_range] at b2
      rw [List.length_map] at b0
      rw [List.length_map, sizeLine_eq]
      omega
    · rw [List.range_succ, List.filter_append, List.filter_cons_of_pos hf, List.map_append]
      exact LTup.snoc g2 g3 (e68.trans (Ex.new np)) upd_same
  | false =>
    refine iteF ⟨g1.trans e6, ?_⟩
    rw [List.range_succ, List.filter_append, List.filter_cons_of_neg (by rw [hf]; exact Bool.false_ne_true), List.filter_nil, List.append_nil]
    exact LTup.ex ⟨ts, g2, g3⟩ e6⟩
theorem rv_neNilG {a b : Addr} {xss : List (List V)} (ha : LTup H a xss) (hb : SqL K H b []) (k : ∀ x ∈ xss, ∀ v ∈ x, okV v) : RV (rNeD K) (.ref a) (.ref b) H (.bl (!xss.isEmpty)) := fun H1 e Q q =>
  ⟨dTups xss, .list [], dp_ltup (ha.ex e) k, .lst (ex_l e hb) .nil, shaped_ltup k, by decide +kernel, by
    have z : PyData.eqv (dTups xss) (.list []) = xss.isEmpty := by
      cases xss with
      | nil => exact SeqAt.eqv_refl _ rfl
      | cons x r => rfl
    rw [z]
    exact q H1 (Ex.refl H1)⟩
theorem er_neDD {R R2 : V → Hp → Prop} {d : PyData} (ha : EvR ta σ H R) (hx : ∀ v H1, Ex H H1 → R v H1 → ∀ H2, Ex H1 H2 → Dp K H2 v d) (hb : ∀ H1, Ex H H1 → EvR tb σ H1 R2) (hy : ∀ v H1, Ex H H1 → R2 v H1 → Dp K H1 v d) (s : SeqAt.shaped d = true) : Ev (tOp (rNeD K) ta tb) σ H (.bl false) := fun H1 e Q q =>
  ha H1 e _ fun v H2 e2 r => hb H2 (e.trans e2) H2 (Ex.refl _) _ fun y H3 e3 r3 => ne_same (hx v H2 (e.trans e2) r H3 e3) (hy y H3 ((e.trans e2).trans e3) r3) s (q H3 (e2.trans e3))
theorem er_if {b : Bool} {R : V → Hp → Prop} (h : EvT t σ H b) (h1 : b = true → EvR ta σ H R) (h2 : b = false → EvR tb σ H R) : EvR (tIf t ta tb) σ H R := fun H1 e Q q => h H1 e _ fun H2 e2 => by
  cases b with
  | true => exact iteT (h1 rfl H2 (e.trans e2) Q fun v H3 e3 => q v H3 (e2.trans e3))
  | false => exact iteF (h2 rfl H2 (e.trans e2) Q fun v H3 e3 => q v H3 (e2.trans e3))
theorem minD_is {x0 : PyData} : ∀ (ds : List PyData) (d : PyData), x0 ∈ d :: ds → (∀ e ∈ d :: ds, e = x0 ∨ (dataLt x0 e = true ∧ dataLt e x0 = false)) → minD d ds = x0
  | [], d, hm, _ => by
    have : x0 = d := by simpa using hm
    rw [this]
    rfl
  | e :: ds, d, hm, h => by
    show minD (if dataLt e d = true then e else d) ds = x0
    have hd := h d List.mem_cons_self
    have he := h e (List.mem_cons_of_mem _ List.mem_cons_self)
    have hr : ∀ y ∈ ds, y = x0 ∨ (dataLt x0 y = true ∧ dataLt y x0 = false) := fun y hy => h y (List.mem_cons_of_mem _ (List.mem_cons_of_mem _ hy))
    refine minD_is ds _ ?_ fun y hy => ?_
    · rcases List.mem_cons.mp hm with q | q
      · subst q
        rcases he with q | q
        · rw [q, ite_self]; exact List.mem_cons_self
        · rw [q.2, if_neg Bool.false_ne_true]; exact List.mem_cons_self
      · rcases List.mem_cons.mp q with q | q
        · subst q
          rcases hd with q | q
          · rw [q, ite_self]; exact List.mem_cons_self
          · rw [q.1, if_pos rfl]; exact List.mem_cons_self
        · exact List.mem_cons_of_mem _ q
    · rcases List.mem_cons.mp hy with q | q
      · rw [q]
        split
        · exact he
        · exact hd
      · exact hr y q
/-- min of a list of pairs: the one that is x0 -/
theorem er_minG {a : Addr} {xss : List (List V)} {x0 : List V} {ta : TA} (h : EvA ta σ H [.ref a]) (ha : LTup H a xss) (k : ∀ x ∈ xss, ∀ v ∈ x, okV v) (al : ∀ x ∈ xss, ∀ y ∈ xss, alikeAll (x.map datV) (y.map datV) = true) (hm : x0 ∈ xss) (inj : ∀ x ∈ xss, x.map datV = x0.map datV → x = x0)
    (lt : ∀ x ∈ xss, x = x0 ∨ (dataLt (.tuple (x0.map datV)) (.tuple (x.map datV)) = true ∧ dataLt (.tuple (x.map datV)) (.tuple (x0.map datV)) = false)) : EvR (tCB (rMinG K) ta) σ H (fun v G => ∃ p, v = .ref p ∧ G p = some (.tup x0)) := fun H1 e Q q => by
  refine h H1 e _ fun H2 e2 => ?_
  have ha2 := ha.ex (e.trans e2)
  cases xss with
  | nil => cases hm
  | cons y0 yss =>
    obtain ⟨ts, hl, hp⟩ := ha2
    have hdp := dp_ltup0 (K := K) hp k
    refine ⟨a, ts.map V.ref, .tuple (y0.map datV), List.map (fun x : List V => PyData.tuple (List.map datV x)) yss, rfl, sq_of hl, hdp, ⟨fun u hu v hv => ?_, fun u hu => ?_⟩, fun u hu => ?_, ?_, fun i y hy hd => ?_⟩
    · obtain ⟨x, hx, rfl⟩ := List.mem_map.mp (show u ∈ (y0 :: yss).map fun x => PyData.tuple (x.map datV) from hu)
      obtain ⟨z, hz, rfl⟩ := List.mem_map.mp (show v ∈ (y0 :: yss).map fun x => PyData.tuple (x.map datV) from hv)
      simp only [alike]
      exact al x hx z hz
    · obtain ⟨x, hx, rfl⟩ := List.mem_map.mp (show u ∈ (y0 :: yss).map fun x => PyData.tuple (x.map datV) from hu)
      exact fun z => by cases z
    · obtain ⟨x, hx, rfl⟩ := List.mem_map.mp (show u ∈ (y0 :: yss).map fun x => PyData.tuple (x.map datV) from hu)
      show PyData.depthAll (x.map datV) + 1 ≤ 60
      have := depth_all (n := 0) (ds := x.map datV) fun d hd => by
        obtain ⟨v, hv, rfl⟩ := List.mem_map.mp hd
        exact (lay_flat (k x hx v hv)).2
      omega
    · refine lay_all (ds := (y0 :: yss).map fun x => PyData.tuple (x.map datV)) fun d hd => ?_
      obtain ⟨x, hx, rfl⟩ := List.mem_map.mp hd
      exact lay_all (ds := x.map datV) fun d hd => by
        obtain ⟨v, hv, rfl⟩ := List.mem_map.mp hd
        exact (lay_flat (k x hx v hv)).1
    · have mn : minD (.tuple (y0.map datV)) (yss.map fun x => .tuple (x.map datV)) = .tuple (x0.map datV) := by
        refine minD_is _ _ (List.mem_map.mpr ⟨x0, hm, rfl⟩ : PyData.tuple (x0.map datV) ∈ (y0 :: yss).map fun x => PyData.tuple (x.map datV)) fun u hu => ?_
        obtain ⟨x, hx, rfl⟩ := List.mem_map.mp (show u ∈ (y0 :: yss).map fun x => PyData.tuple (x.map datV) from hu)
        rcases lt x hx with q | q
        · exact .inl (by rw [q])
        · exact .inr q
      rw [mn] at hd
      rw [List.getElem?_map] at hy
      obtain ⟨t, ht, rfl⟩ := Option.map_eq_some_iff.mp hy
      have hd' : ((y0 :: yss).map fun x => PyData.tuple (x.map datV))[i]? = some (PyData.tuple (x0.map datV)) := hd
      rw [List.getElem?_map] at hd'
      obtain ⟨x, hx, e3⟩ := Option.map_eq_some_iff.mp hd'
      injection e3 with e3
      obtain rfl := inj x (List.mem_of_getElem? hx) e3
      exact q _ H2 e2 ⟨t, rfl, pr_at (R := fun t x => H2 t = some (.tup x)) hp ht hx⟩
end
end Qt
/-! Counting down; min of a new list of texts. -/
namespace Qt
open PySem PySem.Spec PyProof.Rows L2 Evl PySem.W
section
variable {K : PySem.W.Frag} {σ : L2.St} {H : Hp} {te : TE} {ta : TA} {tu tz : TS} {D : Ends}
/-- for j in range(hi, lo, -1) -/
theorem s_forDn {j : Nat} {hi lo : Int} (h : EvA ta σ H [.int hi, .int lo, .int (-1)]) (hn : -100000 ≤ lo ∧ lo ≤ 100000 ∧ -100000 ≤ hi ∧ hi ≤ 100000) (Pv : Nat → L2.St → Hp → Prop) (h0 : ∀ H1, Ex H H1 → Pv 0 σ H1)
    (hs : ∀ (i : Nat) σ' H', lo < hi - (i : Int) → Pv i σ' H' → tu { D with nx := Pv (i + 1), ct := Pv (i + 1), bk := D.nx } (σ'.set j (some (.int (hi - (i : Int))))) H') (hd : ∀ σ' H', Pv (hi - lo).toNat σ' H' → D.nx σ' H') : tFor (iRng3 ta) (gName j) tu D σ H :=
  h H (Ex.refl H) _ fun H1 e => ⟨hi, lo, -1, (hi - lo).toNat, rfl, RgC.neg (by omega) (by omega) (by omega) (by omega), for_it (walk_rangeC (lo := hi) (c := -1) (n := (hi - lo).toNat)) Pv (h0 H1 e) (fun _ _ _ _ _ => trivial) (fun i x σ' H2 H3 hi' p y => by
    obtain ⟨rfl, rfl⟩ := y
    have := hs i σ' _ (by omega) p
    dsimp only
    rw [show hi + (i : Int) * (-1) = hi - (i : Int) by omega]
    exact this) hd⟩
theorem q_forDn {j : Nat} {hi lo : Int} (h : EvA ta σ H [.int hi, .int lo, .int (-1)]) (hn : -100000 ≤ lo ∧ lo ≤ 100000 ∧ -100000 ≤ hi ∧ hi ≤ 100000) (Pv : Nat → L2.St → Hp → Prop) (h0 : ∀ H1, Ex H H1 → Pv 0 σ H1)
    (hs : ∀ (i : Nat) σ' H', lo < hi - (i : Int) → Pv i σ' H' → tu { D with nx := Pv (i + 1), ct := Pv (i + 1), bk := tz D } (σ'.set j (some (.int (hi - (i : Int))))) H') (hd : ∀ σ' H', Pv (hi - lo).toNat σ' H' → tz D σ' H') : tSeq (tFor (iRng3 ta) (gName j) tu) tz D σ H :=
  s_forDn (D := { D with nx := tz D }) h hn Pv h0 hs hd
end
/-- the least of some texts, as lists of numbers -/
def minL : List (List Nat) → List Nat
  | [] => []
  | x :: xs => xs.foldl (fun a y => if y < a then y else a) x
theorem minL_is {x0 : List Nat} : ∀ (ds : List (List Nat)) (d : List Nat), x0 ∈ d :: ds → (∀ e ∈ d :: ds, e = x0 ∨ x0 < e) → minL (d :: ds) = x0
  | [], d, hm, _ => by
    have : x0 = d := by simpa using hm
    rw [this]
    rfl
  | e :: ds, d, hm, h => by
    show minL ((if e < d then e else d) :: ds) = x0
    have hd := h d List.mem_cons_self
    have he := h e (List.mem_cons_of_mem _ List.mem_cons_self)
    have hr : ∀ y ∈ ds, y = x0 ∨ x0 < y := fun y hy => h y (List.mem_cons_of_mem _ (List.mem_cons_of_mem _ hy))
    refine minL_is ds _ ?_ fun y hy => ?_
    · rcases List.mem_cons.mp hm with q | q
      · subst q
        rcases he with q | q
        · rw [q, ite_self]; exact List.mem_cons_self
        · rw [if_neg fun z => List.lt_irrefl _ (List.lt_trans q z)]; exact List.mem_cons_self
      · rcases List.mem_cons.mp q with q | q
        · subst q
          rcases hd with q | q
          · rw [q, ite_self]; exact List.mem_cons_self
          · rw [if_pos q]; exact List.mem_cons_self
        · exact List.mem_cons_of_mem _ q
    · rcases List.mem_cons.mp hy with q | q
      · rw [q]
        split
        · exact he
        · exact hd
      · exact hr y q
theorem minD_txt : ∀ (xs : List (List Nat)) (x : List Nat), minD (.str (txt x)) (xs.map fun u => PyData.str (txt u)) = .str (txt (minL (x :: xs)))
  | [], x => rfl
  | y :: xs, x => by
    show minD (if dataLt (.str (txt y)) (.str (txt x)) = true then .str (txt y) else .str (txt x)) (xs.map fun u => PyData.str (txt u)) = .str (txt (minL ((if y < x then y else x) :: xs)))
    rw [dataLt_str, txt_l, txt_l]
    by_cases h : y < x
    · rw [decide_eq_true h, if_pos rfl, if_pos h]
      exact minD_txt xs y
    · rw [decide_eq_false h, if_neg Bool.false_ne_true, if_neg h]
      exact minD_txt xs x
theorem ev_minS {K : PySem.W.Frag} {σ : L2.St} {H : Hp} {te : TE} {l : List (List Nat)} (hne : l ≠ []) (low : ∀ u ∈ l, lowS (txt u)) (h : EvL te σ H (l.map fun u => V.str (txt u))) : Ev (tCB (rMinG K) (tCons te tNil)) σ H (.str (txt (minL l))) := fun H1 e Q q =>
  h H1 e _ fun p H2 np e2 hp => by
  cases l with
  | nil => exact absurd rfl hne
  | cons x xs =>
    have lay : ∀ u ∈ x :: xs, PyData.canLay0 (.str (txt u)) = true := fun u hu => strOk_low (low u hu)
    refine ⟨p, (x :: xs).map fun u => V.str (txt u), .str (txt x), xs.map fun u => PyData.str (txt u), rfl, sq_of hp, ?_, ⟨fun a ha b hb => ?_, fun a ha => ?_⟩, fun a ha => ?_, ?_, fun i y hy hd => ?_⟩
    · have z : ∀ l : List (List Nat), DpAll K H2 (l.map fun u => V.str (txt u)) (l.map fun u => PyData.str (txt u)) := fun l => by
        induction l with
        | nil => exact .nil
        | cons a r ih => exact .cons (.str _) ih
      exact z (x :: xs)
    · obtain ⟨u, _, rfl⟩ := List.mem_map.mp (show a ∈ (x :: xs).map fun u => PyData.str (txt u) from ha)
      obtain ⟨v, _, rfl⟩ := List.mem_map.mp (show b ∈ (x :: xs).map fun u => PyData.str (txt u) from hb)
      simp only [alike]
    · obtain ⟨u, _, rfl⟩ := List.mem_map.mp (show a ∈ (x :: xs).map fun u => PyData.str (txt u) from ha)
      exact fun z => by cases z
    · obtain ⟨u, _, rfl⟩ := List.mem_map.mp (show a ∈ (x :: xs).map fun u => PyData.str (txt u) from ha)
      exact Nat.zero_le _
    · refine lay_all (ds := (x :: xs).map fun u => PyData.str (txt u)) fun d hd => ?_
      obtain ⟨u, hu, rfl⟩ := List.mem_map.mp hd
      exact lay u hu
    · rw [minD_txt] at hd
      have hd' : ((x :: xs).map fun u => PyData.str (txt u))[i]? = some (PyData.str (txt (minL (x :: xs)))) := hd
      rw [List.getElem?_map] at hd' hy
      obtain ⟨u, hu, e3⟩ := Option.map_eq_some_iff.mp hd'
      rw [hu] at hy
      injection e3 with e3
      have e4 : V.str (txt u) = y := Option.some.inj hy
      rw [← e4, e3]
      exact q H2 e2
end Qt
/-! text[::-1]; text.find(sign); text.index(sign). -/
namespace Qt
open PySem PySem.Spec PyProof.Rows L2 Evl
section
variable {X : Cx}
def revT (z : Str) : Str := ⟨z.cps.toList.reverse.toArray⟩
def tRevS (te : TE) : TE := fun σ H Q => te σ H fun x H1 => ∃ z : Str, x = .str z ∧ z.length ≤ sizeLine ∧ Q (.str (revT z)) H1
theorem rev_list (x : Str) (u : Tok) : PySem.sliceMade x u none none (some ((-1 : Int), u)) = .str (revT x) := by
  have h1 : ¬ (((((some ((-1 : Int), u)).map (·.1)).getD 1 == 1) && (slicePicked x none none (some ((-1 : Int), u))).length == x.length) = true) := by
    have : ((((some ((-1 : Int), u)).map (·.1)).getD 1 == 1)) = false := rfl
    rw [this]
    simp
  unfold sliceMade
  rw [if_neg h1]
  congr 1
  unfold revT
  congr 2
  show (Builtin.Str.strSliceIndices none none (-1) x.length).filterMap (x.cps[·]?) = _
  rw [picked_rev, PySem.W.krv_range, List.filterMap_reverse]
  congr 1
  exact PySem.W.krv_all x.cps
theorem made_rev (x : Str) (t u : Tok) : PySem.sliceMade x t none none (some ((-1 : Int), u)) = .str (revT x) := rev_list x u
theorem pe_revS {e : Expr} {te : TE} {k : Nat} {p1 p2 p3 pos : Pos} (he : PE X e te) : PE X (.Subscript e (.Slice none none (some (.UnaryOp .USub (.Constant (.int 1) k p1) p2)) p3) pos) (tRevS te) := by
  refine ⟨fun pins s σ H Q I h => ?_⟩
  refine Subscript_ (thn (he.run pins s σ H _ I h) fun v s1 ⟨x, H1, I1, r1, q1⟩ => ?_)
  obtain ⟨z, ex, hz, q⟩ := q1
  subst ex
  obtain ⟨t, rfl⟩ := r1
  have hst : PO X (some (.UnaryOp .USub (.Constant (.int 1) k p1) p2)) (tPart (tUn (rU fun i => .int (-i)) (tC (.int 1)))) := po_some (pe_un un_neg pe_int)
  refine wpAny_Slice (thn (po_none.run pins s1 σ H1 (fun o H2 => o = none ∧ H2 = H1) I1 ⟨rfl, rfl⟩) fun vl s2 ⟨l, H2, I2, pl, el, e2⟩ => ?_)
  subst el e2
  refine thn (po_none.run pins s2 σ H2 (fun o H3 => o = none ∧ H3 = H2) I2 ⟨rfl, rfl⟩) fun vu s3 ⟨u, H3, I3, pu, eu, e3⟩ => ?_
  subst eu e3
  refine thn (hst.run pins s3 σ H3 (fun o H4 => o = some (-1) ∧ H4 = H3) I3 ⟨1, rfl, -1, rfl, rfl, rfl⟩) fun vs s4 ⟨o, H4, I4, ps, eo, e4⟩ => ?_
  subst eo e4
  have I5 : Inv X pins σ H4 { s4 with heap := s4.heap.push { cls := .type "slice", data := .fields #[vl, vu, vs] } } := I4.kept (t' := s4.toks) fun b ob q => Heap.get?_push_of_some _ q
  obtain ⟨l1, rfl, e5⟩ := IsPart.raw pl
  obtain ⟨l2, rfl, e6⟩ := IsPart.raw pu
  obtain ⟨l3, rfl, e7⟩ := IsPart.raw ps
  show wpAny (model X.prog X.w) X.A (subscriptTail e (.Slice none none (some (.UnaryOp .USub (.Constant (.int 1) k p1) p2)) p3) (.str z t) (.ref s4.heap.objs.size)) (EP X pins σ Q) X.xe { s4 with heap := s4.heap.push { cls := .type "slice", data := .fields #[partValue l1, partValue l2, partValue l3] } }
  refine tail_any (ops := [.str z t, .ref s4.heap.objs.size]) (typeIs_str _ _ _) (PySem.F.slot_str_getitem.lookup) ?_ (by with_unfolding_all rfl)
  have h3 : ((l3.map (·.1)).getD 1 == 0) = false := by rw [e7]; rfl
  refine wpAny_getItem_str_slice (l := l1) (u := l2) (st := l3) ⟨_, Heap.get?_push_size _ rfl, rfl, rfl⟩ h3 ?_
  cases l1 with
  | some y => cases e5
  | none =>
    cases l2 with
    | some y => cases e6
    | none =>
      cases l3 with
      | none => cases e7
      | some y =>
        obtain ⟨i, w⟩ := y
        have hi : i = -1 := by
          have : some i = some (-1 : Int) := e7
          injection this with this
        subst hi
        rw [made_rev]
        refine ⟨?_, .str _, H4, I5.tok _, ⟨_, rfl⟩, q⟩
        show z.cps.toList.reverse.toArray.size ≤ sizeLine
        rw [List.size_toArray, List.length_reverse, Array.length_toList]
        exact hz
end
end Qt
/-! sorted(set(xs)) of a list of texts. -/
namespace Qt
open PySem PySem.Spec PyProof.Rows L2 Evl PySem.W
def txtOf (e : Int × Value) : Str := match e.2 with
  | .str k _ => k
  | _ => PySem.Str.empty
def OkT (P : Program) (w : World) (e : Int × Value) : Prop := ∃ k t, e.2 = Value.str k t ∧ e.1 = (PySem.strKind P w).hash k
/-- the set of texts at a: M its members; its table can be walked -/
def SetT (P : Program) (w : World) (h : Heap) (a : Addr) (M : Str → Bool) : Prop :=
  ∃ ob xs ep tb, h.get? a = some ob ∧ ob.ExactSet ∧ ob.data = .set xs ep tb ∧ (∀ x ∈ xs.toList, OkT P w x) ∧ (xs.toList.map txtOf).Nodup ∧ (∀ k, M k = true ↔ k ∈ xs.toList.map txtOf) ∧
    xs.size < scanBound ∧ tb.fits xs.size = true ∧ Ris tb.place.toList ∧ (w.params.followText "set-order" = true ∨ tb.led = true)
section
variable {P : Program} {w : World} {A : Around} {E : Value → Shared → Prop} {s : Shared} {a : Addr} {M : Str → Bool}
theorem okT_elems {l : List (Int × Value)} (g : ∀ x ∈ l, OkT P w x) : ElemsOf (PySem.strKind P w) l := fun x hx => by
  obtain ⟨k, t, e1, e2⟩ := g x hx
  exact ⟨⟨k, by rw [e1]; exact strKind_is _ _ _ _, e2⟩, by rw [e1] <;> rfl⟩
theorem okT_is {x : Int × Value} (g : OkT P w x) (k : Str) : (PySem.strKind P w).is k x.2 = true ↔ txtOf x = k := by
  obtain ⟨k0, t, e1, _⟩ := g
  unfold txtOf
  rw [e1]
  constructor
  · intro h
    obtain ⟨u, hu⟩ := Value.isStrOf_shape (show Value.isStrOf k (.str k0 t) = true from h)
    injection hu
  · intro h
    show Value.isStrOf k (.str k0 t) = true
    rw [← h]
    exact strKind_is P w k0 t
theorem okT_mem {l : List (Int × Value)} (g : ∀ x ∈ l, OkT P w x) (k : Str) : k ∈ l.map txtOf ↔ ∃ x ∈ l, (PySem.strKind P w).is k x.2 = true :=
  ⟨fun h => by
    obtain ⟨x, hx, e⟩ := List.mem_map.mp h
    exact ⟨x, hx, (okT_is (g x hx) k).mpr e⟩, fun ⟨x, hx, e⟩ => List.mem_map.mpr ⟨x, hx, (okT_is (g x hx) k).mp e⟩⟩
/-- the new table, stored; made wider where it is too full -/
theorem setT_stored {gv : Bool → Sem Unit} (hgv : ∀ (b : Bool) (s₁ : Shared) (Q' : Unit → Shared → Prop), Q' () s₁ → wpAny (model P w) A (gv b) Q' E s₁)
    {ob : Obj} {xs xs1 : Array (Int × Value)} {ep : Nat} {tb tb2 : SetTable} {M' : Str → Bool} (h0 : s.heap.get? a = some ob) (hex : ob.ExactSet) (hd : ob.data = .set xs ep tb)
    (g1 : ∀ x ∈ xs1.toList, OkT P w x) (nd1 : (xs1.toList.map txtOf).Nodup) (m1 : ∀ k, M' k = true ↔ k ∈ xs1.toList.map txtOf) (hb1 : xs1.size < scanBound) (hf2 : tb2.fits xs1.size = true) (hr : Ris tb2.place.toList)
    (hl : w.params.followText "set-order" = true ∨ tb2.led = true) {dm : Bool} {R : Option Bool → Shared → Prop} (hR : ∀ h', Heap.SameBut a s.heap h' → SetT P w h' a M' → R (some true) { s with heap := h' }) :
    wpAny (model P w) A (do
        storeSet a xs1 tb2
        if (!dm && tb2.tooFull) = true then do
            gv (relayAll tb2 xs1 (SetTable.grown xs1.size)).2.2
            storeSet a (relayAll tb2 xs1 (SetTable.grown xs1.size)).1 (relayAll tb2 xs1 (SetTable.grown xs1.size)).2.1
            pure (some true)
          else pure (some true)) R E s := by
  refine wpAny_bind (wpAny_storeSet_of h0 hd ?_ (fits_of_scanBound hb1))
  have k1 := store_at (es' := xs1) (t' := tb2) h0 hd
  have same := Heap.SameBut.update s.heap a (Obj.putSet xs1 tb2)
  split
  · have p1 := relayAll_perm tb2 xs1 (SetTable.grown xs1.size)
    have p2 := relayAll_fits tb2 xs1 (SetTable.grown xs1.size)
    have p3 := relayAll_ris tb2 xs1 (SetTable.grown xs1.size)
    have p4 := relayAll_led tb2 xs1 (SetTable.grown xs1.size)
    generalize relayAll tb2 xs1 (SetTable.grown xs1.size) = Y at p1 p2 p3 p4 ⊢
    obtain ⟨xs2, tb3, ga⟩ := Y
    dsimp only at p1 p2 p3 p4 ⊢
    have sz2 : xs2.size = xs1.size := by rw [← Array.length_toList, p1.length_eq, Array.length_toList]
    refine wpAny_bind (hgv _ _ _ ?_)
    refine wpAny_bind (wpAny_storeSet_of k1 rfl ?_ (fits_of_scanBound (by rw [sz2]; exact hb1)))
    have k2 := store_at (es' := xs2) (t' := tb3) k1 rfl
    refine wpAny_pure (hR _ (same.trans (Heap.SameBut.update _ a _)) ?_)
    refine ⟨_, xs2, _, tb3, k2, hex, rfl, fun x hx => g1 x (p1.mem_iff.mp hx), (p1.map txtOf).nodup_iff.mpr nd1, fun k => (m1 k).trans (p1.map txtOf).mem_iff.symm, by rw [sz2]; exact hb1, by rw [sz2]; rw [sz2] at p2; exact p2, p3, hl.imp id fun z => ?_⟩
    rw [p4]
    exact z
  · exact wpAny_pure (hR _ same ⟨_, xs1, _, tb2, k1, hex, rfl, g1, nd1, m1, hb1, hf2, hr, hl⟩)
theorem setT_add {z : Str} {t : Tok} {Q : Bool → Shared → Prop} (R : SetT P w s.heap a M) (room : ∀ ob xs ep tb, s.heap.get? a = some ob → ob.data = .set xs ep tb → xs.size + 1 < scanBound)
    (hQ : ∀ h' b, Heap.SameBut a s.heap h' → SetT P w h' a (fun j => M j || decide (j = z)) → Q b { s with heap := h' }) : wpAny (model P w) A (setAddHashed a (.str z t) ((PySem.strKind P w).hash z)) Q E s := by
  obtain ⟨ob, xs, ep, tb, h0, hex, hd, g, nd, hm, hb, hf, hr, hl⟩ := R
  have room1 := room ob xs ep tb h0 hd
  have isz : (PySem.strKind P w).is z (.str z t) = true := strKind_is P w z t
  have scz : (Value.str z t).scannable = true := rfl
  have els := okT_elems g
  unfold setAddHashed setAddHashedIn
  refine wpAny_holding (wpAny_bind (wpAny_setState_of h0 hd hf ?_))
  dsimp only
  rw [byScan_of scz hb els]
  simp only [↓reduceIte]
  unfold setAddByScan
  refine wpAny_bind ?_
  refine wpAny_bind (wpAny_rule ?_)
  refine wpAny_bind (wpAny_setScan_of isz h0 hd hf els ?_)
  cases sc : List.findIdx? (fun x => (PySem.strKind P w).is z x.2) xs.toList with
  | some j =>
    dsimp only
    obtain ⟨hj, pj, _⟩ := List.findIdx?_eq_some_iff_getElem.mp sc
    have inM : M z = true := (hm z).2 ((okT_mem g z).2 ⟨xs.toList[j], List.getElem_mem hj, pj⟩)
    refine wpAny_pure (wpAny_pure (hQ s.heap _ (Heap.SameBut.refl a s.heap) ⟨ob, xs, ep, tb, h0, hex, hd, g, nd, fun i => ?_, hb, hf, hr, hl⟩))
    rw [Bool.or_eq_true, decide_eq_true_eq, ← hm i]
    exact ⟨fun c => c.elim id (fun e => e ▸ inM), .inl⟩
  | none =>
    dsimp only
    have notin : z ∉ xs.toList.map txtOf := fun c => by
      obtain ⟨x, hx, e⟩ := (okT_mem g z).1 c
      have d := List.findIdx?_eq_none_iff.mp sc x hx
      rw [e] at d
      cases d
    have told : ∀ (b : Bool) {s₁ : Shared} {Q' : Unit → Shared → Prop}, Q' () s₁ → wpAny (model P w) A (match b with | true => rule "set.scan.the-table-gave-way" | false => pure ()) Q' E s₁ :=
      fun b s₁ Q' c => by cases b <;> first | exact wpAny_pure c | exact wpAny_rule c
    have q1 := layNew_perm tb xs ((PySem.strKind P w).hash z) (.str z t)
    have q2 := layNew_fits tb xs ((PySem.strKind P w).hash z) (.str z t)
    have q3 := layNew_ris tb xs ((PySem.strKind P w).hash z) (.str z t) hr
    have q4 := layNew_led tb xs ((PySem.strKind P w).hash z) (.str z t)
    generalize layNew tb xs ((PySem.strKind P w).hash z) (.str z t) = Y at q1 q2 q3 q4 ⊢
    obtain ⟨xs1, tb1, dm, ga⟩ := Y
    dsimp only at q1 q2 q3 q4 ⊢
    rw [Array.toList_push] at q1
    have qc : xs1.toList.Perm (((PySem.strKind P w).hash z, Value.str z t) :: xs.toList) := q1.trans (List.perm_append_singleton _ _)
    have qk : (xs1.toList.map txtOf).Perm (z :: xs.toList.map txtOf) := qc.map txtOf
    have g1 : ∀ x ∈ xs1.toList, OkT P w x := fun x hx => by
      rcases List.mem_cons.mp (qc.mem_iff.mp hx) with c | c
      · rw [c]; exact ⟨z, t, rfl, rfl⟩
      · exact g x c
    have nd1 : (xs1.toList.map txtOf).Nodup := qk.nodup_iff.mpr (List.nodup_cons.mpr ⟨notin, nd⟩)
    have m1 : ∀ i, (M i || decide (i = z)) = true ↔ i ∈ xs1.toList.map txtOf := fun i => by
      rw [Bool.or_eq_true, decide_eq_true_eq, hm i, qk.mem_iff, List.mem_cons]
      exact or_comm
    have sz1 : xs1.size = xs.size + 1 := by rw [← Array.length_toList, qc.length_eq, List.length_cons, Array.length_toList]
    have hb1 : xs1.size < scanBound := by rw [sz1]; exact room1
    have led1 : w.params.followText "set-order" = true ∨ tb1.led = true := hl.imp id fun c => by rw [q4]; exact c
    refine wpAny_bind (told _ ?_)
    split
    · refine wpAny_bind ?_
      rw [hashByValue_scannable 8 scz]
      refine wpAny_pure ?_
      refine setT_stored ?_ h0 hex hd g1 nd1 m1 hb1 ?_ ?_ ?_ ?_
      · exact fun b s₁ Q' c => by cases b <;> first | exact wpAny_pure c | exact wpAny_rule c
      · first | (split <;> first | exact q2 | exact SetTable.fits_plain_off q2) | exact q2
      · first | (split <;> exact q3) | exact q3
      · first | (split <;> exact led1) | exact led1
      · exact fun h' sb r => by dsimp only; exact wpAny_pure (hQ h' _ sb r)
    · refine wpAny_bind (wpAny_pure ?_)
      simp only [↓reduceIte]
      refine setT_stored ?_ h0 hex hd g1 nd1 m1 hb1 q2 q3 led1 ?_
      · exact fun b s₁ Q' c => by cases b <;> first | exact wpAny_pure c | exact wpAny_rule c
      · exact fun h' sb r => by dsimp only; exact wpAny_pure (hQ h' _ sb r)
end
end Qt
/-! sorted(set(xs)) of a list of texts: filling, sorting, the rule. -/
namespace Qt
open PySem PySem.Spec PyProof.Rows L2 Evl PySem.W
section
variable {P : Program} {w : World} {A : Around} {E : Value → Shared → Prop} {s : Shared} {a : Addr} {M : Str → Bool}
def SetU (P : Program) (w : World) (n : Nat) (xs : List Str) (S : Addr) (h : Heap) : Prop := SetT P w h S (fun k => decide (k ∈ xs)) ∧ ∀ ob es ep tb, h.get? S = some ob → ob.data = .set es ep tb → es.size ≤ n
theorem setT_mono {h h' : Heap} (R : SetT P w h a M) (k : ∀ o, h.get? a = some o → h'.get? a = some o) : SetT P w h' a M := by
  obtain ⟨ob, xs, ep, tb, h0, r⟩ := R
  exact ⟨ob, xs, ep, tb, k ob h0, r⟩
theorem setT_congr {h : Heap} {M' : Str → Bool} (R : SetT P w h a M) (e : ∀ k, M' k = M k) : SetT P w h a M' := by
  rw [show M' = M from funext e]
  exact R
/-- how many there are at most: the members are told apart by the list that holds them all -/
theorem setT_size {h : Heap} {xs : List Str} (R : SetT P w h a (fun k => decide (k ∈ xs))) : ∀ ob es ep tb, h.get? a = some ob → ob.data = .set es ep tb → es.size ≤ xs.length := fun ob es ep tb h0 hd => by
  obtain ⟨ob', es', ep', tb', h0', _, hd', _, nd, hm, _⟩ := R
  rw [h0] at h0'
  cases h0'
  rw [hd] at hd'
  cases hd'
  have sub : ∀ k ∈ es.toList.map txtOf, k ∈ xs := fun k hk => of_decide_eq_true ((hm k).2 hk)
  have len : ∀ (l m : List Str), l.Nodup → (∀ k ∈ l, k ∈ m) → l.length ≤ m.length := fun l => by
    induction l with
    | nil => exact fun m _ _ => Nat.zero_le _
    | cons x r ih =>
      intro m hn hs
      obtain ⟨h1, h2⟩ := List.nodup_cons.mp hn
      have hx := hs x List.mem_cons_self
      have z := ih (m.erase x) h2 fun k hk => by
        have hne : k ≠ x := fun e => h1 (e ▸ hk)
        exact (List.mem_erase_of_ne hne).mpr (hs k (List.mem_cons_of_mem _ hk))
      rw [List.length_erase_of_mem hx] at z
      have := List.length_pos_of_mem hx
      rw [List.length_cons]
      omega
  have := len _ xs nd sub
  rw [List.length_map, Array.length_toList] at this
  exact this
theorem fill_setT {I : Addr} {fp wr : List Addr} {G : Array GenState → Array GenState → Prop} {m : Nat} {Pv : Nat → Value → Prop} {St : Nat → Shared → Prop} {R : Result → Shared → Prop}
    (W : WalksS P w A.in1 I fp wr G m Pv St) (S : Addr) (hSf : S ∉ fp) (xs : List Str) (hn : m = xs.length) (hb : xs.length + 1 < scanBound) (hval : ∀ i v, Pv i v → ∃ k t, xs[i]? = some k ∧ v = .str k t) :
    ∀ (k i : Nat) (s : Shared), m - i = k → i ≤ m → St i s → SetT P w s.heap S (fun k => decide (k ∈ xs.take i)) → (∀ s', Moved (S :: wr) G s s' → SetT P w s'.heap S (fun k => decide (k ∈ xs)) → R (.ok (.ret .none)) s') →
      codeAny (model P w) A (.builtin "set.update.loop" ⟨[.ref S, .ref I], []⟩) R s := by
  have out : S ∉ wr := fun h => hSf (W.sub _ h)
  have into : ∀ b ∈ wr, b ∈ S :: wr := fun b hb => List.mem_cons_of_mem _ hb
  intro k
  induction k with
  | zero =>
    intro i s hk' hi hst hS hR
    obtain rfl : i = m := by omega
    refine codeAny_builtin F.entry_set_update_loop ?_
    rw [Around.under_plainId F.plain_set_update_loop _]
    show wpAny _ A.in1 (pyNext (.ref I) >>= _) _ _ s
    refine wpAny_bind (W.done s _ _ hst fun s' hm => ?_)
    show wpAny _ A.in1 (ret Value.none) _ _ s'
    rw [List.take_of_length_le (by omega)] at hS
    exact wpAny_pure (hR s' (hm.mono into) (setT_mono hS (fun o e => hm.heap S o out e)))
  | succ k ih =>
    intro i s hk' hi hst hS hR
    have hlt : i < m := by omega
    refine codeAny_builtin F.entry_set_update_loop ?_
    rw [Around.under_plainId F.plain_set_update_loop _]
    show wpAny _ A.in1 (pyNext (.ref I) >>= _) _ _ s
    refine wpAny_bind (W.item i s _ _ hlt hst fun v s' hP hst' hm => ?_)
    obtain ⟨z, t, hz, rfl⟩ := hval i v hP
    have hS' := setT_mono (h' := s'.heap) hS (fun o e => hm.heap S o out e)
    show wpAny _ A.in1 (holding [Value.str z t] (setAdd S (.str z t)) >>= _) _ _ s'
    refine wpAny_bind (wpAny_holding ?_)
    unfold setAdd
    refine wpAny_holding ?_
    refine wpAny_bind ((PySem.strKind P w).pyHash (k := z) (strKind_is _ _ _ _) ?_)
    refine setT_add (s := { s' with toks := s'.toks + 1 }) hS' (fun ob es ep tb h0 hd => ?_) fun h' b hsb hS2 => ?_
    · have := setT_size hS' ob es ep tb h0 hd
      rw [List.length_take] at this
      omega
    have eT : xs.take (i + 1) = xs.take i ++ [z] := by rw [List.take_add_one, hz]; rfl
    have hS3 : SetT P w h' S (fun k => decide (k ∈ xs.take (i + 1))) := setT_congr hS2 fun j => by
      rw [eT]
      simp [List.mem_append]
    refine wpAny_pure ⟨plainId_quiet F.plain_set_update_loop _, ih (i + 1) _ (by omega) hlt (W.frame _ s' _ _ hst' (Nat.le_succ _) fun b hb o e => ?_) hS3 fun s'' hm'' hS'' => ?_⟩
    · rw [hsb.2 b (fun h : b = S => hSf (by rw [← h]; exact hb))]; exact e
    · refine hR s'' (Moved.trans W.gtrans ((hm.mono into).then_heap (Nat.le_succ _) fun b o hb e => ?_) hm'') hS''
      rw [hsb.2 b (fun h : b = S => hb (by rw [h]; exact List.mem_cons_self))]; exact e
theorem fills_setT {items : Array Value} {xs : List Str} (hit : StrsAre items.toList xs) (hb : xs.length + 1 < scanBound) : Fills P w items (fun S h => SetT P w h S (fun k => decide (k ∈ xs))) := by
  have hn : items.size = xs.length := by
    have q : ∀ {us : List Value} {ys : List Str}, StrsAre us ys → us.length = ys.length := by
      intro us ys h
      induction h with
      | nil => rfl
      | cons _ _ _ ih => rw [List.length_cons, List.length_cons, ih]
    have q := q hit
    rwa [Array.length_toList] at q
  have at_ : ∀ {us : List Value} {ys : List Str}, StrsAre us ys → ∀ (i : Nat) (v : Value), us[i]? = some v → ∃ k t, ys[i]? = some k ∧ v = .str k t := by
    intro us ys h
    induction h with
    | nil => intro i v e; simp at e
    | cons y t _ ih =>
      intro i v e
      cases i with
      | zero =>
        have e' := Option.some.inj e
        exact ⟨y, t, rfl, e'.symm⟩
      | succ i => exact ih i v e
  intro A' I fp wr G St R W S hS s0 hst h0 hR
  refine fill_setT W S hS xs hn hb (fun i v hv => at_ hit i v (by rw [Array.getElem?_toList]; exact hv)) (items.size - 0) 0 s0 rfl (Nat.zero_le _) hst
    ⟨_, #[], 0, _, h0, ⟨rfl, rfl, rfl⟩, rfl, (fun e he => by simp at he), (by simp), (fun k => by simp), (by decide), (by rfl), List.Pairwise.nil, ?_⟩ fun s' hm hs => hR s' hm hs
  cases hw : w.params.followText "set-order"
  · right
    simp [hw]
    rfl
  · exact .inl rfl
def strOf (v : Value) : Str := match v with
  | .str k _ => k
  | _ => PySem.Str.empty
theorem lt_strict : ∀ {l : List Str}, l.Pairwise (fun x y => x.cps.toList ≤ y.cps.toList) → l.Nodup → l.Pairwise fun x y => x.cps.toList < y.cps.toList := fun {l} h d => by
  refine (h.and d).imp fun {x y} c => ?_
  rcases List.le_iff_lt_or_eq.mp c.1 with q | q
  · exact q
  · exact absurd (str_ext q) c.2
theorem sorted_setT {Q : Value → Shared → Prop} (R : SetT P w s.heap a M) (hh : A.handled = none) (hu : A.units + 64 < cLine)
    (hQ : ∀ s' p (out : List Value) (c : Nat) (ys : List Str), (∀ b o, s.heap.get? b = some o → s'.heap.get? b = some o) → s'.gens = s.gens → s'.os = s.os → s.heap.objs.size ≤ p → s'.heap.get? p = some (seqObj "list" out.toArray c) →
      EachIs (fun v y => ∃ t, v = Value.str y t) out ys → ys.Pairwise (fun x y => x.cps.toList < y.cps.toList) → (∀ k, k ∈ ys ↔ M k = true) → ys.length ≤ sizeLine → Q (.ref p) s') : wpAny (model P w) A (call (.builtin "sorted") [.ref a]) Q E s := by
  obtain ⟨ob, xs, ep, tb, h0, hex, hd, g, nd, hm, hb, hf, hr, hl⟩ := R
  refine Calls.call_function_entry kind_sorted plain_sorted entry_sorted (args_sorted1 _) ?_
  unfold Builtin.«sorted»
  refine wpAny_bind (m := checkCount "sorted" 1 1 _) (wpAny_pure ?_)
  refine wpAny_bind (collect_set (A := A.in1) hh ⟨ob, h0, hex.1, hd⟩ hf hb hr hl fun s1 vs k1 hz g1 o1 pm => ?_)
  have hvl : vs.length ≤ sizeLine := by
    rw [pm.length_eq, List.length_map, Array.length_toList]
    exact fits_of_scanBound hb
  have each : ∀ v ∈ vs, ∃ t, v = Value.str (strOf v) t := fun v hv => by
    obtain ⟨x, hx, q⟩ := List.mem_map.mp (pm.mem_iff.mp hv)
    obtain ⟨k, t, e1, _⟩ := g x hx
    rw [← q, e1]
    exact ⟨t, rfl⟩
  have eachL : ∀ l : List Value, (∀ v ∈ l, ∃ t, v = Value.str (strOf v) t) → EachIs (fun v y => ∃ t, v = Value.str y t) l (l.map strOf) := fun l => by
    induction l with
    | nil => exact fun _ => .nil
    | cons v r ih => exact fun h => .cons (h v List.mem_cons_self) (ih fun u hu => h u (List.mem_cons_of_mem _ hu))
  have pk : (vs.map strOf).Perm (xs.toList.map txtOf) := by
    have q := pm.map strOf
    rw [List.map_map] at q
    exact q
  refine wpAny_bind (wpAny_newList ?_ hvl)
  have hoL : (s1.heap.push (seqObj "list" vs.toArray 0)).get? s1.heap.objs.size = some (seqObj "list" vs.toArray 0) := Heap.get?_push_size _ rfl
  refine wpAny_bind (wpAny_holding (list_sort_data (R := fun v y => ∃ t, v = Value.str y t) (enc := PyData.str) (bs := vs.map strOf) hoL (eachL vs each) ?_ (AllAlike.of fun x y => by simp only [alike]) (Sortable.others fun x => ⟨fun z => (by cases z), fun _ z => (by cases z)⟩) (by rw [List.length_map]; exact hvl) (fun x _ => ?_) fun out hlen hout => ?_))
  · refine (eachL vs each).mono fun v y ⟨t, e⟩ => ⟨[], ?_, by simp⟩
    rw [e]
    exact .str _ _
  · show A.units + 1 + 1 + 0 < cLine
    omega
  · rw [dataLe_str] at hout
    obtain ⟨c, hc⟩ := sortedHeap_at (vs := vs) (out := out.toArray) hoL
    have pn := (List.mergeSort_perm (vs.map strOf) (fun x y : Str => decide (x.cps.toList ≤ y.cps.toList))).trans pk
    have sorted := List.pairwise_mergeSort (le := fun x y : Str => decide (x.cps.toList ≤ y.cps.toList)) (fun x y z h1 h2 => decide_eq_true (List.le_trans (of_decide_eq_true h1) (of_decide_eq_true h2))) (fun x y => by
      rw [Bool.or_eq_true, decide_eq_true_eq, decide_eq_true_eq]
      exact List.le_total _ _) (vs.map strOf)
    refine wpAny_pure ⟨_, rfl, hQ _ s1.heap.objs.size out c _ (fun b u e => ?_) g1 o1 hz hc hout (lt_strict (sorted.imp fun h => of_decide_eq_true h) (pn.nodup_iff.mpr nd)) (fun k => by rw [pn.mem_iff, ← hm k]) ?_⟩
    · have q := k1 b u e
      have hlt := Heap.lt_size q
      show (sortedHeap (s1.heap.push (seqObj "list" vs.toArray 0)) s1.heap.objs.size vs out.toArray).get? b = some u
      rw [sortedHeap_old (Nat.ne_of_lt hlt) (by rw [size_push']; exact Nat.lt_succ_of_lt hlt)]
      exact Heap.get?_push_of_some _ q
    · rw [List.length_mergeSort, List.length_map]
      exact hvl
end
section
variable {X : Cx}
/-- sorted(set(xs)), xs texts: they in their order, each once -/
def tSortedSetS (K : PySem.W.Frag) (ta : TE) : TE := fun σ H Q => ta σ H fun x H1 => ∃ (l : Addr) (xs : List Str), x = .ref l ∧ SqL K H1 l (xs.map V.str) ∧ xs.length ≤ 4090 ∧
  ∀ ys : List Str, ys.Pairwise (fun x y => x.cps.toList < y.cps.toList) → (∀ k, k ∈ ys ↔ k ∈ xs) → ∀ p, H1 p = none → Q (.ref p) (upd H1 p (.lst (ys.map V.str)))
theorem pe_sortedSetS {a : Expr} {ta : TE} {p p2 q pos : Pos} (hc : X.calm = true) (hu : X.A.units + 64 < cLine) (hg : Gl X "sorted") (hm : X.mg "sorted" = none) (hg2 : Gl X "set") (hm2 : X.mg "set" = none) (ha : PE X a ta)
    (na : starEach [a] X.env = (false, eval a X.env) :: starEach [] X.env := by rfl) : PE X (.Call (.Name "sorted" p) [.Call (.Name "set" p2) [a] [] q] [] pos) (tSortedSetS X.K ta) := by
  refine ⟨fun pins s σ H Q I h => Call_ (ld_blt I hg hm PyProof.Rows.boot_sorted (PyProof.Rows.callWith_builtin1 (PyProof.Rows.args_cons (Call_ (ld_blt I hg2 hm2 PyProof.Rows.boot_set ?_)) rfl) rfl rfl))⟩
  refine PyProof.Rows.callWith_type1 (PyProof.Rows.args_cons (thn (ha.run pins s σ H _ I h) fun v s1 hh => PyProof.Rows.args_nil ?_) na) na rfl
  obtain ⟨x, H1, I1, r1, l, xs, rfl, hq, hl, q1⟩ := hh
  cases r1
  obtain ⟨its, r, pl, hz⟩ := I1.list hq
  refine set_of_list (I1.ok.hd hc) pl.isList (fills_setT (xs := xs) (by simpa using strsAre_of r) (by unfold scanBound; omega)) fun h' tk hS hk => PyProof.Rows.args_nil ?_
  have I2 : Inv X pins σ H1 { s1 with heap := h', toks := tk } := I1.kept hk
  refine sorted_setT hS (I2.ok.hd hc) hu fun s' p out c ys k g o hp hget hev hlt hmem hlen => ?_
  have hn : H1 p = none := I2.hok.fresh hp
  have hv : Vals (ys.map V.str) out := each_vals (f := V.str) (hev.mono fun v y e => e)
  have J : Inv X pins σ (upd H1 p (.lst (ys.map V.str))) { ({ s1 with heap := h', toks := tk } : Shared) with heap := s'.heap, gens := s'.gens, drawn := s'.drawn, toks := s'.toks } :=
    I2.call (ch := []) (Un.laid k hp hn) (I2.hok.laid k hp ⟨by rw [List.length_map]; exact hlen, out, c, hv, hget⟩) (by rw [g]; exact I2.bare) (fun _ z => nomatch z)
  have e : s' = { ({ s1 with heap := h', toks := tk } : Shared) with heap := s'.heap, gens := s'.gens, drawn := s'.drawn, toks := s'.toks } := by
    cases s'
    cases s1
    cases o
    rfl
  rw [e]
  exact ⟨.ref p, _, J, rfl, q1 ys hlt (fun y => (hmem y).trans decide_eq_true_iff) p hn⟩
end
end Qt
/-! min within a block; comprehensions over very long lists. -/
namespace Qt
open PySem PySem.Spec PyProof.Rows L2 Evl
section
variable {X : Cx}
theorem cr_minGK (K : PySem.W.Frag) (hK : X.K = K) (hc : X.calm = true) (hu : X.A.units + 64 < cLine) : CallR X (.builtin "min") (rMinG K) := hK ▸ cr_minG hc hu
end
section
variable {K : PySem.W.Frag} {σ : L2.St} {H : Hp} {tl te : TE} {t : TT}
/-- over a list of any length that can stand -/
theorem el_lcLB {a : Addr} {xs : List V} {j : Nat} {vs : List Nat} (f : Nat → Bool) (v : Nat → V) (h : Ev tl σ H (.ref a)) (hx : SqL K H a xs) (hz : xs.length ≤ sizeLine) (hw : ∀ x, wipe ((wipe σ vs).set j (some x)) vs = wipe σ vs)
    (ht : ∀ (i : Nat) (x : V) H1, Ex H H1 → xs[i]? = some x → EvT t ((wipe σ vs).set j (some x)) H1 (f i)) (he : ∀ (i : Nat) (x : V) H1, Ex H H1 → xs[i]? = some x → f i = true → Ev te ((wipe σ vs).set j (some x)) H1 (v i)) :
    EvL (tLc (iList K tl) (gName j) t te vs) σ H (given xs.length f v) := fun H0 e Q q => h H0 e _ fun H1 e1 => ⟨a, rfl, ⟨xs, ex_l (e.trans e1) hx⟩, fun Dl hD => by
  refine lc_list (xs := xs) (fun i H' => Ex H1 H' ∧ H' Dl = some (.lst (given i f v))) ⟨Ex.new hD, upd_same⟩ (fun i H' _ p => ex_l ((e.trans e1).trans p.1) hx) (fun i x H2 hi p => ⟨hw x, ?_⟩) (fun H' p => q Dl H' (fresh_back e1 hD) (e1.trans p.1) p.2)
  obtain ⟨g1, g2⟩ := p
  have hil := (List.getElem?_eq_some_iff.mp hi).1
  refine ht i x H1 (e.trans e1) hi _ g1 _ fun H6 e6 => ?_
  cases hf : f i with
  | true =>
    refine iteT ?_
    refine he i x H1 (e.trans e1) hi hf _ (g1.trans e6) _ fun H7 e7 => ⟨given i f v, e7 _ _ (e6 _ _ g2), ?_, Ex.mut ((g1.trans e6).trans e7) hD, ?_⟩
    · unfold given
      have b2 := List.length_filter_le f (List.range i)
      rw [List.length_range] at b2
      rw [List.length_map]
      omega
    · rw [upd_same, given_yes hf]
  | false =>
    refine iteF ⟨g1.trans e6, ?_⟩
    have : given (i + 1) f v = given i f v := by
      unfold given
      rw [List.range_succ, List.filter_append, List.filter_cons_of_neg (by rw [hf]; exact Bool.false_ne_true), List.filter_nil, List.append_nil]
    rw [this]
    exact e6 _ _ g2⟩
end
end Qt
/-! list(enumerate(xs)): a new list of new pairs. -/
namespace Qt
open PySem PySem.Spec PyProof.Rows L2 Evl
theorem enum_no_len : typeLookup (.type "enumerate") "__len__" = pure none := am_miss_of_fast (by decide +kernel)
theorem enum_no_hint : typeLookup (.type "enumerate") "__length_hint__" = pure none := am_miss_of_fast (by decide +kernel)
/-- the enumerate object at turn i -/
def EnSt (e it l S : Addr) (items : Array Value) (i : Nat) (h : Heap) : Prop := h.IsListIter it l i ∧ h.IsList l items ∧
  ((∃ old, IsEnum h e it i old) ∨ ∃ old T f oT, IsEnumHeld h e it i old T f ∧ h.get? T = some oT ∧ T ≠ e ∧ T ≠ it ∧ T ≠ S)
/-- the pairs that were made -/
structure EnAcc (N : Nat) (e it S : Addr) (items : Array Value) (ts : List Addr) (h : Heap) : Prop where
  nd : ts.Nodup
  each : ∀ (j : Nat) (T : Addr), ts[j]? = some T → N ≤ T ∧ T ≠ e ∧ T ≠ it ∧ T ≠ S ∧ ∃ t v, items[j]? = some v ∧ h.get? T = some { cls := .type "tuple", data := .seq #[.int j t, v] }
section
variable {prog : Program} {w : World} {A : Around} {s : Shared} {R : Result → Shared → Prop}
theorem extend_enum {e it l S : Addr} {items : Array Value} (hh : A.in1.handled = none) (hei : e ≠ it) (hle : l ≠ e) (hli : l ≠ it) (hSe : S ≠ e) (hSi : S ≠ it) (hSl : S ≠ l) (hn : items.size ≤ sizeLine) (res : Value) (N : Nat) (h0 : Heap) :
    ∀ (k i : Nat) (s : Shared) (ts : List Addr), items.size - i = k → i ≤ items.size → EnSt e it l S items i s.heap → ts.length = i → N ≤ s.heap.objs.size → (∃ c, s.heap.get? S = some { cls := .type "list", dict := none, data := .seq (ts.map Value.ref).toArray c, slots := #[] }) →
    EnAcc N e it S items ts s.heap → (∀ b o, b ≠ e → b ≠ it → b ≠ S → h0.get? b = some o → s.heap.get? b = some o) →
    (∀ h' tk ts', ts'.length = items.size → (∃ c', h'.get? S = some { cls := .type "list", dict := none, data := .seq (ts'.map Value.ref).toArray c', slots := #[] }) → EnAcc N e it S items ts' h' → (∀ b o, b ≠ e → b ≠ it → b ≠ S → h0.get? b = some o → h'.get? b = some o) →
      R (.ok (.ret res)) { s with heap := h', toks := tk }) →
    codeAny (model prog w) A (.builtin "list.extend.loop" ⟨[.ref S, .ref e, res], []⟩) R s := by
  intro k
  induction k with
  | zero =>
    intro i s ts hk hi st hts hN hS acc hold hR
    obtain ⟨c, hS⟩ := hS
    have hin : i = items.size := by omega
    subst hin
    refine codeAny_builtin F.entry_extend_loop ?_
    rw [Around.under_plainId F.plain_extend_loop _]
    show wpAny _ A.in1 (pyNext (.ref e) >>= _) _ _ s
    obtain ⟨hit, hl, he⟩ := st
    have hx : items[items.size]? = none := Array.getElem?_eq_none (Nat.le_refl _)
    have fin : ∀ h', Heap.ExtBut it s.heap h' → R (.ok (.ret res)) { s with heap := h' } := fun h' hk' => by
      refine hR h' s.toks ts hts ⟨c, hk' _ _ hSi hS⟩ ⟨acc.nd, fun j T hj => ?_⟩ fun b o b1 b2 b3 q => hk' _ _ b2 (hold b o b1 b2 b3 q)
      obtain ⟨a1, a2, a3, a4, t, v, a5, a6⟩ := acc.each j T hj
      exact ⟨a1, a2, a3, a4, t, v, a5, hk' _ _ a3 a6⟩
    rcases he with ⟨old, he⟩ | ⟨old, T, f, oT, he, hT, r1, r2, r3⟩
    · exact wpAny_bind (wpAny_pyNext_enum_end hh he hit hl hx fun h' hk' => wpAny_pure (fin h' hk'))
    · exact wpAny_bind (wpAny_pyNext_enum_end_held hh he hit hl hx fun h' hk' => wpAny_pure (fin h' hk'))
  | succ k ih =>
    intro i s ts hk hi st hts hN hS acc hold hR
    obtain ⟨c, hS⟩ := hS
    have hlt : i < items.size := by omega
    refine codeAny_builtin F.entry_extend_loop ?_
    rw [Around.under_plainId F.plain_extend_loop _]
    show wpAny _ A.in1 (pyNext (.ref e) >>= _) _ _ s
    obtain ⟨hit, hl, he⟩ := st
    have hx := Array.getElem?_eq_getElem hlt
    have hec : ((i + 1 : Nat) : Int) = (i : Int) + 1 := by omega
    have nit : s.heap.objs.size ≠ it := let ⟨_, x, _⟩ := hit; Nat.ne_of_gt (Heap.lt_size x)
    have nS : s.heap.objs.size ≠ S := Nat.ne_of_gt (Heap.lt_size hS)
    -- what follows a step
    have step : ∀ (h' : Heap) (ne : s.heap.objs.size ≠ e), h'.IsListIter it l (i + 1) →
        (∃ old T f oT, IsEnumHeld h' e it ((i : Int) + 1) old T f ∧ h'.get? T = some oT ∧ T ≠ e ∧ T ≠ it ∧ T ≠ S) →
        h'.get? s.heap.objs.size = some { cls := .type "tuple", data := .seq #[.int i s.toks, items[i]] } → h'.objs.size = s.heap.objs.size + 1 → (∀ b o, b ≠ e → b ≠ it → s.heap.get? b = some o → h'.get? b = some o) →
        wpAny (model prog w) A.in1 (updateSeq S (·.push (.ref s.heap.objs.size)) >>= fun _ => again (.builtin "list.extend.loop" ⟨[.ref S, .ref e, res], []⟩))
          (fun fin s' => match fin with | .done f => R (.ok f) s' | .again c' => c'.quiet = true ∧ codeAny (model prog w) A c' R s') (fun e s' => R (.error e) s') { s with heap := h', toks := s.toks + 1 } := fun h' ne a1 a2 a4 a5 a6 => by
      have hS' := a6 S _ hSe hSi hS
      refine wpAny_bind ?_
      have oth : ∀ b o, b ≠ S → h'.get? b = some o → (h'.update S (Obj.mapSeq (·.push (.ref s.heap.objs.size)))).get? b = some o := fun b o hb q => (Heap.get?_update_other _ _ (Ne.symm hb)).trans q
      refine wpAny_updateSeq hS' rfl (wpAny_pure ⟨plainId_quiet F.plain_extend_loop _, ih (i + 1) _ (ts ++ [s.heap.objs.size]) (by omega) hlt ?_ (by rw [List.length_append, hts]; rfl) ?_ ?_ ?_ (fun b o b1 b2 b3 q => oth b o b3 (a6 b o b1 b2 (hold b o b1 b2 b3 q))) fun h'' tk ts' q1 q2 q3 q4 => hR h'' tk ts' q1 q2 q3 q4⟩) (by simp only [List.size_toArray, List.length_map]; omega) (by
        show ((ts.map Value.ref).toArray.push (.ref s.heap.objs.size)).size ≤ sizeLine + 1
        rw [Array.size_push]; simp only [List.size_toArray, List.length_map]; omega)
      · obtain ⟨o, ho, r⟩ := a1
        obtain ⟨ol, hol, rl⟩ := hl
        obtain ⟨old, T, f, oT, b1, b2, b3, b4, b5⟩ := a2
        exact ⟨⟨o, oth _ _ (Ne.symm hSi) ho, r⟩, ⟨ol, oth _ _ (Ne.symm hSl) (a6 l _ hle hli hol), rl⟩, .inr ⟨old, T, f, oT, (by rw [hec]; exact oth _ _ (Ne.symm hSe) b1), oth _ _ b5 b2, b3, b4, b5⟩⟩
      · show N ≤ (h'.update S _).objs.size
        rw [Heap.size_update, a5]
        omega
      · have := Heap.get?_update_self (Obj.mapSeq (·.push (Value.ref s.heap.objs.size))) hS' rfl
        rw [List.map_append]
        exact ⟨_, by simpa [Obj.mapSeq] using this⟩
      · refine ⟨?_, fun j T hj => ?_⟩
        · rw [List.nodup_append]
          refine ⟨acc.nd, by simp, fun a ha b hb => ?_⟩
          obtain ⟨j, hj⟩ := List.getElem?_of_mem ha
          obtain ⟨_, _, _, _, _, _, _, z⟩ := acc.each j a hj
          rw [List.mem_singleton.mp hb]
          exact Nat.ne_of_lt (Heap.lt_size z)
        · by_cases hj2 : j < ts.length
          · rw [List.getElem?_append_left hj2] at hj
            obtain ⟨c1, c2, c3, c4, t, v, c5, c6⟩ := acc.each j T hj
            exact ⟨c1, c2, c3, c4, t, v, c5, oth _ _ c4 (a6 _ _ c2 c3 c6)⟩
          · rw [List.getElem?_append_right (by omega)] at hj
            have hj3 : j - ts.length = 0 := by
              rcases Nat.eq_zero_or_pos (j - ts.length) with z | z
              · exact z
              · rw [List.getElem?_eq_none (by simp; omega)] at hj; cases hj
            rw [hj3] at hj
            obtain rfl : s.heap.objs.size = T := Option.some.inj hj
            obtain rfl : j = i := by omega
            exact ⟨hN, ne, nit, nS, s.toks, items[j], hx, oth _ _ nS a4⟩
    rcases he with ⟨old, he⟩ | ⟨old, T, f, oT, he, hT, r1, r2, r3⟩
    · have ne : s.heap.objs.size ≠ e := Nat.ne_of_gt (Heap.lt_size he)
      refine wpAny_bind (wpAny_pyNext_enum_item he hit hl hx hei fun h' ho hit' hT hsz hk' => ?_)
      exact step h' ne hit' ⟨_, s.heap.objs.size, false, _, ho, hT, ne, nit, nS⟩ hT hsz hk'
    · have ne : s.heap.objs.size ≠ e := Nat.ne_of_gt (Heap.lt_size he)
      refine wpAny_bind (wpAny_pyNext_enum_item_held he hT r1 r2 hit hl hx hei fun h' ho hit' hT' hsz hk' => ?_)
      exact step h' ne hit' ⟨old, T, true, oT, ho, hk' _ _ r1 r2 hT, r1, r2, r3⟩ hT' hsz hk'
theorem list_init_enum {e it l S : Addr} {items : Array Value} (hh : A.in1.handled = none) (hei : e ≠ it) (hle : l ≠ e) (hli : l ≠ it) (hSe : S ≠ e) (hSi : S ≠ it) (hSl : S ≠ l) (hn : items.size ≤ sizeLine)
    (hst : EnSt e it l S items 0 s.heap) (hS : s.heap.get? S = some { cls := .type "list", data := .seq #[] })
    (hR : ∀ h' tk ts', ts'.length = items.size → (∃ c', h'.get? S = some { cls := .type "list", dict := none, data := .seq (ts'.map Value.ref).toArray c', slots := #[] }) → EnAcc s.heap.objs.size e it S items ts' h' → (∀ b o, b ≠ e → b ≠ it → b ≠ S → s.heap.get? b = some o → h'.get? b = some o) →
      R (.ok (.ret .none)) { s with heap := h', toks := tk }) :
    wpAny (model prog w) A.in1 (Builtin.«list.__init__» ⟨[.ref S, .ref e], []⟩)
      (fun fin s' => match fin with | .done f => R (.ok f) s' | .again c' => c'.quiet = true ∧ codeAny (model prog w) A c' R s') (fun e s' => R (.error e) s') s := by
  have hT : ∀ {h : Heap}, EnSt e it l S items 0 h → ({ s with heap := h } : Shared).TypeIs (.ref e) "enumerate" := fun {h} st => by
    obtain ⟨_, _, ⟨_, he⟩ | ⟨_, _, _, _, he, _⟩⟩ := st <;> exact ⟨_, he, rfl⟩
  have frame : ∀ {h h' : Heap}, EnSt e it l S items 0 h → (∀ b o, b ≠ S → h.get? b = some o → h'.get? b = some o) → EnSt e it l S items 0 h' := fun {h h'} st k => by
    obtain ⟨⟨o, ho, r⟩, ⟨ol, hol, rl⟩, he⟩ := st
    refine ⟨⟨o, k _ _ (Ne.symm hSi) ho, r⟩, ⟨ol, k _ _ (Ne.symm hSl) hol, rl⟩, ?_⟩
    rcases he with ⟨old, he⟩ | ⟨old, T, f, oT, b1, b2, b3, b4, b5⟩
    · exact .inl ⟨old, k _ _ (Ne.symm hSe) he⟩
    · exact .inr ⟨old, T, f, oT, k _ _ (Ne.symm hSe) b1, k _ _ b5 b2, b3, b4, b5⟩
  show wpAny _ A.in1 (do let old ← Builtin.List.listItems (.ref S); Builtin.List.listUpdate (.ref S) (fun _ => #[]); letGo old.toList.reverse; Builtin.List.listExtendWith (.ref S) (.ref e) .none) _ _ s
  refine wpAny_bind ?_
  unfold Builtin.List.listItems
  refine wpAny_bind (wpAny_seqItems hS rfl (wpAny_pure ?_))
  show wpAny _ A.in1 (updateSeq S (fun _ => #[]) >>= fun _ => letGo (#[] : Array Value).toList.reverse >>= fun _ => Builtin.List.listExtendWith (.ref S) (.ref e) .none) _ _ s
  refine wpAny_bind (wpAny_updateSeq hS rfl ?_)
  have hS₂ := Heap.get?_update_self (Obj.mapSeq (fun _ => (#[] : Array Value))) hS rfl
  have oth : ∀ b o, b ≠ S → s.heap.get? b = some o → (s.heap.update S (Obj.mapSeq (fun _ => (#[] : Array Value)))).get? b = some o :=
    fun b o hb e => (Heap.get?_update_other _ _ (Ne.symm hb)).trans e
  refine wpAny_bind (wpAny_letGo ?_)
  have st2 := frame hst oth
  have zz : (s.heap.update S (Obj.mapSeq (fun _ => (#[] : Array Value)))).objs.size = s.heap.objs.size := Heap.size_update ..
  generalize hh2 : s.heap.update S (Obj.mapSeq (fun _ => (#[] : Array Value))) = h2 at hS₂ oth st2 zz
  unfold Builtin.List.listExtendWith
  refine wpAny_bind (wpAny_typeOf (hT st2) ?_)
  have h1 : Builtin.List.listSameRef (.ref S) (.ref e) = false := by simp [Builtin.List.listSameRef, hSe]
  have h2' : (Value.type "enumerate" == Value.type "list") = false := by decide
  have h3 : (Value.type "enumerate" == Value.type "tuple") = false := by decide
  simp only [h1, h2', h3, Bool.or_false, Bool.false_eq_true, if_false]
  have itr : ∀ {Q E}, Q (.ref e) { s with heap := h2 } → wpAny (model prog w) A.in1 (pyIter (.ref e)) Q E { s with heap := h2 } := fun q => by
    obtain ⟨_, _, ⟨_, he⟩ | ⟨_, _, _, _, he, _⟩⟩ := st2
    · exact wpAny_pyIter_enum he q
    · have hT2 : ({ s with heap := h2 } : Shared).TypeIs (.ref e) "enumerate" := ⟨_, he, rfl⟩
      refine wpAny_pyIter_slot hT2 F.slot_enumerate_iter (wpAny_call_entry F.slot_enumerate_iter hT2 F.entry_enumerate_iter ?_ (F.args_enumerate_iter_1 _))
      show wpAny _ _ (ret (.ref e)) _ _ _
      exact wpAny_pure ⟨_, rfl, "enumerate", _, hT2, F.slot_enumerate_next.lookup, q⟩
  refine wpAny_bind (itr ?_)
  refine wpAny_bind (wpAny_holding ?_)
  unfold Builtin.List.listLengthHint
  refine wpAny_bind (wpAny_specialOf (hT st2) enum_no_len ?_)
  show wpAny _ A.in1 (specialOf (Value.ref e) (Str.ofString "__length_hint__") >>= _) _ _ _
  refine wpAny_bind (wpAny_specialOf (hT st2) enum_no_hint ?_)
  refine wpAny_pure ?_
  show wpAny _ A.in1 (rule "list.extend.makes-room" >>= fun _ => Builtin.List.listTouch (.ref S) >>= fun _ =>
    again (.builtin "list.extend.loop" ⟨[.ref S, .ref e, .none], []⟩)) _ _ _
  refine wpAny_bind (wpAny_rule ?_)
  refine wpAny_bind ?_
  show wpAny _ A.in1 (updateSeq S (·.push .none) >>= fun _ => updateSeq S (·.pop)) _ _ _
  refine wpAny_bind (wpAny_updateSeq hS₂ rfl ?_)
  have hS₃ := Heap.get?_update_self (Obj.mapSeq (·.push Value.none)) hS₂ rfl
  refine wpAny_updateSeq (hz := by seq_fits) hS₃ rfl ?_
  have hS₄ := Heap.get?_update_self (Obj.mapSeq (·.pop)) hS₃ rfl
  have oth4 : ∀ b o, b ≠ S → h2.get? b = some o → ((h2.update S (Obj.mapSeq (·.push Value.none))).update S (Obj.mapSeq (·.pop))).get? b = some o :=
    fun b o hb e => (Heap.get?_update_other _ _ (Ne.symm hb)).trans ((Heap.get?_update_other _ _ (Ne.symm hb)).trans e)
  refine wpAny_pure ⟨plainId_quiet F.plain_extend_loop _, extend_enum hh hei hle hli hSe hSi hSl hn .none s.heap.objs.size s.heap items.size 0 _ [] (by omega) (Nat.zero_le _) (frame st2 oth4) rfl ?_ ⟨_, hS₄⟩ ⟨List.nodup_nil, fun j T hj => by cases hj⟩
    (fun b o b1 b2 b3 q => oth4 b o b3 (oth b o b3 q)) fun h' tk ts' q1 q2 q3 q4 => hR h' tk ts' q1 q2 q3 q4⟩
  show s.heap.objs.size ≤ ((h2.update S _).update S _).objs.size
  rw [Heap.size_update, Heap.size_update, zz]
  exact Nat.le_refl _
end
section
variable {prog : Program} {w : World} {A : Around} {E : Value → Shared → Prop} {s : Shared}
theorem call_list_enum {e it l : Addr} {items : Array Value} {old : Value} {Q : Value → Shared → Prop} (hh : A.handled = none) (hei : e ≠ it) (hle : l ≠ e) (hli : l ≠ it) (hn : items.size ≤ sizeLine)
    (he : IsEnum s.heap e it 0 old) (hit : s.heap.IsListIter it l 0) (hl : s.heap.IsList l items)
    (hQ : ∀ h' tk S ts', ts'.length = items.size → s.heap.objs.size ≤ S → (∃ c', h'.get? S = some { cls := .type "list", dict := none, data := .seq (ts'.map Value.ref).toArray c', slots := #[] }) → EnAcc s.heap.objs.size e it S items ts' h' → (∀ b o, b ≠ e → b ≠ it → s.heap.get? b = some o → h'.get? b = some o) →
      Q (.ref S) { s with heap := h', toks := tk }) :
    wpAny (model prog w) A (call (.type "list") [.ref e]) Q E s := by
  have hSe : s.heap.objs.size ≠ e := Nat.ne_of_gt (Heap.lt_size he)
  have hSi : s.heap.objs.size ≠ it := by obtain ⟨o, ho, _⟩ := hit; exact Nat.ne_of_gt (Heap.lt_size ho)
  have hSl : s.heap.objs.size ≠ l := by obtain ⟨o, ho, _⟩ := hl; exact Nat.ne_of_gt (Heap.lt_size ho)
  refine callType_codes (Q₁ := fun obj s₁ => obj = .ref s.heap.objs.size ∧ s₁ = { s with heap := s.heap.push { cls := .type "list", data := .seq #[] } }) F.called_list (F.typeCall_list_1 _) F.entry_list_init
    (code_list_new _ ⟨rfl, rfl⟩) fun obj s₁ h₁ => ?_
  obtain ⟨rfl, rfl⟩ := h₁
  have hS : (s.heap.push { cls := .type "list", data := .seq #[] }).get? s.heap.objs.size = some { cls := .type "list", data := .seq #[] } := Heap.get?_push_size _ rfl
  have up : ∀ b o, s.heap.get? b = some o → (s.heap.push { cls := .type "list", data := .seq #[] }).get? b = some o := fun b o q => Heap.get?_push_of_some _ q
  refine ⟨⟨_, hS, rfl⟩, F.args_list_init_2 _ _, list_init_enum (A := A.in1) (s := { s with heap := s.heap.push { cls := .type "list", data := .seq #[] } }) hh hei hle hli hSe hSi hSl hn
    ⟨(let ⟨o, ho, r⟩ := hit; ⟨o, up _ _ ho, r⟩), (let ⟨o, ho, r⟩ := hl; ⟨o, up _ _ ho, r⟩), .inl ⟨old, up _ _ he⟩⟩ hS fun h' tk ts' q1 q2 q3 q4 => ⟨rfl, hQ h' tk _ ts' q1 (Nat.le_refl _) q2 ⟨q3.nd, fun j T hj => ?_⟩ fun b o b1 b2 q => q4 b o b1 b2 (Nat.ne_of_lt (Heap.lt_size q)) (up _ _ q)⟩⟩
  obtain ⟨c1, c2⟩ := q3.each j T hj
  refine ⟨Nat.le_trans ?_ c1, c2⟩
  show s.heap.objs.size ≤ (s.heap.push _).objs.size
  rw [Heap.size_push]
  exact Nat.le_succ _
end
/-! ### many new tuples -/
section
variable {fs ex : List Addr} {H H1 : Hp} {h h' : Heap} {a : Addr} {o : HO} {P : Program} {w : World}
theorem un_more (u : Un fs ex H H1 h h') (hp : h.objs.size ≤ a) (hn : H1 a = none) : Un fs ex H (upd H1 a o) h h' where
  keep := u.keep
  slot := u.slot
  free := fun b v q n x => by rw [upd_ne (Nat.ne_of_lt (Nat.lt_of_lt_of_le (Heap.lt_size q) hp))]; exact u.free b v q n x
  there := u.there
  tups := fun b xs q => by have z := u.tups b xs q; rw [upd_ne (ne_of_none z hn)]; exact z
  frzs := fun b v xs q => by have z := u.frzs b v xs q; rw [upd_ne (ne_of_none z hn)]; exact z
  tbls := fun b ps q => by
    obtain ⟨m, z⟩ := u.tbls b ps q
    exact ⟨m, by rw [upd_ne (ne_of_none z hn)]; exact z⟩
theorem hok_more (x : HOk P w H1 h') (hn : H1 a = none) (new : ObjOk P w (upd H1 a o) h' a o) : HOk P w (upd H1 a o) h' := fun b u e => by
  by_cases hb : b = a
  · subst hb; rw [upd_same] at e; cases e; exact new
  · rw [upd_ne hb] at e
    exact (x b u e).stay (fun c v _ q => q) (fun c q => by rw [upd_ne (ne_of_none q hn)]; exact q) fun c xs q => by rw [upd_ne (ne_of_none q hn)]; exact q
/-- tuples that the heap holds are tracked -/
theorem more_tups (x : HOk P w H h') (u : Un fs ex H H h h') (nn : ∀ t, h.objs.size ≤ t → H t = none) : ∀ (ts : List Addr) (xss : List (List V)), ts.Nodup →
    Paired (fun t x => h.objs.size ≤ t ∧ x.length ≤ sizeLine ∧ ∃ its : List Value, Vals x its ∧ IsTup h' t its.toArray) ts xss →
    ∃ H1, Ex H H1 ∧ Un fs ex H H1 h h' ∧ HOk P w H1 h' ∧ Paired (fun t x => H1 t = some (.tup x)) ts xss ∧ ∀ t, h.objs.size ≤ t → t ∉ ts → H1 t = none
  | [], _, _, .nil => ⟨H, Ex.refl H, u, x, .nil, fun t ht _ => nn t ht⟩
  | t :: ts, _ :: xss, nd, .cons (b := xs) ⟨h1, h2, h3⟩ r => by
    obtain ⟨H1, e1, u1, x1, p1, n1⟩ := more_tups x u nn ts xss (List.nodup_cons.mp nd).2 r
    have hn := n1 t h1 (List.nodup_cons.mp nd).1
    refine ⟨upd H1 t (.tup xs), e1.trans (Ex.new hn), un_more u1 h1 hn, hok_more x1 hn ⟨h2, h3⟩, .cons upd_same (pr_imp p1 fun t' x' _ q => (Ex.new hn) _ _ q), fun t' ht hm => ?_⟩
    rw [upd_ne (fun z => hm (by rw [z]; exact List.mem_cons_self))]
    exact n1 t' ht fun z => hm (List.mem_cons_of_mem _ z)
end
/-- the items with their numbers -/
def enumL (xs : List V) : List (List V) := (List.range xs.length).map fun i => [.int (i : Nat), xs.getD i .non]
theorem enumL_len (xs : List V) : (enumL xs).length = xs.length := by unfold enumL; rw [List.length_map, List.length_range]
theorem paired_of {α β : Type} {R : α → β → Prop} : ∀ {ts : List α} {ws : List β}, ts.length = ws.length → (∀ (i : Nat) t w, ts[i]? = some t → ws[i]? = some w → R t w) → Paired R ts ws
  | [], [], _, _ => .nil
  | [], _ :: _, h, _ => by cases h
  | _ :: _, [], h, _ => by cases h
  | t :: ts, w :: ws, h, k => .cons (k 0 t w rfl rfl) (paired_of (by simpa using h) fun i t w h1 h2 => k (i + 1) t w h1 h2)
def tListEnum (K : PySem.W.Frag) (ta : TE) : TE := fun σ H Q => ta σ H fun x H1 => ∃ (l : Addr) (xs : List V), x = .ref l ∧ SqL K H1 l xs ∧
  ∀ p H2, H1 p = none → Ex H1 H2 → LTup H2 p (enumL xs) → Q (.ref p) H2
section
variable {X : Cx}
theorem pe_listEnum {a : Expr} {ta : TE} {p p2 q pos : Pos} (hc : X.calm = true) (hg : Gl X "list") (hm : X.mg "list" = none) (hg2 : Gl X "enumerate") (hm2 : X.mg "enumerate" = none) (ha : PE X a ta)
    (na : starEach [a] X.env = (false, eval a X.env) :: starEach [] X.env := by rfl) : PE X (.Call (.Name "list" p) [.Call (.Name "enumerate" p2) [a] [] q] [] pos) (tListEnum X.K ta) := by
  refine ⟨fun pins s σ H Q I h => Call_ (ld_blt I hg hm PyProof.Rows.boot_list (PyProof.Rows.callWith_type1 (PyProof.Rows.args_cons (Call_ (ld_blt I hg2 hm2 PyProof.Rows.boot_enumerate ?_)) rfl) rfl rfl))⟩
  refine PyProof.Rows.callWith_type1 (PyProof.Rows.args_cons (thn (ha.run pins s σ H _ I h) fun v s1 hh => PyProof.Rows.args_nil ?_) na) na rfl
  obtain ⟨x, H1, I1, r1, l, xs, rfl, hq, q1⟩ := hh
  cases r1
  obtain ⟨its, rv, pl, hz⟩ := I1.list hq
  refine call_enum0 (begins_list l its.toArray) pl.isList fun h' hE hIt hk => PyProof.Rows.args_nil ?_
  have hls : l < s1.heap.objs.size := by obtain ⟨o, ho, _⟩ := pl.isList; exact Heap.lt_size ho
  have hne1 : s1.heap.objs.size + 1 ≠ s1.heap.objs.size := Nat.succ_ne_self _
  have hlen := rv.length
  refine call_list_enum (I1.ok.hd hc) hne1 (Nat.ne_of_lt (Nat.lt_succ_of_lt hls)) (Nat.ne_of_lt hls) (by simp only [List.size_toArray]; omega) hE ⟨_, hIt, rfl, rfl⟩ (let ⟨o, ho, r⟩ := pl.isList; ⟨o, hk _ _ ho, r⟩) fun h2 tk S ts hts hS hSo acc hold => ?_
  have hgrow : s1.heap.objs.size ≤ h'.objs.size := Nat.le_of_lt (Heap.lt_size hIt)
  have keep : ∀ b o, s1.heap.get? b = some o → h2.get? b = some o := fun b o hb => hold b o (Nat.ne_of_lt (Nat.lt_succ_of_lt (Heap.lt_size hb))) (Nat.ne_of_lt (Heap.lt_size hb)) (hk b o hb)
  have pr : Paired (fun t x => s1.heap.objs.size ≤ t ∧ x.length ≤ sizeLine ∧ ∃ its : List Value, Vals x its ∧ IsTup h2 t its.toArray) ts (enumL xs) := by
    refine paired_of (by rw [enumL_len, hts]; simp only [List.size_toArray]; omega) fun i t x h1 h3 => ?_
    obtain ⟨c1, c2, c3, c4, tk1, v, c5, c6⟩ := acc.each i t h1
    have hi : i < xs.length := by
      have := (List.getElem?_eq_some_iff.mp h3).1
      rw [enumL_len] at this
      exact this
    have hx : x = [.int (i : Nat), xs.getD i .non] := by
      unfold enumL at h3
      rw [List.getElem?_map, List.getElem?_range hi] at h3
      exact (Option.some.inj h3).symm
    obtain ⟨u, hu, ru⟩ := rv.get (i := i) (x := xs[i]) (List.getElem?_eq_getElem hi)
    obtain rfl : u = v := by
      have z : its[i]? = some v := by simpa using c5
      rw [hu] at z
      exact Option.some.inj z
    subst hx
    refine ⟨Nat.le_trans hgrow c1, by show 2 ≤ sizeLine; decide, [.int (i : Nat) tk1, u], .cons ⟨_, rfl⟩ (.cons ?_ .nil), ⟨_, c6, rfl, _, rfl⟩⟩
    rw [List.getD_eq_getElem?_getD, List.getElem?_eq_getElem hi]
    exact ru
  obtain ⟨H2, e2, u2, x2, p2, n2⟩ := more_tups (fs := X.fs) (ex := []) (I1.hok.kept keep) (Un.kept keep) (fun t ht => I1.hok.fresh ht) ts (enumL xs) acc.nd pr
  have hSn : H2 S = none := n2 S (Nat.le_trans hgrow hS) fun hm => by
    obtain ⟨j, hj⟩ := List.getElem?_of_mem hm
    exact (acc.each j S hj).2.2.2.1 rfl
  obtain ⟨c', hSo⟩ := hSo
  have hv : Vals (ts.map V.ref) (ts.map Value.ref) := by
    clear hSo pr p2 n2 u2 x2 e2 hSn acc hts
    induction ts with
    | nil => exact .nil
    | cons t ts ih => exact .cons rfl ih
  have I2 := I1.un (t' := tk) (un_more u2 (Nat.le_trans hgrow hS) hSn) (hok_more (o := .lst (ts.map V.ref)) x2 hSn ⟨by rw [List.length_map, hts]; simp only [List.size_toArray]; omega, ts.map Value.ref, c', hv, hSo⟩)
  refine ⟨.ref S, _, I2, rfl, q1 S _ (I1.hok.fresh (Nat.le_trans hgrow hS)) (e2.trans (Ex.new hSn)) ⟨ts, upd_same, pr_imp p2 fun t x _ q => (Ex.new hSn) _ _ q⟩⟩
theorem eg_listEnum {K : PySem.W.Frag} {σ : L2.St} {H : Hp} {ta : TE} {xs : List V} (h : EvL ta σ H xs) : EvG (tListEnum K ta) σ H (enumL xs) := fun H1 e Q q =>
  h H1 e _ fun p H2 np e2 hp => ⟨p, xs, rfl, sq_of hp, fun p2 H3 np2 e3 hl => q p2 H3 (fresh_back e2 np2) (e2.trans e3) hl⟩
end
end Qt
/-! Things with the same text, grouped in a dict. -/
namespace Qt
open PySem PySem.Spec PyProof.Rows L2 Evl
/-! ### places with the same text -/
def firsts (f : Nat → Str) (i : Nat) : List Nat := (List.range i).filter fun a => decide (∀ j, j < a → f j ≠ f a)
def sameP (f : Nat → Str) (i a : Nat) : List Nat := (List.range i).filter fun j => decide (f j = f a)
theorem firsts_new {f : Nat → Str} {i : Nat} (h : ∀ j, j < i → f j ≠ f i) : firsts f (i + 1) = firsts f i ++ [i] := by
  unfold firsts
  rw [List.range_succ, List.filter_append, List.filter_cons_of_pos (by exact decide_eq_true h)]
  rfl
theorem firsts_old {f : Nat → Str} {i : Nat} (h : ¬ ∀ j, j < i → f j ≠ f i) : firsts f (i + 1) = firsts f i := by
  unfold firsts
  rw [List.range_succ, List.filter_append, List.filter_cons_of_neg (by rw [decide_eq_false h]; exact Bool.false_ne_true)]
  simp
theorem same_hit {f : Nat → Str} {i a : Nat} (h : f i = f a) : sameP f (i + 1) a = sameP f i a ++ [i] := by
  unfold sameP
  rw [List.range_succ, List.filter_append, List.filter_cons_of_pos (by exact decide_eq_true h)]
  rfl
theorem same_miss {f : Nat → Str} {i a : Nat} (h : f i ≠ f a) : sameP f (i + 1) a = sameP f i a := by
  unfold sameP
  rw [List.range_succ, List.filter_append, List.filter_cons_of_neg (by rw [decide_eq_false h]; exact Bool.false_ne_true)]
  simp
theorem firsts_mem {f : Nat → Str} {i a : Nat} : a ∈ firsts f i ↔ a < i ∧ ∀ j, j < a → f j ≠ f a := by
  unfold firsts
  rw [List.mem_filter, List.mem_range, decide_eq_true_iff]
theorem firsts_inj {f : Nat → Str} {i a b : Nat} (ha : a ∈ firsts f i) (hb : b ∈ firsts f i) (e : f a = f b) : a = b := by
  have h1 := (firsts_mem.mp ha).2
  have h2 := (firsts_mem.mp hb).2
  rcases Nat.lt_trichotomy a b with h | h | h
  · exact absurd e (h2 a h)
  · exact h
  · exact absurd e.symm (h1 b h)
theorem same_none {f : Nat → Str} {i : Nat} (h : ∀ j, j < i → f j ≠ f i) : sameP f i i = [] := by
  unfold sameP
  rw [List.filter_eq_nil_iff]
  intro j hj
  rw [decide_eq_true_iff]
  exact h j (List.mem_range.mp hj)
theorem nd_inj {α β : Type} {g : α → β} : ∀ {l : List α}, (l.map g).Nodup → ∀ {x y : α}, x ∈ l → y ∈ l → g x = g y → x = y
  | [], _, x, _, hx, _, _ => by cases hx
  | a :: l, h, x, y, hx, hy, e => by
    rw [List.map_cons, List.nodup_cons] at h
    rcases List.mem_cons.mp hx with e1 | e1
    · rcases List.mem_cons.mp hy with e2 | e2
      · exact e1.trans e2.symm
      · exact (h.1 (List.mem_map.mpr ⟨y, e2, by rw [← e, e1]⟩)).elim
    · rcases List.mem_cons.mp hy with e2 | e2
      · exact (h.1 (List.mem_map.mpr ⟨x, e1, by rw [e, e2]⟩)).elim
      · exact nd_inj h.2 e1 e2 e
abbrev entry (f : Nat → Str) (g : Nat × Addr) : Key × V := (Sum.inr (f g.1), V.ref g.2)
theorem val_some {f : Nat → Str} {z : Str} {v : V} : ∀ {gs : List (Nat × Addr)}, valV (gs.map (entry f)) (.inr z) = some v → ∃ g ∈ gs, f g.1 = z ∧ v = .ref g.2
  | [], h => by cases h
  | g :: r, h => by
    by_cases e : f g.1 = z
    · rw [List.map_cons, valV_pos (by show Sum.inr (f g.1) = _; rw [e])] at h
      exact ⟨g, List.mem_cons_self, e, (Option.some.inj h).symm⟩
    · rw [List.map_cons, valV_neg (by show ¬ Sum.inr (f g.1) = _; intro q; injection q with q; exact e q)] at h
      obtain ⟨g', h1, h2⟩ := val_some h
      exact ⟨g', List.mem_cons_of_mem _ h1, h2⟩
theorem val_none {f : Nat → Str} {z : Str} : ∀ {gs : List (Nat × Addr)}, valV (gs.map (entry f)) (.inr z) = none → ∀ g ∈ gs, f g.1 ≠ z
  | [], _, g, hg => by cases hg
  | g :: r, h, g', hg => by
    by_cases e : f g.1 = z
    · rw [List.map_cons, valV_pos (by show Sum.inr (f g.1) = _; rw [e])] at h
      cases h
    · rw [List.map_cons, valV_neg (by show ¬ Sum.inr (f g.1) = _; intro q; injection q with q; exact e q)] at h
      rcases List.mem_cons.mp hg with rfl | hg
      · exact e
      · exact val_none h g' hg
theorem cover {f : Nat → Str} {i : Nat} : ∀ {j : Nat}, j < i → ∃ a ∈ firsts f i, f a = f j := by
  intro j
  induction j using Nat.strongRecOn with
  | ind j ih =>
    intro hj
    by_cases h : ∀ k, k < j → f k ≠ f j
    · exact ⟨j, firsts_mem.mpr ⟨hj, h⟩, rfl⟩
    · have ⟨k, hk⟩ : ∃ k, k < j ∧ f k = f j := by
        apply Classical.byContradiction
        intro hn
        exact h fun k hk e => hn ⟨k, hk, e⟩
      obtain ⟨a, h1, h2⟩ := ih k hk.1 (by omega)
      exact ⟨a, h1, h2.trans hk.2⟩
/-- the dict of places as it stands behind i turns -/
structure Gr (f : Nat → Str) (pv : Nat → V) (B : Hp) (d : Addr) (i : Nat) (H : Hp) (gs : List (Nat × Addr)) : Prop where
  fs : gs.map (·.1) = firsts f i
  hd : H d = some (.dK (gs.map (entry f)))
  ls : ∀ g ∈ gs, H g.2 = some (.lst ((sameP f i g.1).map pv))
  nd : (gs.map (·.2)).Nodup
  nw : ∀ g ∈ gs, B g.2 = none
  ex : ∀ b o, b ≠ d → B b = some o → H b = some o
theorem Gr.grow {f : Nat → Str} {pv : Nat → V} {B : Hp} {d : Addr} {i : Nat} {H H' : Hp} {gs : List (Nat × Addr)} (h : Gr f pv B d i H gs) (e : Ex H H') : Gr f pv B d i H' gs :=
  ⟨h.fs, e _ _ h.hd, fun g hg => e _ _ (h.ls g hg), h.nd, h.nw, fun b o hb q => e _ _ (h.ex b o hb q)⟩
theorem Gr.hit {f : Nat → Str} {pv : Nat → V} {B : Hp} {d : Addr} {i : Nat} {H : Hp} {gs : List (Nat × Addr)} (h : Gr f pv B d i H gs) {g : Nat × Addr} (hg : g ∈ gs) (e : f g.1 = f i) :
    Gr f pv B d (i + 1) (upd H g.2 (.lst ((sameP f i g.1).map pv ++ [pv i]))) gs := by
  have mem : ∀ {g'}, g' ∈ gs → g'.1 ∈ firsts f i := fun hg' => by rw [← h.fs]; exact List.mem_map.mpr ⟨_, hg', rfl⟩
  have old : ¬ ∀ j, j < i → f j ≠ f i := fun q => q g.1 (firsts_mem.mp (mem hg)).1 e
  have nd : d ≠ g.2 := fun q => by
    have := h.ls g hg
    rw [← q, h.hd] at this
    cases this
  refine ⟨by rw [firsts_old old]; exact h.fs, by rw [upd_ne nd]; exact h.hd, fun g' hg' => ?_, h.nd, h.nw, fun b o hb q => ?_⟩
  · by_cases eq : g' = g
    · subst eq
      rw [upd_same, same_hit e.symm]
      rw [List.map_append]
      rfl
    · have ne2 : g'.2 ≠ g.2 := fun q => eq (nd_inj h.nd hg' hg q)
      have ne1 : f i ≠ f g'.1 := fun q => by
        have := firsts_inj (mem hg') (mem hg) (q.symm.trans e.symm)
        have h2 := nd_inj (g := fun g : Nat × Addr => g.2) h.nd hg' hg
        exact eq (nd_inj (g := fun g : Nat × Addr => g.1) (by
          rw [h.fs]
          unfold firsts
          exact List.Pairwise.filter _ List.nodup_range) hg' hg this)
      rw [upd_ne ne2, same_miss ne1]
      exact h.ls g' hg'
  · have : b ≠ g.2 := fun z => by
      have n := h.nw g hg
      rw [← z, q] at n
      cases n
    rw [upd_ne this]
    exact h.ex b o hb q
theorem Gr.miss {f : Nat → Str} {pv : Nat → V} {B : Hp} {d : Addr} {i : Nat} {H : Hp} {gs : List (Nat × Addr)} (h : Gr f pv B d i H gs) {L : Addr} (hL : H L = none) (hB : B d ≠ none) (no : ∀ g ∈ gs, f g.1 ≠ f i) :
    Gr f pv B d (i + 1) (upd (upd (upd H L (.lst [])) d (.dK (gs.map (entry f) ++ [(Sum.inr (f i), V.ref L)]))) L (.lst [pv i])) (gs ++ [(i, L)]) := by
  have new : ∀ j, j < i → f j ≠ f i := fun j hj e => by
    obtain ⟨a, h1, h2⟩ := cover hj
    rw [← h.fs] at h1
    obtain ⟨g, hg, rfl⟩ := List.mem_map.mp h1
    exact no g hg (h2.trans e)
  have dL : d ≠ L := fun q => by rw [← q, h.hd] at hL; cases hL
  have at_ : ∀ b, b ≠ d → b ≠ L → upd (upd (upd H L (.lst [])) d (.dK (gs.map (entry f) ++ [(Sum.inr (f i), V.ref L)]))) L (.lst [pv i]) b = H b := fun b h1 h2 => by
    rw [upd_ne h2, upd_ne h1, upd_ne h2]
  have gL : ∀ g ∈ gs, g.2 ≠ L := fun g hg q => by
    have := h.ls g hg
    rw [q, hL] at this
    cases this
  have gd : ∀ g ∈ gs, g.2 ≠ d := fun g hg q => by
    have := h.ls g hg
    rw [q, h.hd] at this
    cases this
  have BL : B L = none := by
    cases q : B L with
    | none => rfl
    | some o =>
      have := h.ex L o dL.symm q
      rw [hL] at this
      cases this
  refine ⟨?_, ?_, fun g hg => ?_, ?_, fun g hg => ?_, fun b o hb q => ?_⟩
  · rw [List.map_append, h.fs, firsts_new new]
    rfl
  · rw [upd_ne dL, upd_same, List.map_append]
    rfl
  · rcases List.mem_append.mp hg with hg | hg
    · rw [at_ _ (gd g hg) (gL g hg), same_miss (fun q => no g hg q.symm)]
      exact h.ls g hg
    · obtain rfl := List.mem_singleton.mp hg
      rw [upd_same, same_hit rfl, same_none new]
      rfl
  · rw [List.map_append, List.map_cons, List.map_nil, nodup_snoc]
    refine ⟨h.nd, fun q => ?_⟩
    obtain ⟨g, hg, e⟩ := List.mem_map.mp q
    exact gL g hg e
  · rcases List.mem_append.mp hg with hg | hg
    · exact h.nw g hg
    · obtain rfl := List.mem_singleton.mp hg
      exact BL
  · have : b ≠ L := fun z => by rw [← z, q] at BL; cases BL
    rw [at_ b hb this]
    exact h.ex b o hb q
def longs (xs : List (List V)) : List (List V) := xs.filter fun x => decide (1 < x.length)
theorem longs_len {xs : List (List V)} {x : List V} (h : x ∈ longs xs) : 1 < x.length := of_decide_eq_true (List.mem_filter.mp h).2
/-- the groups of n things pv with the texts f -/
def groupsL (f : Nat → Str) (pv : Nat → V) (n : Nat) : List (List V) := longs ((firsts f n).map fun a => (sameP f n a).map pv)
theorem firsts_len (f : Nat → Str) (i : Nat) : (firsts f i).length ≤ i := by
  unfold firsts
  have z3 := List.length_filter_le (fun a => decide (∀ j, j < a → f j ≠ f a)) (List.range i)
  rw [List.length_range] at z3
  exact z3
theorem same_len (f : Nat → Str) (i a : Nat) : (sameP f i a).length ≤ i := by
  unfold sameP
  have z3 := List.length_filter_le (fun j => decide (f j = f a)) (List.range i)
  rw [List.length_range] at z3
  exact z3
end Qt
/-! Small lemmas for calls that may raise. -/
namespace Qt
open PySem PySem.Spec PyProof.Rows L2 Evl
section
variable {K : PySem.W.Frag} {σ : L2.St} {H : Hp} {te : TE} {ta : TA}
theorem ev_slT {tl th : TO} {z : Str} {lo hi : Option Int} (h : Ev te σ H (.str z)) (h1 : EvO tl σ H lo) (h2 : EvO th σ H hi) (hz : z.length ≤ 100000) : Ev (tSl rSlS te tl th) σ H (.str (cutS z lo hi)) := fun H1 e Q q =>
  h H1 e _ fun H2 e2 => h1 H2 (e.trans e2) _ fun H3 e3 => h2 H3 ((e.trans e2).trans e3) _ fun H4 e4 => ⟨z, rfl, sz_of hz, q H4 ((e2.trans e3).trans e4)⟩
/-- a call whose promise is told here, its arguments known -/
theorem x_call {sp : Sp} {dvs vs : List V} {E : XK} {Q : VK} (h : EvA ta σ H vs) (k : ∀ H1, Ex H H1 → sp (vs ++ dvs) H1 Q E) : tCall sp dvs E ta σ H Q := h H (Ex.refl H) _ k
theorem x_callE {Cd : Addr → Sp → Prop} {E : L2.St → XK} {tf : TE} {f : Addr} {sp : Sp} {vs : List V} {Q : VK} (hf : Ev tf σ H (.ref f)) (hd : Cd f sp) (h : EvA ta σ H vs) (k : ∀ H1, Ex H H1 → sp vs H1 Q (E σ)) : tCallE tf Cd E ta σ H Q :=
  hf H (Ex.refl H) _ fun H1 e1 => ⟨f, sp, rfl, hd, h H1 e1 _ fun H2 e2 => k H2 (e1.trans e2)⟩
/-- no promise at all -/
def spNo : Sp := fun _ _ _ _ => False
theorem spNo_any {sp : Sp} {vs : List V} {H : Hp} {Q : VK} {E : XK} (h : False) : sp vs H Q E := h.elim
def tTruth (K : PySem.W.Frag) (ta : TE) : TT := fun σ H Q => ta σ H fun x H' => ∃ k, TruV K x H' k ∧ Q k H'
theorem pt_truthK {X : Cx} (K : PySem.W.Frag) (hK : X.K = K) {a : Expr} {ta : TE} (ha : PE X a ta) (he : ∀ whole, isTrue a X.env whole = (do let v ← whole; standAt a.pos; holding [v] (truthy v))) : PT X a (tTruth K ta) := by
  subst hK
  exact pt_truth ha he
theorem et_truthS {t : TE} {z : Str} (h : Ev t σ H (.str z)) (hz : z.length ≤ 100000) : EvT (tTruth K t) σ H (!decide (z.length = 0)) := fun H1 e Q q =>
  h H1 e _ fun H2 e2 => ⟨_, ⟨sz_of hz, by
    by_cases h0 : z.length = 0
    · simp [h0]
    · have : ¬ ((z.length : Int) = 0) := by omega
      simp [h0]⟩, q H2 e2⟩
theorem et_truthL {t : TE} {a : Addr} {xs : List V} (h : Ev t σ H (.ref a)) (hx : SqL K H a xs) : EvT (tTruth K t) σ H (!xs.isEmpty) := fun H1 e Q q =>
  h H1 e _ fun H2 e2 => ⟨_, .inl ⟨xs, ex_l (e.trans e2) hx, rfl⟩, q H2 e2⟩
/-- text.split(sep) -/
theorem el_split {to te : TE} {a b : Str} (h0 : Ev to σ H (.str a)) (h : Ev te σ H (.str b)) (hb : (b.length == 0) = false) (hz : a.length ≤ 100000) :
    EvL (tM1 (fun x xs H Q => ∃ a b, x = .str a ∧ xs = [.str b] ∧ (b.length == 0) = false ∧ a.length + 2 ≤ sizeLine ∧ rNewStrs (Txt.split a b) H Q) to te) σ H ((Txt.split a b).map V.str) := fun H1 e Q q =>
  h0 H1 e _ fun H2 e2 => ⟨⟨a, rfl⟩, h H2 (e.trans e2) _ fun H3 e3 => ⟨a, b, rfl, rfl, hb, by rw [sizeLine_eq]; omega, fun p hp => q p _ (fresh_back (e2.trans e3) hp) ((e2.trans e3).trans (Ex.new hp)) upd_same⟩⟩
/-- [x for x in texts if x] -/
theorem el_texts {tl : TE} {j : Nat} {vs : List Nat} {l : List Str} (h : EvL tl σ H (l.map V.str)) (hz : l.length ≤ 40000) (hl : ∀ z ∈ l, z.length ≤ 100000) (hw : ∀ x, wipe ((wipe σ vs).set j (some x)) vs = wipe σ vs) (hj : ∀ x, ((wipe σ vs).set j (some x))[j]? = some (some x)) :
    EvL (tLc (iList K tl) (gName j) (tTruth K (tVar j)) (tVar j) vs) σ H ((l.filter fun z => !decide (z.length = 0)).map V.str) := by
  have g : ∀ {i : Nat} {x : V}, (l.map V.str)[i]? = some x → i < l.length ∧ x = .str (l.getD i Str.empty) := fun {i x} hx => by
    rw [List.getElem?_map] at hx
    cases e : l[i]? with
    | none => rw [e] at hx; cases hx
    | some z =>
      rw [e] at hx
      refine ⟨(List.getElem?_eq_some_iff.mp e).1, ?_⟩
      rw [List.getD_eq_getElem?_getD, e]
      exact (Option.some.inj hx).symm
  have z := el_lcNL (K := K) (tl := tl) (t := tTruth K (tVar j)) (te := tVar j) (j := j) (vs := vs) (σ := σ) (H := H) (xs := l.map V.str) (fun i => !decide ((l.getD i Str.empty).length = 0)) (fun i => V.str (l.getD i Str.empty)) h (by rw [List.length_map]; exact hz) hw
    (fun i x H1 e1 hx => by
      obtain ⟨hi, rfl⟩ := g hx
      exact et_truthS (ev_var (hj _)) (hl _ (by rw [List.getD_eq_getElem?_getD, List.getElem?_eq_getElem hi]; exact List.getElem_mem hi)))
    (fun i x H1 e1 hx _ => by
      obtain ⟨hi, rfl⟩ := g hx
      exact ev_var (hj _))
  have e : given (l.map V.str).length (fun i => !decide ((l.getD i Str.empty).length = 0)) (fun i => V.str (l.getD i Str.empty)) = (l.filter fun z => !decide (z.length = 0)).map V.str := by
    rw [List.length_map]
    exact given_filter l Str.empty (fun z => !decide (z.length = 0)) V.str
  rw [e] at z
  exact z
end
end Qt
namespace K10
open PySem PySem.Spec PyProof.Rows L2 Evl Qt
def topS (i : Nat) : Stmt := PySem.Challenge.pw_holedwindows_k10_letters_refused.main.body.getD i (.Pass ⟨0, 0, 0, 0⟩)
abbrev s_parts_of : Stmt := topS 1
abbrev n_parts_of : List Str := ["thing"]
abbrev p_parts_of : List Str := ["thing"]
theorem sc_parts_of : FnScope n_parts_of p_parts_of (defScope s_parts_of) := ⟨rfl, rfl, rfl, by decide +kernel, rfl, by decide +kernel, by decide +kernel⟩
abbrev s_rebuilt : Stmt := topS 2
abbrev n_rebuilt : List Str := ["thing", "parts", "key", "part"]
abbrev p_rebuilt : List Str := ["thing", "parts"]
theorem sc_rebuilt : FnScope n_rebuilt p_rebuilt (defScope s_rebuilt) := ⟨rfl, rfl, rfl, by decide +kernel, rfl, by decide +kernel, by decide +kernel⟩
abbrev s_copied : Stmt := topS 3
abbrev n_copied : List Str := ["value", "waiting", "ready", "thing", "has_parts", "start", "parts", "part"]
abbrev p_copied : List Str := ["value"]
theorem sc_copied : FnScope n_copied p_copied (defScope s_copied) := ⟨rfl, rfl, rfl, by decide +kernel, rfl, by decide +kernel, by decide +kernel⟩
abbrev s_BadNumber___init__ : Stmt := inClass (topS 8) 0
abbrev n_BadNumber___init__ : List Str := ["self", "n"]
abbrev p_BadNumber___init__ : List Str := ["self", "n"]
theorem sc_BadNumber___init__ : FnScope n_BadNumber___init__ p_BadNumber___init__ (defScope s_BadNumber___init__) := ⟨rfl, rfl, rfl, by decide +kernel, rfl, by decide +kernel, by decide +kernel⟩
abbrev s_TooLong___init__ : Stmt := inClass (topS 10) 0
abbrev n_TooLong___init__ : List Str := ["self", "most"]
abbrev p_TooLong___init__ : List Str := ["self", "most"]
theorem sc_TooLong___init__ : FnScope n_TooLong___init__ p_TooLong___init__ (defScope s_TooLong___init__) := ⟨rfl, rfl, rfl, by decide +kernel, rfl, by decide +kernel, by decide +kernel⟩
abbrev s_made_of : Stmt := topS 18
abbrev n_made_of : List Str := ["value", "signs", "sign"]
abbrev p_made_of : List Str := ["value", "signs"]
theorem sc_made_of : FnScope n_made_of p_made_of (defScope s_made_of) := ⟨rfl, rfl, rfl, by decide +kernel, rfl, by decide +kernel, by decide +kernel⟩
abbrev s_is_mask : Stmt := topS 19
abbrev n_is_mask : List Str := ["value"]
abbrev p_is_mask : List Str := ["value"]
theorem sc_is_mask : FnScope n_is_mask p_is_mask (defScope s_is_mask) := ⟨rfl, rfl, rfl, by decide +kernel, rfl, by decide +kernel, by decide +kernel⟩
abbrev s_check_mask : Stmt := topS 20
abbrev n_check_mask : List Str := ["mask"]
abbrev p_check_mask : List Str := ["mask"]
theorem sc_check_mask : FnScope n_check_mask p_check_mask (defScope s_check_mask) := ⟨rfl, rfl, rfl, by decide +kernel, rfl, by decide +kernel, by decide +kernel⟩
abbrev s_is_row : Stmt := topS 21
abbrev n_is_row : List Str := ["value"]
abbrev p_is_row : List Str := ["value"]
theorem sc_is_row : FnScope n_is_row p_is_row (defScope s_is_row) := ⟨rfl, rfl, rfl, by decide +kernel, rfl, by decide +kernel, by decide +kernel⟩
abbrev s_check_row : Stmt := topS 22
abbrev n_check_row : List Str := ["row"]
abbrev p_check_row : List Str := ["row"]
theorem sc_check_row : FnScope n_check_row p_check_row (defScope s_check_row) := ⟨rfl, rfl, rfl, by decide +kernel, rfl, by decide +kernel, by decide +kernel⟩
abbrev s_check_ring : Stmt := topS 23
abbrev n_check_ring : List Str := ["row"]
abbrev p_check_ring : List Str := ["row"]
theorem sc_check_ring : FnScope n_check_ring p_check_ring (defScope s_check_ring) := ⟨rfl, rfl, rfl, by decide +kernel, rfl, by decide +kernel, by decide +kernel⟩
abbrev s_is_number : Stmt := topS 24
abbrev n_is_number : List Str := ["n", "least", "most"]
abbrev p_is_number : List Str := ["n", "least", "most"]
theorem sc_is_number : FnScope n_is_number p_is_number (defScope s_is_number) := ⟨rfl, rfl, rfl, by decide +kernel, rfl, by decide +kernel, by decide +kernel⟩
abbrev s_check_number : Stmt := topS 25
abbrev n_check_number : List Str := ["n", "least", "most"]
abbrev p_check_number : List Str := ["n", "least", "most"]
theorem sc_check_number : FnScope n_check_number p_check_number (defScope s_check_number) := ⟨rfl, rfl, rfl, by decide +kernel, rfl, by decide +kernel, by decide +kernel⟩
abbrev s_check_letters : Stmt := topS 26
abbrev n_check_letters : List Str := ["letters"]
abbrev p_check_letters : List Str := ["letters"]
theorem sc_check_letters : FnScope n_check_letters p_check_letters (defScope s_check_letters) := ⟨rfl, rfl, rfl, by decide +kernel, rfl, by decide +kernel, by decide +kernel⟩
abbrev s_check_great : Stmt := topS 27
abbrev n_check_great : List Str := ["width", "many", "letters"]
abbrev p_check_great : List Str := ["width", "many", "letters"]
theorem sc_check_great : FnScope n_check_great p_check_great (defScope s_check_great) := ⟨rfl, rfl, rfl, by decide +kernel, rfl, by decide +kernel, by decide +kernel⟩
abbrev s_check_small : Stmt := topS 28
abbrev n_check_small : List Str := ["mask", "letters"]
abbrev p_check_small : List Str := ["mask", "letters"]
theorem sc_check_small : FnScope n_check_small p_check_small (defScope s_check_small) := ⟨rfl, rfl, rfl, by decide +kernel, rfl, by decide +kernel, by decide +kernel⟩
abbrev s_check_row_in : Stmt := topS 29
abbrev n_check_row_in : List Str := ["row", "letters"]
abbrev p_check_row_in : List Str := ["row", "letters"]
theorem sc_check_row_in : FnScope n_check_row_in p_check_row_in (defScope s_check_row_in) := ⟨rfl, rfl, rfl, by decide +kernel, rfl, by decide +kernel, by decide +kernel⟩
abbrev s_check_lettered : Stmt := topS 30
abbrev n_check_lettered : List Str := ["row", "mask", "letters"]
abbrev p_check_lettered : List Str := ["row", "mask", "letters"]
theorem sc_check_lettered : FnScope n_check_lettered p_check_lettered (defScope s_check_lettered) := ⟨rfl, rfl, rfl, by decide +kernel, rfl, by decide +kernel, by decide +kernel⟩
abbrev s_seen : Stmt := topS 32
abbrev n_seen : List Str := ["mask", "place", "sign"]
abbrev p_seen : List Str := ["mask"]
theorem sc_seen : FnScope n_seen p_seen (defScope s_seen) := ⟨rfl, rfl, rfl, by decide +kernel, rfl, by decide +kernel, by decide +kernel⟩
abbrev s_view_at : Stmt := topS 34
abbrev n_view_at : List Str := ["row", "places", "start", "place"]
abbrev p_view_at : List Str := ["row", "places", "start"]
theorem sc_view_at : FnScope n_view_at p_view_at (defScope s_view_at) := ⟨rfl, rfl, rfl, by decide +kernel, rfl, by decide +kernel, by decide +kernel⟩
abbrev s_others : Stmt := topS 35
abbrev n_others : List Str := ["view", "look", "letter", "sign"]
abbrev p_others : List Str := ["view", "look"]
theorem sc_others : FnScope n_others p_others (defScope s_others) := ⟨rfl, rfl, rfl, by decide +kernel, rfl, by decide +kernel, by decide +kernel⟩
abbrev s_views : Stmt := topS 36
abbrev n_views : List Str := ["row", "mask", "places", "start"]
abbrev p_views : List Str := ["row", "mask"]
theorem sc_views : FnScope n_views p_views (defScope s_views) := ⟨rfl, rfl, rfl, by decide +kernel, rfl, by decide +kernel, by decide +kernel⟩
abbrev s_all_unlike : Stmt := topS 37
abbrev n_all_unlike : List Str := ["found"]
abbrev p_all_unlike : List Str := ["found"]
theorem sc_all_unlike : FnScope n_all_unlike p_all_unlike (defScope s_all_unlike) := ⟨rfl, rfl, rfl, by decide +kernel, rfl, by decide +kernel, by decide +kernel⟩
abbrev s_tells : Stmt := topS 38
abbrev n_tells : List Str := ["row", "mask"]
abbrev p_tells : List Str := ["row", "mask"]
theorem sc_tells : FnScope n_tells p_tells (defScope s_tells) := ⟨rfl, rfl, rfl, by decide +kernel, rfl, by decide +kernel, by decide +kernel⟩
abbrev s_words : Stmt := topS 40
abbrev n_words : List Str := ["signs", "many", "found", "_", "word", "sign"]
abbrev p_words : List Str := ["signs", "many"]
theorem sc_words : FnScope n_words p_words (defScope s_words) := ⟨rfl, rfl, rfl, by decide +kernel, rfl, by decide +kernel, by decide +kernel⟩
abbrev s_near_bits : Stmt := topS 42
abbrev n_near_bits : List Str := ["bits", "view", "far", "other"]
abbrev p_near_bits : List Str := ["bits", "view", "far"]
theorem sc_near_bits : FnScope n_near_bits p_near_bits (defScope s_near_bits) := ⟨rfl, rfl, rfl, by decide +kernel, rfl, by decide +kernel, by decide +kernel⟩
abbrev s_window_bits : Stmt := topS 43
abbrev n_window_bits : List Str := ["mask", "signs", "far", "places", "bits", "barred", "shown", "at", "view", "window"]
abbrev p_window_bits : List Str := ["mask", "signs", "far"]
theorem sc_window_bits : FnScope n_window_bits p_window_bits (defScope s_window_bits) := ⟨rfl, rfl, rfl, by decide +kernel, rfl, by decide +kernel, by decide +kernel⟩
abbrev s_Growth___init__ : Stmt := inClass (topS 44) 0
abbrev n_Growth___init__ : List Str := ["self", "mask", "letters", "far"]
abbrev p_Growth___init__ : List Str := ["self", "mask", "letters", "far"]
theorem sc_Growth___init__ : FnScope n_Growth___init__ p_Growth___init__ (defScope s_Growth___init__) := ⟨rfl, rfl, rfl, by decide +kernel, rfl, by decide +kernel, by decide +kernel⟩
abbrev s_Growth_begun : Stmt := inClass (topS 44) 1
abbrev n_Growth_begun : List Str := ["self", "row", "barred", "start", "_", "near"]
abbrev p_Growth_begun : List Str := ["self", "row"]
theorem sc_Growth_begun : FnScope n_Growth_begun p_Growth_begun (defScope s_Growth_begun) := ⟨rfl, rfl, rfl, by decide +kernel, rfl, by decide +kernel, by decide +kernel⟩
abbrev s_Growth_longer : Stmt := inClass (topS 44) 2
abbrev n_Growth_longer : List Str := ["self", "told", "found", "row", "barred", "sign", "more", "bit", "near"]
abbrev p_Growth_longer : List Str := ["self", "told"]
theorem sc_Growth_longer : FnScope n_Growth_longer p_Growth_longer (defScope s_Growth_longer) := ⟨rfl, rfl, rfl, by decide +kernel, rfl, by decide +kernel, by decide +kernel⟩
abbrev s_told_rows : Stmt := topS 45
abbrev n_told_rows : List Str := ["mask", "letters", "length", "growth", "told", "_", "row"]
abbrev p_told_rows : List Str := ["mask", "letters", "length"]
theorem sc_told_rows : FnScope n_told_rows p_told_rows (defScope s_told_rows) := ⟨rfl, rfl, rfl, by decide +kernel, rfl, by decide +kernel, by decide +kernel⟩
abbrev s_farthest_rows : Stmt := topS 46
abbrev n_farthest_rows : List Str := ["row", "mask", "letters", "far", "growth", "told", "more", "made", "_"]
abbrev p_farthest_rows : List Str := ["row", "mask", "letters", "far"]
theorem sc_farthest_rows : FnScope n_farthest_rows p_farthest_rows (defScope s_farthest_rows) := ⟨rfl, rfl, rfl, by decide +kernel, rfl, by decide +kernel, by decide +kernel⟩
abbrev s_longest_rows : Stmt := topS 48
abbrev n_longest_rows : List Str := ["mask", "letters"]
abbrev p_longest_rows : List Str := ["mask", "letters"]
theorem sc_longest_rows : FnScope n_longest_rows p_longest_rows (defScope s_longest_rows) := ⟨rfl, rfl, rfl, by decide +kernel, rfl, by decide +kernel, by decide +kernel⟩
abbrev s_longest : Stmt := topS 49
abbrev n_longest : List Str := ["mask", "letters"]
abbrev p_longest : List Str := ["mask", "letters"]
theorem sc_longest : FnScope n_longest p_longest (defScope s_longest) := ⟨rfl, rfl, rfl, by decide +kernel, rfl, by decide +kernel, by decide +kernel⟩
abbrev s_count_rows : Stmt := topS 50
abbrev n_count_rows : List Str := ["mask", "letters", "length"]
abbrev p_count_rows : List Str := ["mask", "letters", "length"]
theorem sc_count_rows : FnScope n_count_rows p_count_rows (defScope s_count_rows) := ⟨rfl, rfl, rfl, by decide +kernel, rfl, by decide +kernel, by decide +kernel⟩
abbrev s_next_letters : Stmt := topS 51
abbrev n_next_letters : List Str := ["row", "mask", "letters", "signs", "found", "places", "start", "sign"]
abbrev p_next_letters : List Str := ["row", "mask", "letters"]
theorem sc_next_letters : FnScope n_next_letters p_next_letters (defScope s_next_letters) := ⟨rfl, rfl, rfl, by decide +kernel, rfl, by decide +kernel, by decide +kernel⟩
abbrev s_farthest : Stmt := topS 52
abbrev n_farthest : List Str := ["row", "mask", "letters"]
abbrev p_farthest : List Str := ["row", "mask", "letters"]
theorem sc_farthest : FnScope n_farthest p_farthest (defScope s_farthest) := ⟨rfl, rfl, rfl, by decide +kernel, rfl, by decide +kernel, by decide +kernel⟩
abbrev s_masks_of : Stmt := topS 54
abbrev n_masks_of : List Str := ["width", "inner"]
abbrev p_masks_of : List Str := ["width"]
theorem sc_masks_of : FnScope n_masks_of p_masks_of (defScope s_masks_of) := ⟨rfl, rfl, rfl, by decide +kernel, rfl, by decide +kernel, by decide +kernel⟩
abbrev s_masks_to : Stmt := topS 55
abbrev n_masks_to : List Str := ["width", "narrow", "mask"]
abbrev p_masks_to : List Str := ["width"]
theorem sc_masks_to : FnScope n_masks_to p_masks_to (defScope s_masks_to) := ⟨rfl, rfl, rfl, by decide +kernel, rfl, by decide +kernel, by decide +kernel⟩
abbrev s_best_masks : Stmt := topS 56
abbrev n_best_masks : List Str := ["many", "width", "letters", "lengths", "best", "mask"]
abbrev p_best_masks : List Str := ["many", "width", "letters"]
theorem sc_best_masks : FnScope n_best_masks p_best_masks (defScope s_best_masks) := ⟨rfl, rfl, rfl, by decide +kernel, rfl, by decide +kernel, by decide +kernel⟩
abbrev s_told_near : Stmt := topS 59
abbrev n_told_near : List Str := ["row", "mask", "signs", "changes", "made", "_", "longer", "begun", "sign"]
abbrev p_told_near : List Str := ["row", "mask", "signs", "changes"]
theorem sc_told_near : FnScope n_told_near p_told_near (defScope s_told_near) := ⟨rfl, rfl, rfl, by decide +kernel, rfl, by decide +kernel, by decide +kernel⟩
abbrev s_mend : Stmt := topS 60
abbrev n_mend : List Str := ["row", "mask", "letters", "changes", "made"]
abbrev p_mend : List Str := ["row", "mask", "letters"]
theorem sc_mend : FnScope n_mend p_mend (defScope s_mend) := ⟨rfl, rfl, rfl, by decide +kernel, rfl, by decide +kernel, by decide +kernel⟩
abbrev s_weak_letters : Stmt := topS 61
abbrev n_weak_letters : List Str := ["row", "mask", "letters", "place", "sign"]
abbrev p_weak_letters : List Str := ["row", "mask", "letters"]
theorem sc_weak_letters : FnScope n_weak_letters p_weak_letters (defScope s_weak_letters) := ⟨rfl, rfl, rfl, by decide +kernel, rfl, by decide +kernel, by decide +kernel⟩
abbrev s_ring_view : Stmt := topS 63
abbrev n_ring_view : List Str := ["row", "places", "start", "place"]
abbrev p_ring_view : List Str := ["row", "places", "start"]
theorem sc_ring_view : FnScope n_ring_view p_ring_view (defScope s_ring_view) := ⟨rfl, rfl, rfl, by decide +kernel, rfl, by decide +kernel, by decide +kernel⟩
abbrev s_ring_views : Stmt := topS 64
abbrev n_ring_views : List Str := ["row", "mask", "places", "start"]
abbrev p_ring_views : List Str := ["row", "mask"]
theorem sc_ring_views : FnScope n_ring_views p_ring_views (defScope s_ring_views) := ⟨rfl, rfl, rfl, by decide +kernel, rfl, by decide +kernel, by decide +kernel⟩
abbrev s_ring_tells : Stmt := topS 65
abbrev n_ring_tells : List Str := ["row", "mask"]
abbrev p_ring_tells : List Str := ["row", "mask"]
theorem sc_ring_tells : FnScope n_ring_tells p_ring_tells (defScope s_ring_tells) := ⟨rfl, rfl, rfl, by decide +kernel, rfl, by decide +kernel, by decide +kernel⟩
abbrev s_count_views : Stmt := topS 66
abbrev n_count_views : List Str := ["mask", "letters"]
abbrev p_count_views : List Str := ["mask", "letters"]
theorem sc_count_views : FnScope n_count_views p_count_views (defScope s_count_views) := ⟨rfl, rfl, rfl, by decide +kernel, rfl, by decide +kernel, by decide +kernel⟩
abbrev s_is_least : Stmt := topS 67
abbrev n_is_least : List Str := ["row", "start"]
abbrev p_is_least : List Str := ["row"]
theorem sc_is_least : FnScope n_is_least p_is_least (defScope s_is_least) := ⟨rfl, rfl, rfl, by decide +kernel, rfl, by decide +kernel, by decide +kernel⟩
abbrev s_longest_ring : Stmt := topS 68
abbrev n_longest_ring : List Str := ["mask", "letters", "length", "row"]
abbrev p_longest_ring : List Str := ["mask", "letters"]
theorem sc_longest_ring : FnScope n_longest_ring p_longest_ring (defScope s_longest_ring) := ⟨rfl, rfl, rfl, by decide +kernel, rfl, by decide +kernel, by decide +kernel⟩
abbrev s_full_rings : Stmt := topS 69
abbrev n_full_rings : List Str := ["mask", "letters", "rows", "row"]
abbrev p_full_rings : List Str := ["mask", "letters"]
theorem sc_full_rings : FnScope n_full_rings p_full_rings (defScope s_full_rings) := ⟨rfl, rfl, rfl, by decide +kernel, rfl, by decide +kernel, by decide +kernel⟩
abbrev s__law_taken : Stmt := topS 71
abbrev n__law_taken : List Str := ["_law_row", "_law_many", "_law_found", "_law_cell"]
abbrev p__law_taken : List Str := ["_law_row", "_law_many"]
theorem sc__law_taken : FnScope n__law_taken p__law_taken (defScope s__law_taken) := ⟨rfl, rfl, rfl, by decide +kernel, rfl, by decide +kernel, by decide +kernel⟩
abbrev s__law_call : Stmt := topS 72
abbrev n__law_call : List Str := ["_law_kind", "_law_mask", "_law_letters", "_law_line"]
abbrev p__law_call : List Str := ["_law_kind", "_law_mask", "_law_letters", "_law_line"]
theorem sc__law_call : FnScope n__law_call p__law_call (defScope s__law_call) := ⟨rfl, rfl, rfl, by decide +kernel, rfl, by decide +kernel, by decide +kernel⟩
abbrev s__law_refused : Stmt := topS 73
abbrev n__law_refused : List Str := ["_law_kind", "_law_mask", "_law_letters", "_law_line", "_law_found"]
abbrev p__law_refused : List Str := ["_law_kind", "_law_mask", "_law_letters", "_law_line"]
theorem sc__law_refused : FnScope n__law_refused p__law_refused (defScope s__law_refused) := ⟨rfl, rfl, rfl, by decide +kernel, rfl, by decide +kernel, by decide +kernel⟩
abbrev s__law_best : Stmt := topS 74
abbrev n__law_best : List Str := ["_law_many", "_law_width", "_law_letters", "_law_found", "e"]
abbrev p__law_best : List Str := ["_law_many", "_law_width", "_law_letters"]
theorem sc__law_best : FnScope n__law_best p__law_best (defScope s__law_best) := ⟨rfl, rfl, rfl, by decide +kernel, rfl, by decide +kernel, by decide +kernel⟩
abbrev s_law : Stmt := topS 75
abbrev n_law : List Str := ["_law_script", "_law_row", "_law_turn", "_law_bad", "_law_letters", "_law_wide", "_law_other", "_law_wrong"]
abbrev p_law : List Str := ["_law_script"]
theorem sc_law : FnScope n_law p_law (defScope s_law) := ⟨rfl, rfl, rfl, by decide +kernel, rfl, by decide +kernel, by decide +kernel⟩
structure Top (K : PySem.W.Frag) (mg : Str → Option Value) (CM CR CLt CN CTg W fI a_SMALL_WIDTH a_SMALL_SEEN : Addr) : Prop where
  m_isinstance : mg "isinstance" = none
  m_str : mg "str" = none
  m_int : mg "int" = none
  m_bool : mg "bool" = none
  m_list : mg "list" = none
  m_tuple : mg "tuple" = none
  m_dict : mg "dict" = none
  m_all : mg "all" = none
  m_len : mg "len" = none
  m_enumerate : mg "enumerate" = none
  m_range : mg "range" = none
  m_reversed : mg "reversed" = none
  m_zip : mg "zip" = none
  m_set : mg "set" = none
  m_min : mg "min" = none
  m_max : mg "max" = none
  m_sum : mg "sum" = none
  g_LETTERS : ∃ t, mg "LETTERS" = some (.str (PySem.Str.ofString "abcd") t)
  g_UNREAD : ∃ t, mg "UNREAD" = some (.str (PySem.Str.ofString "?") t)
  g_WIDEST : ∃ t, mg "WIDEST" = some (.int 12 t)
  g_LONGEST : ∃ t, mg "LONGEST" = some (.int 60 t)
  g_LONGEST_TO_MEND : ∃ t, mg "LONGEST_TO_MEND" = some (.int 8 t)
  g_SMALL_WIDTH : mg "SMALL_WIDTH" = some (.ref a_SMALL_WIDTH) ∧ TabI K a_SMALL_WIDTH [(1, 12), (2, 8), (3, 5), (4, 4)]
  g_SMALL_SEEN : mg "SMALL_SEEN" = some (.ref a_SMALL_SEEN) ∧ TabI K a_SMALL_SEEN [(1, 12), (2, 4), (3, 2), (4, 1)]
  e_BadMask : ExcC K mg "BadMask" CM
  e_BadRow : ExcC K mg "BadRow" CR
  e_BadLetters : ExcC K mg "BadLetters" CLt
  e_TooGreat : ExcC K mg "TooGreat" CTg
  e_BadNumber : ExcI K mg "BadNumber" "n" CN fI
  f_init : ∃ fd, Fun K "__init__" "BadNumber.__init__" s_BadNumber___init__ fI fd ∧ Binds K fd p_BadNumber___init__ []
  b_WindowError : mg "WindowError" = some (.ref W) ∧ OwnBase K W
  q_CLt_CLt : PySem.W.exmOne K (.ref CLt) (.ref CLt) = some true
  q_CTg_CLt : PySem.W.exmOne K (.ref CTg) (.ref CLt) = some false
  q_CTg_CTg : PySem.W.exmOne K (.ref CTg) (.ref CTg) = some true
  q_CR_CLt : PySem.W.exmOne K (.ref CR) (.ref CLt) = some false
  q_CR_CTg : PySem.W.exmOne K (.ref CR) (.ref CTg) = some false
  q_CR_CR : PySem.W.exmOne K (.ref CR) (.ref CR) = some true
  q_CN_CLt : PySem.W.exmOne K (.ref CN) (.ref CLt) = some false
  q_CN_CTg : PySem.W.exmOne K (.ref CN) (.ref CTg) = some false
  q_CN_CR : PySem.W.exmOne K (.ref CN) (.ref CR) = some false
  q_CN_CN : PySem.W.exmOne K (.ref CN) (.ref CN) = some true
  q_CLt_CN : PySem.W.exmOne K (.ref CLt) (.ref CN) = some false
  q_CTg_CN : PySem.W.exmOne K (.ref CTg) (.ref CN) = some false
end K10
namespace K10
open PySem PySem.Spec PyProof.Rows L2 Evl Qt
def isStr : V → Bool
  | .str _ => true
  | _ => false
def madeOf (v : V) (z : Str) : Bool := match v with
  | .str m => m.cps.toList.all fun c => decide (c ∈ z.cps.toList)
  | _ => false
def spMade (K : PySem.W.Frag) : Sp := fun vs H Q _ => ∃ (v : V) (z : Str) (t : String), vs = [v, .str z] ∧ Kind K H v t ∧ kitB t "str" = some (isStr v) ∧ (∀ m, v = .str m → m.length ≤ 1000) ∧ RetV (.bl (madeOf v z)) H Q
section
variable {P : Program} {w : World} {K : PySem.W.Frag} {mg : Str → Option Value} {base : Heap} {CM CR CLt CN CTg W fI a_SMALL_WIDTH a_SMALL_SEEN : Addr}
theorem ok_made_of (e : Ent K mg "made_of" s_made_of p_made_of) (T : Top K mg CM CR CLt CN CTg W fI a_SMALL_WIDTH a_SMALL_SEEN) : Cal P w K mg base CX0 1 "made_of" p_made_of (spMade K) := by
  obtain ⟨f, fd, F, m_, b_⟩ := e
  refine ⟨f, fd, F.ok sc_made_of (fun vs H Q E h => ?_) (fun cdv A outer s H vs Q E hr h => ?_), m_, F.kp, b_⟩
  · obtain ⟨v, z, t, rfl, _⟩ := h
    rfl
  · obtain ⟨v, z, t, rfl, hk, hb, hl, q⟩ := h
    refine ⟨_, (pss_one (ps_ret (pe_and (pe_callB call_isi (by rfl) T.m_isinstance (by decide +kernel) (pa_cons (pv 0) (pa_cons (pe_bltn (v := .ty "str") (by rfl) T.m_str (by decide +kernel) rfl) pa_nil))) (pe_one (pe_callB (cr_all rfl) (by rfl) T.m_all (by decide +kernel) (pa_cons (pe_lc (own := [("sign", 2)]) (g := gName 2) (by rfl) sc_made_of.nd (pi_str (pv 0)) (blkOk_by (own := [("sign", 2)]) (N := n_made_of) (sc := (defScope s_made_of)) (by decide +kernel)) (fun _ _ _ _ _ => pg_name (i := 2) sc_made_of.nd rfl (Or.inl rfl)) (fun _ _ _ _ _ => pts_nil) (fun _ _ _ _ _ => (pe_cmpR op_in_sign (pv 2) (pv 1) (by rfl)))) pa_nil)))))), ?_⟩
    refine ⟨v, rfl, v, .ty "str", .type t, .type "str", isStr v, rfl, .ty "str", hk, kit_ty hb, _, rfl, ?_⟩
    cases v with
    | str m =>
      refine iteT ?_
      have hm := hl m rfl
      have L : EvL (tLc (iStr (tVar 0)) (gName 2) tYes (tOp (fun x y H Q => ∃ (c : Nat) (z : Str), x = .str ⟨#[c]⟩ ∧ y = .str z ∧ Q (.bl (decide (c ∈ z.cps.toList))) H) (tVar 2) (tVar 1)) [2])
          (start n_made_of [V.str m, V.str z]) H (given m.length (fun _ => true) fun i => .bl (decide (m.cps.toList.getD i 0 ∈ z.cps.toList))) :=
        el_lcS (z := m) (fun _ => true) _ (ev_var rfl) (by omega) (fun _ => rfl) (fun _ _ _ _ => et_yes) (fun i H1 _ hi _ => ev_inSign (ev_var rfl) (ev_var rfl))
      rw [given_all] at L
      have e := Qt.all_range m.cps.toList fun c => decide (c ∈ z.cps.toList)
      rw [show m.cps.toList.length = m.length from by simp [Str.length]] at e
      refine (ev_cbL L fun p H1 h1 _ => ?_ : Ev _ _ H (.bl (madeOf (.str m) z))) H (Ex.refl H) _ q
      show RC _ _ _ (.bl (m.cps.toList.all fun c => decide (c ∈ z.cps.toList)))
      rw [← e]
      refine rc_all ?_
      rw [h1, List.map_map]
      rfl
    | _ => exact iteF (q H (Ex.refl H))
end
end K10
namespace K10
open PySem PySem.Spec PyProof.Rows L2 Evl Qt
theorem ev_chain {σ : L2.St} {H : Hp} {ta tb tc : TE} {r r' : R2} {x y z : V} {k1 k2 : Bool} (ha : Ev ta σ H x) (hb : Ev tb σ H y) (hr : RV r x y H (.bl k1)) (hc : Ev tc σ H z) (hr' : k1 = true → RV r' y z H (.bl k2)) :
    Ev (tChain r r' ta tb tc) σ H (.bl (k1 && k2)) := fun H1 e Q q =>
  ha H1 e _ fun H2 e2 => hb H2 (e.trans e2) _ fun H3 e3 => hr H3 ((e.trans e2).trans e3) _ fun H4 e4 => ⟨k1, rfl, by
    cases k1 with
    | true => exact iteT (hc H4 (((e.trans e2).trans e3).trans e4) _ fun H5 e5 => hr' rfl H5 ((((e.trans e2).trans e3).trans e4).trans e5) _ fun H6 e6 => q H6 ((((e2.trans e3).trans e4).trans e5).trans e6))
    | false => exact iteF (q H4 ((e2.trans e3).trans e4))⟩
def VOk (K : PySem.W.Frag) (H : Hp) (v : V) : Prop := ∃ t, Qt.Kind K H v t ∧ kitB t "str" = some (isStr v) ∧ ∀ m, v = .str m → m.length ≤ 1000
theorem VOk.ex {K : PySem.W.Frag} {H H1 : Hp} {v : V} (h : VOk K H v) (e : Ex H H1) : VOk K H1 v := by
  obtain ⟨t, h1, h2, h3⟩ := h
  exact ⟨t, h1.ex e, h2, h3⟩
theorem VOk.str {K : PySem.W.Frag} {H : Hp} {m : Str} (h : m.length ≤ 1000) : VOk K H (.str m) := ⟨"str", .base (.str m), (by decide +kernel : kitB "str" "str" = some true), fun x e => by cases e; exact h⟩
def sx : Str := PySem.Str.ofString "x."
theorem sx_l : sx.cps.toList = [120, 46] := by decide +kernel
theorem x_eq : PySem.Str.ofString "x" = ⟨#[120]⟩ := by decide +kernel
def lenOf : V → Int
  | .str m => (m.length : Int)
  | _ => 0
def fst (m : Str) : Nat := m.cps.toList.getD 0 0
def lst (m : Str) : Nat := m.cps.toList.getD (m.length - 1) 0
def isMask (m : Str) : Bool := !((!madeOf (.str m) sx || !(decide ((1 : Int) ≤ (m.length : Int)) && decide ((m.length : Int) ≤ 12)))) && !(!decide (fst m = 120) || !decide (lst m = 120))
theorem at_last (l : List Nat) (h : l ≠ []) : atI l (-1) = some (l.getD (l.length - 1) 0) := by
  have h0 : 0 < l.length := List.length_pos_iff.mpr h
  unfold atI ixN
  rw [if_neg (by decide), if_pos (by omega)]
  have e : ((-1 : Int) + (l.length : Int)).toNat = l.length - 1 := by omega
  rw [e, Option.bind_some, List.getD_eq_getElem?_getD, List.getElem?_eq_getElem (by omega)]
  rfl
def isMaskV : V → Bool
  | .str m => isMask m
  | _ => false
def spCheckMask (K : PySem.W.Frag) (CM : Addr) : Sp := fun vs H Q E => ∃ v, vs = [v] ∧ VOk K H v ∧ (isMaskV v = true → RetV .non H Q) ∧ (isMaskV v = false → ∀ H', Ex H H' → E (.ref CM) none H')
section
variable {P : Program} {w : World} {K : PySem.W.Frag} {mg : Str → Option Value} {base : Heap} {CM CR CLt CN CTg W fI a_SMALL_WIDTH a_SMALL_SEEN : Addr}
theorem made_val {H : Hp} {v : V} {z : Str} (h : VOk K H v) : SpV (spMade K) ([v, .str z] ++ []) H (.bl (madeOf v z)) := fun H1 e Q q E => by
  obtain ⟨t, h1, h2, h3⟩ := h.ex e
  exact ⟨v, z, t, rfl, h1, h2, h3, q⟩
theorem rv_chr {H : Hp} {c : Nat} {d : Str} (hd : d = ⟨#[120]⟩) : RV rNe (.str ⟨#[c]⟩) (.str d) H (.bl (!decide (c = 120))) := by
  subst hd
  have e : decide (V.str (⟨#[c]⟩ : Str) = V.str ⟨#[120]⟩) = decide (c = 120) := by
    by_cases h : c = 120
    · subst h; simp
    · simp [h]
  rw [← e]
  exact rv_ne rfl
def spIsMask (K : PySem.W.Frag) : Sp := fun vs H Q _ => ∃ v, vs = [v] ∧ VOk K H v ∧ RetV (.bl (isMaskV v)) H Q
theorem rv_chrE {H : Hp} {c : Nat} {d : Str} (hd : d = ⟨#[120]⟩) : RV rEq (.str ⟨#[c]⟩) (.str d) H (.bl (decide (c = 120))) := by
  subst hd
  have e : decide (V.str (⟨#[c]⟩ : Str) = V.str ⟨#[120]⟩) = decide (c = 120) := by
    by_cases h : c = 120
    · subst h; simp
    · simp [h]
  rw [← e]
  exact rv_eq rfl
theorem ok_is_mask (e : Ent K mg "is_mask" s_is_mask p_is_mask) (T : Top K mg CM CR CLt CN CTg W fI a_SMALL_WIDTH a_SMALL_SEEN) (c1 : Cal P w K mg base CX0 1 "made_of" p_made_of (spMade K)) : Cal P w K mg base CX0 2 "is_mask" p_is_mask (spIsMask K) := by
  obtain ⟨f, fd, F, m_, b_⟩ := e
  obtain ⟨f_made_of, fd_made_of, G_made_of, m_made_of, k_made_of, b_made_of⟩ := c1
  refine ⟨f, fd, F.ok sc_is_mask (fun vs H Q E h => ?_) (fun cdv A outer s H vs Q E hr h => ?_), m_, F.kp, b_⟩
  · obtain ⟨v, rfl, _⟩ := h
    rfl
  · obtain ⟨v, rfl, hv, q⟩ := h
    refine ⟨_, (pss_cons (ps_if (PW.pt (pw_or (pt_not (pt_val (pe_call G_made_of (hr.mono (by decide)) (by rfl) m_made_of k_made_of b_made_of .nil pass0 (pa_cons (pv 0) (pa_cons pe_str pa_nil))))) (pw_or1 (pt_not (pt_chain op_le op_le pe_int (pe_callB call_len_str (by rfl) T.m_len (by decide +kernel) (pa_cons (pv 0) pa_nil)) (pe_glob (v := .int 12) (by rfl) T.g_WIDEST.choose_spec ⟨_, rfl⟩)))))) (pss_one (ps_ret pe_bl)) pss_nil)
      (pss_one (ps_ret (pe_and (pe_cmpR op_eq (pe_ix ix_str (pv 0) pe_int (fun _ _ => rfl)) pe_str (nomark _)) (pe_one (pe_cmpR op_eq (pe_ix ix_str (pv 0) (pe_un un_neg pe_int) (fun _ _ => rfl)) pe_str (nomark _))))))), ?_⟩
    have t1 : Ev (tCall (spMade K) [] E0 (tCons (tVar 0) (tCons (tC (.str sx)) tNil))) (start n_is_mask [v]) H (.bl (madeOf v sx)) := ev_call (ea_cons (ev_var rfl) (ea_cons ev_c ea_nil)) (made_val hv)
    refine q_when (b := !madeOf v sx || !(decide ((1 : Int) ≤ lenOf v) && decide (lenOf v ≤ 12))) (et_or (et_not (et_B t1)) fun h => et_not (et_test (ev_chain ev_c (y := .int (lenOf v)) ?_ rv_I0 ev_c fun _ => rv_I0))) (fun h H1 e1 => ?_) (fun h H1 e1 => ?_)
    · cases v with
      | str m =>
        obtain ⟨t, _, _, h3⟩ := hv
        exact ev_cb (ea_cons (ev_var rfl) ea_nil) fun H2 _ _ q => ⟨m, rfl, by have := h3 m rfl; rw [sizeLine_eq]; omega, q H2 (Ex.refl H2)⟩
      | _ => exact Bool.noConfusion (show true = false from h)
    · have hf : isMaskV v = false := by
        cases v with
        | str m =>
          have h' : (!madeOf (.str m) sx || !(decide ((1 : Int) ≤ (m.length : Int)) && decide ((m.length : Int) ≤ 12))) = true := h
          show isMask m = false
          unfold isMask
          rw [h']
          rfl
        | _ => rfl
      refine s_ret ev_c fun H2 e2 => ?_
      have z := q H2 (e1.trans e2)
      rw [hf] at z
      exact z
    · cases v with
      | str m =>
        have h' : (!madeOf (.str m) sx || !(decide ((1 : Int) ≤ (m.length : Int)) && decide ((m.length : Int) ≤ 12))) = false := h
        have hl : 1 ≤ m.length ∧ m.length ≤ 12 := by
          simp only [Bool.or_eq_false_iff, Bool.not_eq_false', Bool.and_eq_true, decide_eq_true_eq] at h'
          omega
        have hln : m.cps.toList.length = m.length := by simp [Str.length]
        have hne : m.cps.toList ≠ [] := fun z => by
          rw [z] at hln
          simp at hln
          omega
        have a0 : atI m.cps.toList ((0 : Nat) : Int) = some (fst m) := by
          refine atI_nat ?_
          unfold fst
          rw [List.getD_eq_getElem?_getD, List.getElem?_eq_getElem (by omega)]
          rfl
        have a1 : atI m.cps.toList (-1) = some (lst m) := by
          have z := at_last m.cps.toList hne
          rw [hln] at z
          exact z
        have hs : m.length ≤ 100000 := by omega
        have key : isMask m = (decide (fst m = 120) && decide (lst m = 120)) := by
          unfold isMask
          rw [h']
          simp
        refine s_ret (v := .bl (isMaskV (.str m))) (ev_is (ev_andV (ev_op (ev_op (ev_var rfl) ev_c (rv_ixS hs a0)) ev_c (rv_chrE x_eq))
          fun _ => ev_op (ev_op (ev_var rfl) (ev_un ev_c ru_neg) (rv_ixS hs a1)) ev_c (rv_chrE x_eq)) ?_) fun H2 e2 => q H2 (e1.trans e2)
        show V.bl _ = V.bl (isMask m)
        rw [key]
      | _ => exact Bool.noConfusion (show true = false from h)
theorem ok_check_mask (e : Ent K mg "check_mask" s_check_mask p_check_mask) (T : Top K mg CM CR CLt CN CTg W fI a_SMALL_WIDTH a_SMALL_SEEN) (c1 : Cal P w K mg base CX0 2 "is_mask" p_is_mask (spIsMask K)) : Cal P w K mg base (L2.CX P w) 3 "check_mask" p_check_mask (spCheckMask K CM) := by
  obtain ⟨f, fd, F, m_, b_⟩ := e
  obtain ⟨f_is_mask, fd_is_mask, G_is_mask, m_is_mask, k_is_mask, b_is_mask⟩ := c1
  refine ⟨f, fd, F.okX sc_check_mask (fun vs H Q E h => ?_) (fun cdv A outer s H vs Q E hr h => ?_), m_, F.kp, b_⟩
  · obtain ⟨v, rfl, _⟩ := h
    rfl
  · obtain ⟨v, rfl, hv, q1, q2⟩ := h
    refine ⟨_, (pss_one (ps_if (pt_not (pt_val (pe_call G_is_mask (hr.mono (by decide)) (by rfl) m_is_mask k_is_mask b_is_mask .nil pass0 (pa_cons (pv 0) pa_nil)))) (pss_one (ps_raise rfl (takes_of rfl rfl rfl rfl) (pmk_own PySem.F.excBase_ValueError T.e_BadMask.x T.e_BadMask.g T.e_BadMask.k (raises_own T.e_BadMask.b T.e_BadMask.t) (by rfl)))) pss_nil)), ?_⟩
    exact s_when (b := !isMaskV v) (et_not (et_B (ev_call (ea_cons (ev_var rfl) ea_nil) fun H1 e1 Q q E => ⟨v, rfl, hv.ex e1, q⟩))) (fun h H1 e1 => q2 (by simpa using h) H1 e1) (fun h H1 e1 => q1 (by simpa using h) H1 e1)
end
end K10
namespace K10
open PySem PySem.Spec PyProof.Rows L2 Evl Qt
def isI : V → Bool
  | .int _ => true
  | .bl _ => true
  | _ => false
def isB : V → Bool
  | .bl _ => true
  | _ => false
def NOk (K : PySem.W.Frag) (H : Hp) (v : V) : Prop := ∃ t, Qt.Kind K H v t ∧ kitB t "int" = some (isI v) ∧ kitB t "bool" = some (isB v)
theorem NOk.ex {K : PySem.W.Frag} {H H1 : Hp} {v : V} (h : NOk K H v) (e : Ex H H1) : NOk K H1 v := by
  obtain ⟨t, h1, h2⟩ := h
  exact ⟨t, h1.ex e, h2⟩
def isNum (lo hi : Int) : V → Bool
  | .int i => decide (lo ≤ i) && decide (i ≤ hi)
  | _ => false
theorem rc_isi {K : PySem.W.Frag} {H : Hp} {v : V} {t T : String} {b : Bool} (k : Qt.Kind K H v t) (hb : kitB t T = some b) : RC (rIsi K) [v, .ty T] H (.bl b) := fun H1 e Q q =>
  ⟨v, .ty T, .type t, .type T, b, rfl, .ty T, k.ex e, kit_ty hb, q H1 (Ex.refl H1)⟩
theorem NOk.int {K : PySem.W.Frag} {H : Hp} {i : Int} : NOk K H (.int i) := ⟨"int", .base (.int _), (by decide +kernel : kitB "int" "int" = some true), (by decide +kernel : kitB "int" "bool" = some false)⟩
theorem isNum_of {lo hi : Int} {n : Nat} (h1 : lo ≤ (n : Int)) (h2 : (n : Int) ≤ hi) : isNum lo hi (.int (n : Int)) = true := by
  show (decide (lo ≤ (n : Int)) && decide ((n : Int) ≤ hi)) = true
  rw [decide_eq_true h1, decide_eq_true h2]
  rfl
theorem isNum_is {lo hi : Int} {v : V} (h0 : 0 ≤ lo) (h : isNum lo hi v = true) : ∃ n : Nat, v = .int (n : Int) ∧ lo ≤ (n : Int) ∧ (n : Int) ≤ hi := by
  cases v with
  | int i =>
    have z : (decide (lo ≤ i) && decide (i ≤ hi)) = true := h
    simp only [Bool.and_eq_true, decide_eq_true_eq] at z
    obtain ⟨n, rfl⟩ := Int.eq_ofNat_of_zero_le (by omega : 0 ≤ i)
    exact ⟨n, rfl, z.1, z.2⟩
  | _ => exact Bool.noConfusion (show false = true from h)
def spLetters : Sp := fun vs H Q _ => ∃ n : Nat, vs = [.int (n : Int)] ∧ 1 ≤ n ∧ n ≤ 4 ∧ RetV .non H Q
def spLettersX (K : PySem.W.Frag) (CLt : Addr) : Sp := fun vs H Q E => ∃ v, vs = [v] ∧ NOk K H v ∧ (isNum 1 4 v = true → RetV .non H Q) ∧ (isNum 1 4 v = false → ∀ H', Ex H H' → E (.ref CLt) none H')
def spNumC : Sp := fun vs H Q _ => ∃ (v lo hi : Int), vs = [.int v, .int lo, .int hi] ∧ lo ≤ v ∧ v ≤ hi ∧ RetV .non H Q
section
variable {P : Program} {w : World} {K : PySem.W.Frag} {mg : Str → Option Value} {base : Heap} {CM CR CLt CN CTg W fI a_SMALL_WIDTH a_SMALL_SEEN : Addr}
def spIsNumber (K : PySem.W.Frag) : Sp := fun vs H Q _ => ∃ v lo hi, vs = [v, .int lo, .int hi] ∧ NOk K H v ∧ RetV (.bl (isNum lo hi v)) H Q
theorem ok_is_number (e : Ent K mg "is_number" s_is_number p_is_number) (T : Top K mg CM CR CLt CN CTg W fI a_SMALL_WIDTH a_SMALL_SEEN) : Cal P w K mg base CX0 1 "is_number" p_is_number (spIsNumber K) := by
  obtain ⟨f, fd, F, m_, b_⟩ := e
  refine ⟨f, fd, F.ok sc_is_number (fun vs H Q E h => ?_) (fun cdv A outer s H vs Q E hr h => ?_), m_, F.kp, b_⟩
  · obtain ⟨v, lo, hi, rfl, _⟩ := h
    rfl
  · obtain ⟨v, lo, hi, rfl, ⟨t, k1, k2, k3⟩, q⟩ := h
    refine ⟨_, (pss_one (ps_ret (pe_and (pe_callB call_isi (by rfl) T.m_isinstance (by decide +kernel) (pa_cons (pv 0) (pa_cons (pe_bltn (v := .ty "int") (by rfl) T.m_int (by decide +kernel) rfl) pa_nil))) (pe_and (pe_not (pe_callB call_isi (by rfl) T.m_isinstance (by decide +kernel) (pa_cons (pv 0) (pa_cons (pe_bltn (v := .ty "bool") (by rfl) T.m_bool (by decide +kernel) rfl) pa_nil)))) (pe_one (pe_chain op_le op_le (pv 1) (pv 0) (pv 2))))))), ?_⟩
    refine s_ret (ev_is (ev_andV (a := isI v) (b := !isB v && isNum lo hi v) (ev_cb (ea_cons (ev_var rfl) (ea_cons ev_c ea_nil)) (rc_isi k1 k2)) fun h1 => ev_andV (ev_notV (ev_cb (ea_cons (ev_var rfl) (ea_cons ev_c ea_nil)) (rc_isi k1 k3))) fun h2 => ?_) ?_) q
    · cases v with
      | int i => exact ev_chain (ev_var rfl) (ev_var rfl) rv_I0 (ev_var rfl) fun _ => rv_I0
      | bl b => exact Bool.noConfusion (show false = true from h2)
      | _ => exact Bool.noConfusion (show false = true from h1)
    · cases v <;> rfl
theorem ok_lettersX (e : Ent K mg "check_letters" s_check_letters p_check_letters) (T : Top K mg CM CR CLt CN CTg W fI a_SMALL_WIDTH a_SMALL_SEEN) (c1 : Cal P w K mg base CX0 1 "is_number" p_is_number (spIsNumber K)) : Cal P w K mg base (L2.CX P w) 2 "check_letters" p_check_letters (spLettersX K CLt) := by
  obtain ⟨f, fd, F, m_, b_⟩ := e
  obtain ⟨f_is_number, fd_is_number, G_is_number, m_is_number, k_is_number, b_is_number⟩ := c1
  refine ⟨f, fd, F.okX sc_check_letters (fun vs H Q E h => ?_) (fun cdv A outer s H vs Q E hr h => ?_), m_, F.kp, b_⟩
  · obtain ⟨v, rfl, _⟩ := h
    rfl
  · obtain ⟨v, rfl, hv, q1, q2⟩ := h
    refine ⟨_, (pss_one (ps_if (pt_not (pt_val (pe_call G_is_number (hr.mono (by decide)) (by rfl) m_is_number k_is_number b_is_number .nil pass0 (pa_cons (pv 0) (pa_cons pe_int (pa_cons (pe_callB call_len_str (by rfl) T.m_len (by decide +kernel) (pa_cons (pe_glob (v := .str (PySem.Str.ofString "abcd")) (by rfl) T.g_LETTERS.choose_spec ⟨_, rfl⟩) pa_nil)) pa_nil)))))) (pss_one (ps_raise rfl (takes_of rfl rfl rfl rfl) (pmk_own PySem.F.excBase_ValueError T.e_BadLetters.x T.e_BadLetters.g T.e_BadLetters.k (raises_own T.e_BadLetters.b T.e_BadLetters.t) (by rfl)))) pss_nil)), ?_⟩
    exact s_when (b := !isNum 1 4 v) (et_not (et_B (ev_call (vs := [v, .int 1, .int 4]) (ea_cons (ev_var rfl) (ea_cons ev_c (ea_cons (ev_is (ev_cb (ea_cons ev_c ea_nil) (rc_lenS (z := PySem.Str.ofString "abcd") (by decide +kernel))) (by rw [show (PySem.Str.ofString "abcd").length = 4 by decide +kernel]; rfl)) ea_nil))) fun H1 e1 Q q E => ⟨v, 1, 4, rfl, hv.ex e1, q⟩))) (fun hh H1 e1 => q2 (by simpa using hh) H1 e1) (fun hh H1 e1 => q1 (by simpa using hh) H1 e1)
theorem letters0 (c : Cal P w K mg base (L2.CX P w) 2 "check_letters" p_check_letters (spLettersX K CLt)) : Cal P w K mg base CX0 2 "check_letters" p_check_letters spLetters := c.calm fun vs H Q E h => by
  obtain ⟨n, rfl, h1, h4, q⟩ := h
  have z : isNum 1 4 (.int (n : Int)) = true := isNum_of (by omega) (by omega)
  exact ⟨_, rfl, NOk.int, fun _ => q, (fun z2 => by rw [z] at z2; cases z2)⟩
end
end K10
namespace K10
open PySem PySem.Spec PyProof.Rows L2 Evl Qt
def RetU (xs : List V) (H : Hp) (Q : VK) : Prop := ∀ p H2, H p = none → Ex H H2 → H2 p = some (.tup xs) → Q (.ref p) H2
def spParts : Sp := fun vs H Q _ => ∃ t xs, vs = [.ref t] ∧ H t = some (.tup xs) ∧ xs.length ≤ 1000 ∧ RetL xs H Q
def spRebuilt : Sp := fun vs H Q _ => ∃ t xs l ys, vs = [.ref t, .ref l] ∧ H t = some (.tup xs) ∧ H l = some (.lst ys) ∧ RetU ys H Q
section
variable {P : Program} {w : World} {K : PySem.W.Frag} {mg : Str → Option Value} {base : Heap} {CM CR CLt CN CTg W fI a_SMALL_WIDTH a_SMALL_SEEN : Addr}
theorem ok_parts_of (e : Ent K mg "parts_of" s_parts_of p_parts_of) (T : Top K mg CM CR CLt CN CTg W fI a_SMALL_WIDTH a_SMALL_SEEN) : Cal P w K mg base CX0 1 "parts_of" p_parts_of spParts := by
  obtain ⟨f, fd, F, m_, b_⟩ := e
  refine ⟨f, fd, F.ok sc_parts_of (fun vs H Q E h => ?_) (fun cdv A outer s H vs Q E hr h => ?_), m_, F.kp, b_⟩
  · obtain ⟨t, xs, rfl, _⟩ := h
    rfl
  · obtain ⟨t, xs, rfl, ht, hl, q⟩ := h
    refine ⟨_, (pss_one (ps_ret (pe_ifExp (pt_val (pe_callB call_isi (by rfl) T.m_isinstance (by decide +kernel) (pa_cons (pv 0) (pa_cons (pe_bltn (v := .ty "dict") (by rfl) T.m_dict (by decide +kernel) rfl) pa_nil)))) pe_never (pe_callTy call_list_of (by rfl) T.m_list (by decide +kernel) (pa_cons (pv 0) pa_nil))))), ?_⟩
    refine ⟨_, rfl, .ref t, .ty "dict", .type "tuple", .type "dict", false, rfl, .ty "dict", .base (.tup ht), kit_ty (by decide +kernel), false, rfl, ?_⟩
    refine iteF ⟨_, rfl, t, xs, rfl, .inr (st_of ht), fun l hl => ?_⟩
    exact q l _ hl (Ex.new hl) upd_same
theorem ok_rebuilt (e : Ent K mg "rebuilt" s_rebuilt p_rebuilt) (T : Top K mg CM CR CLt CN CTg W fI a_SMALL_WIDTH a_SMALL_SEEN) : Cal P w K mg base CX0 1 "rebuilt" p_rebuilt spRebuilt := by
  obtain ⟨f, fd, F, m_, b_⟩ := e
  refine ⟨f, fd, F.ok sc_rebuilt (fun vs H Q E h => ?_) (fun cdv A outer s H vs Q E hr h => ?_), m_, F.kp, b_⟩
  · obtain ⟨t, xs, l, ys, rfl, _⟩ := h
    rfl
  · obtain ⟨t, xs, l, ys, rfl, ht, hl, q⟩ := h
    refine ⟨_, (pss_cons (ps_if (pt_val (pe_callB call_isi (by rfl) T.m_isinstance (by decide +kernel) (pa_cons (pv 0) (pa_cons (pe_bltn (v := .ty "dict") (by rfl) T.m_dict (by decide +kernel) rfl) pa_nil)))) (pss_one (ps_ret (pe_dc (own := [("key", 2), ("part", 3)]) (g := (gTup K 2 (gCons (gName 2) (gCons (gName 3) gNil)))) (by rfl) sc_rebuilt.nd (pi_zip (by rfl) T.m_zip (pa_cons (pe_callTy call_list_of (by rfl) T.m_list (by decide +kernel) (pa_cons (pv 0) pa_nil)) (pa_cons (pv 1) pa_nil))) (blkOk_by (own := [("key", 2), ("part", 3)]) (N := n_rebuilt) (sc := (defScope s_rebuilt)) (by decide +kernel)) (fun _ _ _ _ _ => by exact (pg_tup rfl (pgs_cons (by exact pg_name (i := 2) sc_rebuilt.nd rfl (Or.inl rfl)) (pgs_cons (by exact pg_name (i := 3) sc_rebuilt.nd rfl (Or.inl rfl)) pgs_nil)))) (fun _ _ _ _ _ => pts_nil) (fun _ _ _ _ _ => (pv 2)) (fun _ _ _ _ _ => (pv 3))))) pss_nil)
      (pss_one (ps_ret (pe_ifExp (pt_val (pe_callB call_isi (by rfl) T.m_isinstance (by decide +kernel) (pa_cons (pv 0) (pa_cons (pe_bltn (v := .ty "tuple") (by rfl) T.m_tuple (by decide +kernel) rfl) pa_nil)))) (pe_callTy call_tuple_of (by rfl) T.m_tuple (by decide +kernel) (pa_cons (pv 1) pa_nil)) (pv 1))))), ?_⟩
    refine ⟨_, rfl, .ref t, .ty "dict", .type "tuple", .type "dict", false, rfl, .ty "dict", .base (.tup ht), kit_ty (by decide +kernel), false, rfl, ?_⟩
    refine iteF ?_
    refine ⟨_, rfl, .ref t, .ty "tuple", .type "tuple", .type "tuple", true, rfl, .ty "tuple", .base (.tup ht), kit_ty (by decide +kernel), true, rfl, ?_⟩
    refine iteT ⟨_, rfl, l, ys, rfl, .inl ⟨sq_of hl, fun p hp => ?_⟩⟩
    exact q p _ hp (Ex.new hp) upd_same
end
end K10
namespace K10
open PySem PySem.Spec PyProof.Rows L2 Evl Qt
/-- a value that no list, no tuple and no dict is -/
def Sca (K : PySem.W.Frag) (H : Hp) (v : V) : Prop := ∃ t, Qt.Kind K H v t ∧ kitB t "list" = some false ∧ kitB t "tuple" = some false ∧ kitB t "dict" = some false
theorem Sca.ex {K : PySem.W.Frag} {H H1 : Hp} {v : V} (h : Sca K H v) (e : Ex H H1) : Sca K H1 v := by
  obtain ⟨t, h1, h2⟩ := h
  exact ⟨t, h1.ex e, h2⟩
def spCopied (K : PySem.W.Frag) : Sp := fun vs H Q _ => ∃ v, vs = [v] ∧ ((Sca K H v ∧ RetV v H Q) ∨ ∃ t x, v = .ref t ∧ H t = some (.tup [x]) ∧ Sca K H x ∧ RetU [x] H Q)
/-- between the turns: what waits, what is ready -/
structure Wst (H0 : Hp) (v : V) (wl rl : Addr) (ts : List Addr) (ws : List (V × Bool)) (rs : List V) (σ : L2.St) (H : Hp) : Prop where
  sl : ∃ th hp st pa pt, σ = [some v, some (.ref wl), some (.ref rl), th, hp, st, pa, pt]
  ex : Ex H0 H
  w0 : H0 wl = none
  r0 : H0 rl = none
  ne : wl ≠ rl
  wa : H wl = some (.lst (ts.map V.ref))
  pr : Paired (fun t (p : V × Bool) => H t = some (.tup [p.1, .bl p.2])) ts ws
  re : H rl = some (.lst rs)
theorem Paired.snoc {α β : Type} {R : α → β → Prop} : ∀ {ts : List α} {ws : List β} {p : β}, Paired R ts (ws ++ [p]) → ∃ ts0 t, ts = ts0 ++ [t] ∧ Paired R ts0 ws ∧ R t p
  | _, [], _, .cons h .nil => ⟨[], _, rfl, .nil, h⟩
  | _, _ :: _, _, .cons h r => by
    obtain ⟨ts0, t, e, h2, h3⟩ := Paired.snoc r
    subst e
    exact ⟨_ :: ts0, t, rfl, .cons h h2, h3⟩
theorem Paired.app {α β : Type} {R : α → β → Prop} : ∀ {ts us : List α} {ws vs : List β}, Paired R ts ws → Paired R us vs → Paired R (ts ++ us) (ws ++ vs)
  | _, _, _, _, .nil, h => h
  | _, _, _, _, .cons h r, h2 => .cons h (Paired.app r h2)
/-- how far the copying has come: m turns are left -/
inductive Stg (v x : V) (F : V → Hp → Prop) (sc : Bool) : Nat → List (V × Bool) → List V → Hp → Prop
  | a {H} : sc = true → Stg v x F sc 1 [(v, false)] [] H
  | b3 {H} : sc = false → Stg v x F sc 3 [(v, false)] [] H
  | b2 {H} : sc = false → Stg v x F sc 2 [(v, true), (x, false)] [] H
  | b1 {H} : sc = false → Stg v x F sc 1 [(v, true)] [x] H
  | e {y H} : F y H → Stg v x F sc 0 [] [y] H
/-- what is to be done with the thing that waits last -/
def Do (K : PySem.W.Frag) (v x : V) (F : V → Hp → Prop) (sc : Bool) (H0 : Hp) (m : Nat) (ws0 : List (V × Bool)) (y : V) (b : Bool) (rs : List V) : Prop :=
  (b = false ∧ Sca K H0 y ∧ ∀ H', Ex H0 H' → Stg v x F sc m ws0 (rs ++ [y]) H') ∨
  (b = false ∧ ∃ t, y = .ref t ∧ H0 t = some (.tup [x]) ∧ ∀ H', Stg v x F sc m (ws0 ++ [(y, true), (x, false)]) rs H') ∨
  (b = true ∧ ∃ t, y = .ref t ∧ H0 t = some (.tup [x]) ∧ rs = [x] ∧ ∀ t' H', H0 t' = none → Ex H0 H' → H' t' = some (.tup [x]) → Stg v x F sc m ws0 [.ref t'] H')
theorem Stg.cases {K : PySem.W.Frag} {v x : V} {F : V → Hp → Prop} {sc : Bool} {H0 : Hp} {m : Nat} {ws : List (V × Bool)} {rs : List V} {H : Hp} (h : Stg v x F sc m ws rs H)
    (hs : sc = true → Sca K H0 v ∧ ∀ H', Ex H0 H' → F v H') (hb : sc = false → ∃ t, v = .ref t ∧ H0 t = some (.tup [x]) ∧ Sca K H0 x ∧ ∀ t' H', H0 t' = none → Ex H0 H' → H' t' = some (.tup [x]) → F (.ref t') H') :
    (m = 0 ∧ ws = [] ∧ ∃ y, rs = [y] ∧ F y H) ∨ ∃ m' ws0 y b, m' < m ∧ ws = ws0 ++ [(y, b)] ∧ ws0.length ≤ 1 ∧ rs.length ≤ 1 ∧ Do K v x F sc H0 m' ws0 y b rs := by
  cases h with
  | a c =>
    obtain ⟨h1, h2⟩ := hs c
    exact .inr ⟨0, [], v, false, by omega, rfl, by simp, by simp, .inl ⟨rfl, h1, fun H' e => .e (h2 H' e)⟩⟩
  | b3 c =>
    obtain ⟨t, h1, h2, h3, h4⟩ := hb c
    exact .inr ⟨2, [], v, false, by omega, rfl, by simp, by simp, .inr (.inl ⟨rfl, t, h1, h2, fun H' => .b2 c⟩)⟩
  | b2 c =>
    obtain ⟨t, h1, h2, h3, h4⟩ := hb c
    exact .inr ⟨1, [(v, true)], x, false, by omega, rfl, by simp, by simp, .inl ⟨rfl, h3, fun H' e => .b1 c⟩⟩
  | b1 c =>
    obtain ⟨t, h1, h2, h3, h4⟩ := hb c
    exact .inr ⟨0, [], v, true, by omega, rfl, by simp, by simp, .inr (.inr ⟨rfl, t, h1, h2, rfl, fun t' H' n e q => .e (h4 t' H' n e q)⟩)⟩
  | e h => exact .inl ⟨rfl, rfl, _, rfl, h⟩
theorem Ex.both {H0 H : Hp} {p : Addr} {o : HO} (e : Ex H0 H) (n : H0 p = none) : Ex H0 (upd H p o) := Ex.mut e n
theorem Wst.ext {H0 H H' : Hp} {v : V} {wl rl : Addr} {ts : List Addr} {ws : List (V × Bool)} {rs : List V} {σ : L2.St} (W : Wst H0 v wl rl ts ws rs σ H) (e : Ex H H') : Wst H0 v wl rl ts ws rs σ H' :=
  ⟨W.sl, W.ex.trans e, W.w0, W.r0, W.ne, e _ _ W.wa, L2.Paired.mapP W.pr (fun _ _ h => e _ _ h), e _ _ W.re⟩
theorem Wst.slots {H0 H : Hp} {v : V} {wl rl : Addr} {ts : List Addr} {ws : List (V × Bool)} {rs : List V} {σ : L2.St} (W : Wst H0 v wl rl ts ws rs σ H) {th hp st pa pt : Option V} :
    Wst H0 v wl rl ts ws rs [some v, some (.ref wl), some (.ref rl), th, hp, st, pa, pt] H := ⟨⟨_, _, _, _, _, rfl⟩, W.ex, W.w0, W.r0, W.ne, W.wa, W.pr, W.re⟩
/-- ready becomes another -/
theorem Wst.rdy {H0 H : Hp} {v : V} {wl rl : Addr} {ts : List Addr} {ws : List (V × Bool)} {rs rs' : List V} {σ : L2.St} (W : Wst H0 v wl rl ts ws rs σ H) : Wst H0 v wl rl ts ws rs' σ (upd H rl (.lst rs')) :=
  ⟨W.sl, Ex.mut W.ex W.r0, W.w0, W.r0, W.ne, by rw [upd_ne W.ne]; exact W.wa, L2.Paired.mapP W.pr (fun _ _ h => by rw [upd_ne (ne_of h W.re (by intro z; cases z))]; exact h), upd_same⟩
/-- what waits becomes another -/
theorem Wst.wai {H0 H : Hp} {v : V} {wl rl : Addr} {ts ts' : List Addr} {ws ws' : List (V × Bool)} {rs : List V} {σ : L2.St} (W : Wst H0 v wl rl ts ws rs σ H)
    (p : Paired (fun t (p : V × Bool) => H t = some (.tup [p.1, .bl p.2])) ts' ws') : Wst H0 v wl rl ts' ws' rs σ (upd H wl (.lst (ts'.map V.ref))) :=
  ⟨W.sl, Ex.mut W.ex W.w0, W.w0, W.r0, W.ne, upd_same, L2.Paired.mapP p (fun _ _ h => by rw [upd_ne (ne_of h W.wa (by intro z; cases z))]; exact h), by rw [upd_ne W.ne.symm]; exact W.re⟩
theorem kits {K : PySem.W.Frag} {t : String} (a : kitB t "list" = some false) (b : kitB t "tuple" = some false) (c : kitB t "dict" = some false) : PySem.W.kitAny K (.type t) [.type "list", .type "tuple", .type "dict"] = some false :=
  kitAny_cons (kit_ty a) (fun _ => kitAny_cons (kit_ty b) (fun _ => kitAny_cons (kit_ty c) (fun _ => rfl) (fun z => by cases z)) (fun z => by cases z)) (fun z => by cases z)
theorem kit_tuple {K : PySem.W.Frag} : PySem.W.kitAny K (.type "tuple") [.type "list", .type "tuple", .type "dict"] = some true :=
  kitAny_cons (kit_ty (by decide +kernel : kitB "tuple" "list" = some false)) (fun _ => kitAny_cons (r := true) (kit_ty (by decide +kernel : kitB "tuple" "tuple" = some true)) (fun z => by cases z) (fun _ => rfl)) (fun _ => rfl)
abbrev tys : List V := [.ty "list", .ty "tuple", .ty "dict"]
theorem tys_are : Paired ClsV tys [.type "list", .type "tuple", .type "dict"] := .cons (.ty _) (.cons (.ty _) (.cons (.ty _) .nil))
section
variable {P : Program} {w : World} {K : PySem.W.Frag} {mg : Str → Option Value} {base : Heap} {CM CR CLt CN CTg W fI a_SMALL_WIDTH a_SMALL_SEEN : Addr}
theorem ok_copied (e : Ent K mg "copied" s_copied p_copied) (T : Top K mg CM CR CLt CN CTg W fI a_SMALL_WIDTH a_SMALL_SEEN) (c1 : Cal P w K mg base CX0 1 "parts_of" p_parts_of spParts) (c2 : Cal P w K mg base CX0 1 "rebuilt" p_rebuilt spRebuilt) :
    Cal P w K mg base CX0 2 "copied" p_copied (spCopied K) := by
  obtain ⟨f, fd, F, m_, b_⟩ := e
  obtain ⟨f_parts_of, fd_parts_of, G_parts_of, m_parts_of, k_parts_of, b_parts_of⟩ := c1
  obtain ⟨f_rebuilt, fd_rebuilt, G_rebuilt, m_rebuilt, k_rebuilt, b_rebuilt⟩ := c2
  refine ⟨f, fd, F.ok sc_copied (fun vs H Q E h => ?_) (fun cdv A outer s H vs Q E hr h => ?_), m_, F.kp, b_⟩
  · obtain ⟨v, rfl, _⟩ := h
    rfl
  · obtain ⟨v, rfl, h⟩ := h
    refine ⟨_, (pss_cons (ps_set (i := 1) sc_copied.nd rfl (Or.inl rfl) (pe_lst (pa_cons (pe_tup (pa_cons (pv 0) (pa_cons pe_bl pa_nil))) pa_nil)))
      (pss_cons (ps_set (i := 2) sc_copied.nd rfl (Or.inl rfl) (pe_lst pa_nil))
      (pss_cons (ps_while PassesOwn.never (pt_truth (pv 1) (by intro _; rfl)) (pss_cons (ps_asg (pe_bm0 PySem.F.plainAttrs_list PySem.F.slot_list_pop PySem.F.type_list_pop mt_pop (pv 1)) (pg_tup (by rfl) (pgs_cons (pg_name (i := 3) sc_copied.nd rfl (Or.inl rfl)) (pgs_cons (pg_name (i := 4) sc_copied.nd rfl (Or.inl rfl)) pgs_nil))))
      (pss_one (ps_if (pt_not (pt_val (pe_callB call_isiT (by rfl) T.m_isinstance (by decide +kernel) (pa_cons (pv 3) (pa_cons (pe_tup (pa_cons (pe_bltn (v := .ty "list") (by rfl) T.m_list (by decide +kernel) rfl) (pa_cons (pe_bltn (v := .ty "tuple") (by rfl) T.m_tuple (by decide +kernel) rfl) (pa_cons (pe_bltn (v := .ty "dict") (by rfl) T.m_dict (by decide +kernel) rfl) pa_nil)))) pa_nil))))) (pss_one (ps_expr (pe_bm PySem.F.plainAttrs_list PySem.F.slot_list_append PySem.F.type_list_append mt_append (pv 2) (pa_cons (pv 3) pa_nil)))) (pss_one (ps_if (pt_val (pv 4)) (pss_cons (ps_set (i := 5) sc_copied.nd rfl (Or.inl rfl) (pe_op op_sub (pe_callB call_len (by rfl) T.m_len (by decide +kernel) (pa_cons (pv 2) pa_nil)) (pe_callB call_len (by rfl) T.m_len (by decide +kernel) (pa_cons (pv 3) pa_nil))))
      (pss_cons (ps_set (i := 6) sc_copied.nd rfl (Or.inl rfl) (pe_slice sl_list (pv 2) (po_some (pv 5)) po_none))
      (pss_cons (ps_delTail (pv 2) (pv 5))
      (pss_one (ps_expr (pe_bm PySem.F.plainAttrs_list PySem.F.slot_list_append PySem.F.type_list_append mt_append (pv 2) (pa_cons (pe_call G_rebuilt (hr.mono (by decide)) (by rfl) m_rebuilt k_rebuilt b_rebuilt .nil pass0 (pa_cons (pv 3) (pa_cons (pv 6) pa_nil))) pa_nil))))))) (pss_cons (ps_expr (pe_bm PySem.F.plainAttrs_list PySem.F.slot_list_append PySem.F.type_list_append mt_append (pv 1) (pa_cons (pe_tup (pa_cons (pv 3) (pa_cons pe_bl pa_nil))) pa_nil)))
      (pss_one (ps_expr (pe_bm PySem.F.plainAttrs_list PySem.F.slot_list_extend PySem.F.type_list_extend mt_extend (pv 1) (pa_cons (pe_lc (own := [("part", 7)]) (g := gName 7) (by rfl) sc_copied.nd (pi_reversed (by rfl) T.m_reversed (pa_cons (pe_call G_parts_of (hr.mono (by decide)) (by rfl) m_parts_of k_parts_of b_parts_of .nil pass0 (pa_cons (pv 3) pa_nil)) pa_nil)) (blkOk_by (own := [("part", 7)]) (N := n_copied) (sc := (defScope s_copied)) (by decide +kernel)) (fun _ _ _ _ _ => pg_name (i := 7) sc_copied.nd rfl (Or.inl rfl)) (fun _ _ _ _ _ => pts_nil) (fun _ _ _ _ _ => (pe_tup (pa_cons (pv 7) (pa_cons pe_bl pa_nil))))) pa_nil)))))))))))
      (pss_one (ps_ret (pe_ix ix_list (pv 2) pe_int (fun _ _ => rfl))))))), ?_⟩
    refine ⟨v, rfl, (by show 2 ≤ sizeLine; decide), fun t0 ht0 => ⟨(by show 1 ≤ sizeLine; decide), fun wl hwl => ⟨Nat.zero_le _, fun rl hrl => ?_⟩⟩⟩
    have nt : t0 ≠ wl := fun z => by rw [← z, upd_same] at hwl; cases hwl
    have nr : wl ≠ rl := fun z => by rw [← z, upd_same] at hrl; cases hrl
    have ntr : t0 ≠ rl := fun z => by rw [← z, upd_ne nt, upd_same] at hrl; cases hrl
    have w0 : H wl = none := by rwa [upd_ne nt.symm] at hwl
    have r0 : H rl = none := by rwa [upd_ne nr.symm, upd_ne ntr.symm] at hrl
    obtain ⟨sc, x, F, hs, hb, hF⟩ : ∃ (sc : Bool) (x : V) (F : V → Hp → Prop), (sc = true → Sca K H v ∧ ∀ H', Ex H H' → F v H') ∧
        (sc = false → ∃ t, v = .ref t ∧ H t = some (.tup [x]) ∧ Sca K H x ∧ ∀ t' H', H t' = none → Ex H H' → H' t' = some (.tup [x]) → F (.ref t') H') ∧ ∀ y H', F y H' → Q y H' := by
      rcases h with ⟨h1, h2⟩ | ⟨t, x, h1, h2, h3, h4⟩
      · exact ⟨true, .non, fun y H' => Q y H', fun _ => ⟨h1, h2⟩, fun z => (by cases z), fun _ _ z => z⟩
      · exact ⟨false, x, fun y H' => Q y H', fun z => (by cases z), fun _ => ⟨t, h1, h2, h3, h4⟩, fun _ _ z => z⟩
    refine ⟨fun m σ H' => ∃ ts ws rs, Wst H v wl rl ts ws rs σ H' ∧ Stg v x F sc m ws rs H', ?_, fun m σ H' hW => ?_⟩
    · have W0 : Wst H v wl rl [t0] [(v, false)] [] [some v, some (.ref wl), some (.ref rl), none, none, none, none, none] (upd (upd (upd H t0 (.tup [v, .bl false])) wl (.lst [.ref t0])) rl (.lst [])) :=
        ⟨⟨_, _, _, _, _, rfl⟩, Ex.mut (Ex.mut (Ex.new ht0) w0) r0, w0, r0, nr, by rw [upd_ne nr, upd_same]; rfl, .cons (by rw [upd_ne ntr, upd_ne nt, upd_same]) .nil, upd_same⟩
      cases hsc : sc with
      | true => exact ⟨1, _, _, _, W0, .a rfl⟩
      | false => exact ⟨3, _, _, _, W0, .b3 rfl⟩
    obtain ⟨ts, ws, rs, W, S⟩ := hW
    obtain ⟨th, hp, st, pa, pt, rfl⟩ := W.sl
    rcases S.cases (K := K) hs hb with ⟨rfl, rfl, y, rfl, hy⟩ | ⟨m', ws0, y, b, hm, rfl, hl0, hlr, D⟩
    · have ets : ts = [] := by
        have p := W.pr
        cases p
        rfl
      subst ets
      refine ⟨_, rfl, false, .inl ⟨[], sq_of W.wa, rfl⟩, ?_⟩
      refine iteF ⟨_, rfl, rl, [y], 0, y, rfl, rfl, sq_of W.re, rfl, hF y H' hy⟩
    · obtain ⟨ts0, t, rfl, p0, pt'⟩ := Paired.snoc W.pr
      have hwa := W.wa
      rw [List.map_append] at hwa
      refine ⟨_, rfl, true, .inl ⟨_, sq_of hwa, by simp⟩, iteT ⟨fun σ H' => ∃ m2, m2 < m ∧ ∃ ts ws rs, Wst H v wl rl ts ws rs σ H' ∧ Stg v x F sc m2 ws rs H', fun σ' H' h => h, ?_⟩⟩
      refine ⟨_, rfl, .inl ⟨rfl, _, sq_of hwa⟩, wl, _, .ref t, rfl, rfl, hwa, by simp, ?_⟩
      have edl : (List.map V.ref ts0 ++ List.map V.ref [t]).dropLast = ts0.map V.ref := by simp
      rw [edl]
      have ntw : t ≠ wl := ne_of pt' hwa (by intro z; cases z)
      have H1t : upd H' wl (.lst (ts0.map V.ref)) t = some (.tup [y, .bl b]) := by rw [upd_ne ntw]; exact pt'
      refine ⟨t, _, rfl, st_of H1t, rfl, _, _, rfl, _, _, rfl, rfl, ?_⟩
      have W1 : Wst H v wl rl ts0 ws0 rs [some v, some (.ref wl), some (.ref rl), some y, some (.bl b), st, pa, pt] (upd H' wl (.lst (ts0.map V.ref))) := (W.wai p0).slots
      generalize upd H' wl (.lst (ts0.map V.ref)) = G at W1
      have lts : ts0.length ≤ 1 := by
        have z := Paired.length p0
        omega
      rcases D with ⟨rfl, ⟨ty, k1, k2, k3, k4⟩, hN⟩ | ⟨rfl, t2, rfl, ht2, hN⟩ | ⟨rfl, t2, rfl, ht2, rfl, hN⟩
      · -- a flat thing is ready
        refine ⟨_, rfl, (by show 3 ≤ sizeLine; decide), fun U nU => ?_⟩
        have W2 := W1.ext (Ex.new (o := .tup tys) nU)
        refine ⟨y, U, tys, .type ty, _, false, rfl, upd_same, tys_are, k1.ex W2.ex, kits k2 k3 k4, false, rfl, ?_⟩
        refine iteT ⟨_, rfl, .inl ⟨rfl, _, sq_of W2.re⟩, _, rfl, rl, _, _, rfl, rfl, W2.re, by rw [sizeLine_eq]; omega, ?_⟩
        have W3 := W2.rdy (rs' := rs ++ [y])
        exact ⟨m', hm, ts0, ws0, rs ++ [y], W3.slots, hN _ W3.ex⟩
      · -- a tuple waits again, and its part
        refine ⟨_, rfl, (by show 3 ≤ sizeLine; decide), fun U nU => ?_⟩
        have W2 := W1.ext (Ex.new (o := .tup tys) nU)
        refine ⟨.ref t2, U, tys, .type "tuple", _, true, rfl, upd_same, tys_are, .base (.tup (W2.ex _ _ ht2)), kit_tuple, true, rfl, ?_⟩
        refine iteF ⟨_, rfl, false, rfl, iteF ?_⟩
        refine ⟨_, rfl, .inl ⟨rfl, _, sq_of W2.wa⟩, _, rfl, (by show 2 ≤ sizeLine; decide), fun t3 n3 => ?_⟩
        have W3 := W2.ext (Ex.new (o := .tup [.ref t2, .bl true]) n3)
        refine ⟨wl, _, _, rfl, rfl, W3.wa, by rw [sizeLine_eq, List.length_map]; omega, ?_⟩
        have p3 : Paired (fun t (p : V × Bool) => upd (upd G U (.tup tys)) t3 (.tup [.ref t2, .bl true]) t = some (.tup [p.1, .bl p.2])) (ts0 ++ [t3]) (ws0 ++ [(.ref t2, true)]) := Paired.app W3.pr (.cons upd_same .nil)
        have W4 := W3.wai p3
        rw [List.map_append] at W4
        refine ⟨_, rfl, .inl ⟨rfl, _, sq_of W4.wa⟩, _, rfl, t2, [x], rfl, W4.ex _ _ ht2, by simp, fun pl G5 npl e5 h5 => ⟨pl, [x], rfl, sq_of h5, fun D nD => ?_⟩⟩
        have W5 := W4.ext e5
        refine lc_it (walk_rev (xs := [x])) (fun i Hh => Ex G5 Hh ∧ ∃ ds : List Addr, ds.length = i ∧ Hh D = some (.lst (ds.map V.ref)) ∧ ∀ d ∈ ds, Hh d = some (.tup [x, .bl false]))
          ⟨Ex.new nD, [], rfl, upd_same, fun d hd => absurd hd (by simp)⟩ (fun i Hh _ hp => ex_l hp.1 (sq_of h5)) (fun i z Hh Hh' hi hp y => ?_) (fun Hh hp => ?_)
        · obtain ⟨rfl, hz⟩ := y
          obtain ⟨e6, ds, hds, hD, hall⟩ := hp
          have hi0 : i = 0 := by have : i < 1 := hi; omega
          have ez : z = x := by
            subst hi0
            exact (Option.some.inj hz).symm
          subst ez
          refine ⟨rfl, _, rfl, (by show 2 ≤ sizeLine; decide), fun T nT => ⟨ds.map V.ref, ?_, ?_, ?_⟩⟩
          · rw [upd_ne (ne_of_none hD nT)]; exact hD
          · rw [sizeLine_eq, List.length_map]; omega
          · have nTD : T ≠ D := fun q => by rw [q, hD] at nT; cases nT
            refine ⟨Ex.mut (e6.trans (Ex.new nT)) nD, ds ++ [T], by rw [List.length_append, hds]; rfl, ?_, fun d hd => ?_⟩
            · rw [upd_same, List.map_append]; rfl
            · rcases List.mem_append.mp hd with hd | hd
              · have q := hall d hd
                rw [upd_ne (ne_of q hD (by intro z; cases z)), upd_ne (ne_of_none q nT)]
                exact q
              · rw [List.mem_singleton.mp hd, upd_ne nTD, upd_same]
        · obtain ⟨e6, ds, hds, hD, hall⟩ := hp
          have W6 := W5.ext e6
          have hwa6 := W6.wa
          refine ⟨wl, D, _, _, rfl, rfl, hwa6, hD, ?_, ?_⟩
          · rw [sizeLine_eq]; simp; have : ds.length = 1 := hds; omega
          · obtain ⟨d, rfl⟩ : ∃ d, ds = [d] := by
              match ds, hds with
              | [d], _ => exact ⟨d, rfl⟩
            have W7 := W6.wai (Paired.app W6.pr (.cons (hall d (by simp)) .nil : Paired (fun t (p : V × Bool) => Hh t = some (.tup [p.1, .bl p.2])) [d] [(x, false)]))
            rw [List.map_append] at W7
            refine ⟨m', hm, _, _, rs, W7.slots, ?_⟩
            have z := hN (upd Hh wl (.lst ((ts0 ++ [t3]).map V.ref ++ [d].map V.ref)))
            rw [List.append_assoc]
            exact z
      · -- the tuple is built anew
        refine ⟨_, rfl, (by show 3 ≤ sizeLine; decide), fun U nU => ?_⟩
        have W2 := W1.ext (Ex.new (o := .tup tys) nU)
        refine ⟨.ref t2, U, tys, .type "tuple", _, true, rfl, upd_same, tys_are, .base (.tup (W2.ex _ _ ht2)), kit_tuple, true, rfl, ?_⟩
        refine iteF ⟨_, rfl, true, rfl, iteT ?_⟩
        refine ⟨_, rfl, .ref rl, 1, rfl, .inl ⟨[x], sq_of W2.re, rfl⟩, _, rfl, .ref t2, 1, rfl, .inr ⟨[x], st_of (W2.ex _ _ ht2), rfl⟩, _, _, rfl, rfl, ?_⟩
        refine ⟨_, rfl, _, rfl, _, rfl, rl, [x], rfl, sq_of W2.re, fun pl npl => ?_⟩
        have W3 := W2.ext (Ex.new (o := .lst (cutV [x] (some ((1 : Int) - 1)) none)) npl)
        have npr : pl ≠ rl := fun q => by rw [q, W2.re] at npl; cases npl
        refine ⟨_, rfl, _, rfl, rl, [x], 0, rfl, rfl, W3.re, by simp, ?_⟩
        have W4 := W3.rdy (rs' := [x].take 0)
        refine ⟨_, rfl, .inl ⟨rfl, _, sq_of W4.re⟩, _, rfl, _, rfl, t2, [x], pl, [x], rfl, W4.ex _ _ ht2, ?_, fun t' G5 n5 e5 h5 => ?_⟩
        · rw [upd_ne npr]
          exact upd_same
        · have W5 := W4.ext e5
          refine ⟨rl, _, _, rfl, rfl, W5.re, by show 0 < sizeLine; decide, ?_⟩
          have W6 := W5.rdy (rs' := [x].take 0 ++ [.ref t'])
          refine ⟨m', hm, ts0, ws0, _, W6.slots, hN t' _ (fresh_back W4.ex n5) W6.ex ?_⟩
          rw [upd_ne (ne_of h5 W5.re (by intro z; cases z))]
          exact h5
end
end K10
namespace K10
open PySem PySem.Spec PyProof.Rows L2 Evl Qt
/-- a value that an error's field can keep: flat (none), or a tuple of one flat thing -/
def Val (K : PySem.W.Frag) (H : Hp) (v : V) : Option V → Prop
  | none => Sca K H v
  | some x => ∃ t, v = .ref t ∧ H t = some (.tup [x]) ∧ Sca K H x
/-- v' is as v -/
def Cp (v v' : V) (H : Hp) : Option V → Prop
  | none => v' = v
  | some x => ∃ p, v' = .ref p ∧ H p = some (.tup [x])
theorem Val.ex {K : PySem.W.Frag} {H H1 : Hp} {v : V} {s : Option V} (h : Val K H v s) (e : Ex H H1) : Val K H1 v s := by
  cases s with
  | none => exact Sca.ex h e
  | some x =>
    obtain ⟨t, h1, h2, h3⟩ := h
    exact ⟨t, h1, e _ _ h2, h3.ex e⟩
theorem Cp.ex {H H1 : Hp} {v v' : V} {s : Option V} (h : Cp v v' H s) (e : Ex H H1) : Cp v v' H1 s := by
  cases s with
  | none => exact h
  | some x =>
    obtain ⟨p, h1, h2⟩ := h
    exact ⟨p, h1, e _ _ h2⟩
theorem copied_go {K : PySem.W.Frag} {H : Hp} {v : V} {s : Option V} {Q : VK} {E : XK} (h : Val K H v s) (q : ∀ v' H', Ex H H' → Cp v v' H' s → Q v' H') : spCopied K [v] H Q E := by
  cases s with
  | none => exact ⟨v, rfl, .inl ⟨h, fun H' e => q v H' e rfl⟩⟩
  | some x =>
    obtain ⟨t, h1, h2, h3⟩ := h
    exact ⟨v, rfl, .inr ⟨t, x, h1, h2, h3, fun p H' np e hp => q _ H' e ⟨p, rfl, hp⟩⟩⟩
def spInit (K : PySem.W.Frag) (CN : Addr) : Sp := fun vs H Q _ => ∃ a v s, vs = [.ref a, v] ∧ H a = some (exo a CN none) ∧ Val K H v s ∧
  ∀ v' d H2, Ex H H2 → Cp v v' H2 s → H2 d = none → d ≠ a → Q .non (upd (upd H2 d (exd d [("n", v')])) a (exo a CN (some d)))
def spCheckNumber (K : PySem.W.Frag) (CN : Addr) : Sp := fun vs H Q E => ∃ v lo hi s, vs = [v, .int lo, .int hi] ∧ NOk K H v ∧ Val K H v s ∧ (isNum lo hi v = true → RetV .non H Q) ∧
  (isNum lo hi v = false → ∀ v' d H', Ex H H' → H d = none → Cp v v' H' s → H' d = some (.xd [("n", v')]) → E (.ref CN) (some d) H')
/-- what stands behind an error that was made and raised -/
theorem raised {H1 H2 : Hp} {a d CN : Addr} {v v' : V} {s : Option V} (na : H1 a = none) (e : Ex (upd H1 a (exo a CN none)) H2) (hc : Cp v v' H2 s) (nd : H2 d = none) (ne : d ≠ a) :
    H1 d = none ∧ Ex H1 (upd (del (upd (upd H2 d (exd d [(("n" : Str), v')])) a (exo a CN (some d))) a) d (.xd [("n", v')])) ∧
      Cp v v' (upd (del (upd (upd H2 d (exd d [(("n" : Str), v')])) a (exo a CN (some d))) a) d (.xd [("n", v')])) s := by
  have h2a : H2 a = some (exo a CN none) := e _ _ upd_same
  have d0 : H1 d = none := by
    have z := fresh_back e nd
    rwa [upd_ne ne] at z
  have at_ : ∀ b, b ≠ a → b ≠ d → (upd (del (upd (upd H2 d (exd d [(("n" : Str), v')])) a (exo a CN (some d))) a) d (.xd [("n", v')])) b = H2 b := fun b h1 h2 => by
    rw [upd_ne h2, del_ne h1, upd_ne h1, upd_ne h2]
  refine ⟨d0, fun b o hb => ?_, ?_⟩
  · have h1 : b ≠ a := ne_of_none hb na
    rw [at_ b h1 (ne_of_none hb d0)]
    exact e b o (by rw [upd_ne h1]; exact hb)
  · cases s with
    | none => exact hc
    | some x =>
      obtain ⟨p, h1, h2⟩ := hc
      refine ⟨p, h1, ?_⟩
      rw [at_ p (at_ne h2a h2 exo_tup) (ne_of_none h2 nd)]
      exact h2
section
variable {P : Program} {w : World} {K : PySem.W.Frag} {mg : Str → Option Value} {base : Heap} {CM CR CLt CN CTg W fI a_SMALL_WIDTH a_SMALL_SEEN : Addr}
theorem ok_init (T : Top K mg CM CR CLt CN CTg W fI a_SMALL_WIDTH a_SMALL_SEEN) (c1 : Cal P w K mg base CX0 2 "copied" p_copied (spCopied K)) : ∃ fd, FnOk P w K mg base CX0 3 fI fd p_BadNumber___init__ (spInit K CN) ∧ Binds K fd p_BadNumber___init__ [] := by
  obtain ⟨fd, F, b_⟩ := T.f_init
  obtain ⟨f_copied, fd_copied, G_copied, m_copied, k_copied, b_copied⟩ := c1
  refine ⟨fd, F.ok sc_BadNumber___init__ (fun vs H Q E h => ?_) (fun cdv A outer s H vs Q E hr h => ?_), b_⟩
  · obtain ⟨a, v, s, rfl, _⟩ := h
    rfl
  · obtain ⟨a, v, s, rfl, ha, hv, q⟩ := h
    refine ⟨_, (pss_cons (ps_expr (pe_ownInit (by rfl) T.b_WindowError.1 T.b_WindowError.2 (pa_cons (pv 0) (pa_cons pe_str pa_nil))))
      (pss_one (ps_ost (pv 0) (pe_call G_copied (hr.mono (by decide)) (by rfl) m_copied k_copied b_copied .nil pass0 (pa_cons (pv 1) pa_nil))))), ?_⟩
    refine ⟨_, rfl, a, CN, _, rfl, (by simp), T.e_BadNumber.o, ha, ?_⟩
    refine ⟨_, rfl, copied_go (E := E0) hv fun v' H2 e2 hc => ?_⟩
    exact ⟨_, rfl, a, CN, rfl, T.e_BadNumber.o, T.e_BadNumber.no, .inl ⟨e2 _ _ ha, fun d nd ne => q v' d H2 e2 hc nd ne⟩⟩
theorem ok_check_number (e : Ent K mg "check_number" s_check_number p_check_number) (T : Top K mg CM CR CLt CN CTg W fI a_SMALL_WIDTH a_SMALL_SEEN) (c1 : Cal P w K mg base CX0 2 "copied" p_copied (spCopied K)) (c2 : Cal P w K mg base CX0 1 "is_number" p_is_number (spIsNumber K)) :
    Cal P w K mg base (L2.CX P w) 5 "check_number" p_check_number (spCheckNumber K CN) := by
  obtain ⟨f, fd, F, m_, b_⟩ := e
  obtain ⟨f_is_number, fd_is_number, G_is_number, m_is_number, k_is_number, b_is_number⟩ := c2
  obtain ⟨fd_BadNumber_init, G_BadNumber_init, b_BadNumber_init⟩ := ok_init T c1
  refine ⟨f, fd, F.okX sc_check_number (fun vs H Q E h => ?_) (fun cdv A outer s H vs Q E hr h => ?_), m_, F.kp, b_⟩
  · obtain ⟨v, lo, hi, s, rfl, _⟩ := h
    rfl
  · obtain ⟨v, lo, hi, s, rfl, hk, hv, q1, q2⟩ := h
    refine ⟨_, (pss_one (ps_if (pt_not (pt_val (pe_call G_is_number (hr.mono (by decide)) (by rfl) m_is_number k_is_number b_is_number .nil pass0 (pa_cons (pv 0) (pa_cons (pv 1) (pa_cons (pv 2) pa_nil)))))) (pss_one (ps_raise rfl (takes_of rfl rfl rfl rfl) (pmk_oex T.e_BadNumber.o T.e_BadNumber.i T.e_BadNumber.t G_BadNumber_init (hr.mono (by decide)) b_BadNumber_init .nil pass0 (by rfl) T.e_BadNumber.g (pa_cons (pv 0) pa_nil)))) pss_nil)), ?_⟩
    refine s_when (b := !isNum lo hi v) (et_not (et_B (ev_call (ea_cons (ev_var rfl) (ea_cons (ev_var rfl) (ea_cons (ev_var rfl) ea_nil))) fun H1 e1 Q q E => ⟨v, lo, hi, rfl, hk.ex e1, q⟩))) (fun h H1 x1 => ?_) (fun h H1 x1 => ?_)
    · have hn : isNum lo hi v = false := by simpa using h
      refine ⟨v, rfl, (by simp), fun a na => ⟨a, v, s, rfl, upd_same, (hv.ex x1).ex (Ex.new na), fun v' d H2 y2 hc nd ne => ?_⟩⟩
      obtain ⟨z1, z2, z3⟩ := raised na y2 hc nd ne
      refine ⟨rfl, d, _, upd_same, by rw [upd_ne ne, upd_same], z1, ?_⟩
      exact q2 hn v' d _ (x1.trans z2) (fresh_back x1 z1) z3 upd_same
    · exact q1 (by simpa using h) H1 x1
end
end K10
namespace K10
open PySem PySem.Spec PyProof.Rows L2 Evl Qt
/-- the places of the x of a mask -/
def openM (m : Str) : List Nat := (List.range m.length).filter fun i => decide (m.cps.toList.getD i 0 = 120)
def natsV (l : List Nat) : List V := l.map fun (i : Nat) => V.int (i : Int)
def spSeen (K : PySem.W.Frag) (CM : Addr) : Sp := fun vs H Q E => ∃ v, vs = [v] ∧ VOk K H v ∧ (∀ m, v = .str m → isMask m = true → RetL (natsV (openM m)) H Q) ∧ (isMaskV v = false → ∀ H', Ex H H' → E (.ref CM) none H')
def spSeen0 (K : PySem.W.Frag) : Sp := fun vs H Q _ => ∃ m, vs = [.str m] ∧ isMask m = true ∧ RetL (natsV (openM m)) H Q
theorem isMask_len {m : Str} (h : isMask m = true) : 1 ≤ m.length ∧ m.length ≤ 12 := by
  unfold isMask at h
  simp only [Bool.and_eq_true, Bool.not_eq_true', Bool.or_eq_false_iff, Bool.not_eq_false', decide_eq_true_eq] at h
  omega
theorem isMask_ends {m : Str} (h : isMask m = true) : fst m = 120 ∧ lst m = 120 := by
  unfold isMask at h
  simp only [Bool.and_eq_true, Bool.not_eq_true', Bool.or_eq_false_iff, Bool.not_eq_false', decide_eq_true_eq] at h
  exact h.2
section
variable {P : Program} {w : World} {K : PySem.W.Frag} {mg : Str → Option Value} {base : Heap} {CM CR CLt CN CTg W fI a_SMALL_WIDTH a_SMALL_SEEN : Addr}
theorem given_open (m : Str) : given m.length (fun i => decide (m.cps.toList.getD i 0 = 120)) (fun i => V.int (i : Int)) = natsV (openM m) := rfl
theorem et_x {σ : L2.St} {H : Hp} {ta tb : TE} {c : Nat} {d : Str} (hd : d = ⟨#[120]⟩) (ha : Ev ta σ H (.str ⟨#[c]⟩)) (hb : Ev tb σ H (.str d)) : EvT (tTest (tOp rEq ta tb)) σ H (decide (c = 120)) := by
  refine et_test (ev_op ha hb ?_)
  subst hd
  have e : decide (V.str (⟨#[c]⟩ : Str) = V.str ⟨#[120]⟩) = decide (c = 120) := by
    by_cases h : c = 120
    · subst h; simp
    · simp [h]
  rw [← e]
  exact rv_eq rfl
theorem ok_seen (e : Ent K mg "seen" s_seen p_seen) (T : Top K mg CM CR CLt CN CTg W fI a_SMALL_WIDTH a_SMALL_SEEN) (c1 : Cal P w K mg base (L2.CX P w) 3 "check_mask" p_check_mask (spCheckMask K CM)) : Cal P w K mg base (L2.CX P w) 4 "seen" p_seen (spSeen K CM) := by
  obtain ⟨f, fd, F, m_, b_⟩ := e
  obtain ⟨f_check_mask, fd_check_mask, G_check_mask, m_check_mask, k_check_mask, b_check_mask⟩ := c1
  refine ⟨f, fd, F.okX sc_seen (fun vs H Q E h => ?_) (fun cdv A outer s H vs Q E hr h => ?_), m_, F.kp, b_⟩
  · obtain ⟨v, rfl, _⟩ := h
    rfl
  · obtain ⟨v, rfl, hv, q1, q2⟩ := h
    refine ⟨_, (pss_cons (ps_expr (pe_call G_check_mask (hr.mono (by decide)) (by rfl) m_check_mask k_check_mask b_check_mask .nil (passes_call (takes_of rfl rfl rfl rfl) (fun _ _ _ _ h => h)) (pa_cons (pv 0) pa_nil)))
      (pss_one (ps_ret (pe_lc (own := [("place", 1), ("sign", 2)]) (g := gTup K 2 (gCons (gName 1) (gCons (gName 2) gNil))) (by rfl) sc_seen.nd (pi_enumS (by rfl) T.m_enumerate (pa_cons (pv 0) pa_nil)) (blkOk_by (own := [("place", 1), ("sign", 2)]) (N := n_seen) (sc := (defScope s_seen)) (by decide +kernel)) (fun _ _ _ _ _ => by exact (pg_tup rfl (pgs_cons (by exact pg_name (i := 1) sc_seen.nd rfl (Or.inl rfl)) (pgs_cons (by exact pg_name (i := 2) sc_seen.nd rfl (Or.inl rfl)) pgs_nil)))) (fun _ _ _ _ _ => pts_one (pt_cmpR op_eq (pv 2) pe_str (nomark _))) (fun _ _ _ _ _ => (pv 1)))))), ?_⟩
    refine ⟨_, rfl, v, rfl, hv, fun hm H1 e1 => ?_, fun hm H' e' => q2 hm H' e'⟩
    cases v with
    | str m =>
      have hl := isMask_len hm
      refine s_retL (el_lcSE (z := m) (fun i => decide (m.cps.toList.getD i 0 = 120)) (fun i => V.int (i : Int)) (ea_cons (ev_var rfl) ea_nil) (by omega) (fun _ _ => rfl)
        (fun i H2 _ _ => et_x x_eq (ev_var rfl) ev_c) (fun i H2 _ _ _ => ev_var rfl)) fun p H2 np e2 h2 => ?_
      exact q1 m rfl hm p H2 (fresh_back e1 np) (e1.trans e2) h2
    | _ => exact Bool.noConfusion (show false = true from hm)
theorem seen0 (c : Cal P w K mg base (L2.CX P w) 4 "seen" p_seen (spSeen K CM)) : Cal P w K mg base CX0 4 "seen" p_seen (spSeen0 K) :=
  c.calm fun vs H Q E h => by
    obtain ⟨m, rfl, hm, q⟩ := h
    have hl := isMask_len hm
    exact ⟨.str m, rfl, .str (by omega), fun m' e _ => by cases e; exact q, fun z => by
      have z' : isMask m = false := z
      rw [hm] at z'
      cases z'⟩
end
end K10
namespace K10
open PySem PySem.Spec PyProof.Rows L2 Evl Qt
section
variable {P : Program} {w : World} {K : PySem.W.Frag} {mg : Str → Option Value} {base : Heap} {CM CR CLt CN CTg W fI a_SMALL_WIDTH a_SMALL_SEEN : Addr}
theorem seen_val {H : Hp} {m : Str} (h : isMask m = true) : SpL (spSeen K CM) ([.str m] ++ []) H (natsV (openM m)) := fun H1 e Q q E => by
  have hl := isMask_len h
  exact ⟨.str m, rfl, .str (by omega), fun m' e' _ => by cases e'; exact q, fun z => by
    have z' : isMask m = false := z
    rw [h] at z'
    cases z'⟩
theorem open_len (m : Str) : (openM m).length ≤ m.length := by
  unfold openM
  have h := List.length_filter_le (fun i => decide (m.cps.toList.getD i 0 = 120)) (List.range m.length)
  rw [List.length_range] at h
  exact h
theorem range_getD {β : Type} (l : List Nat) (g : Nat → β) : (List.range l.length).map (fun i => g (l.getD i 0)) = l.map g := by
  apply List.ext_getElem
  · simp
  · intro i h1 h2
    simp only [List.length_map] at h2
    simp [List.getD_eq_getElem?_getD, List.getElem?_eq_getElem h2]
theorem natsV_get {l : List Nat} {i : Nat} {x : V} (h : (natsV l)[i]? = some x) : i < l.length ∧ x = .int ((l.getD i 0 : Nat) : Int) := by
  unfold natsV at h
  rw [List.getElem?_map] at h
  cases e : l[i]? with
  | none => rw [e] at h; cases h
  | some c =>
    rw [e] at h
    refine ⟨(List.getElem?_eq_some_iff.mp e).1, ?_⟩
    rw [List.getD_eq_getElem?_getD, e]
    exact (Option.some.inj h).symm
theorem natsV_len (l : List Nat) : (natsV l).length = l.length := List.length_map ..
theorem nil_l : (PySem.Str.ofString "").cps.toList = [] := by decide +kernel
end
end K10
namespace K10
open PySem PySem.Spec PyProof.Rows L2 Evl Qt
section
variable {P : Program} {w : World} {K : PySem.W.Frag} {mg : Str → Option Value} {base : Heap} {CM CR CLt CN CTg W fI a_SMALL_WIDTH a_SMALL_SEEN : Addr}
theorem rc_int {H : Hp} {i : Int} : RC (fun xs H Q => (∃ i, xs = [V.int i] ∧ Q (.int i) H) ∨ ∃ k, xs = [V.bl k] ∧ Q (.int (if k then 1 else 0)) H) [.int i] H (.int i) := fun H1 _ _ q => .inl ⟨i, rfl, q H1 (Ex.refl H1)⟩
theorem evr {σ : L2.St} {H : Hp} {r : Addr} {xs : List V} {j : Int} {v : V} (hr : H r = some (.lst xs)) (h0 : σ[0]? = some (some (.ref r))) (ha : atI xs j = some v) : Ev (tOp (rIxL K) (tVar 0) (tC (.int j))) σ H v :=
  ev_op (ev_var h0) ev_c (rv_ixL (sq_of hr) ha)
theorem rc_lenL {H : Hp} {a : Addr} {xs : List V} (h : SqL K H a xs) : RC (fun xs H Q => ∃ x n, xs = [x] ∧ LenV K x H n ∧ Q (.int (n : Int)) H) [.ref a] H (.int (xs.length : Int)) := fun H1 e _ q =>
  ⟨.ref a, xs.length, rfl, .inl ⟨xs, ex_l e h, rfl⟩, q H1 (Ex.refl H1)⟩
theorem xr_upd {r : Addr} {H : Hp} {o : HO} : Xr K r H (upd H r o) := fun a u ne h => by rw [upd_ne ne]; exact h
theorem ok_taken (e : Ent K mg "_law_taken" s__law_taken p__law_taken) (T : Top K mg CM CR CLt CN CTg W fI a_SMALL_WIDTH a_SMALL_SEEN) : Cal P w K mg base CX0 1 "_law_taken" p__law_taken (spTaken K) := by
  obtain ⟨f, fd, F, m_, b_⟩ := e
  refine ⟨f, fd, F.ok sc__law_taken (fun vs H Q E h => ?_) (fun cdv A outer s H vs Q E hr h => ?_), m_, F.kp, b_⟩
  · obtain ⟨r, sc, ns, m, rfl, _⟩ := h
    rfl
  · obtain ⟨r, sc, ns, m, rfl, h1, h2, hR, q⟩ := h
    obtain ⟨i, sd, x, hr1, hs, hl, i0, s0, s1⟩ := id hR
    refine ⟨_, (pss_cons (ps_if (pt_cmpR op_gt (pe_ix ix_list (pv 0) pe_int (fun _ _ => rfl)) pe_int (nomark _)) (pss_cons (ps_set (i := 2) sc__law_taken.nd rfl (Or.inl rfl) (pe_op op_mod (pe_callTy call_int1 (by rfl) T.m_int (by decide +kernel) (pa_cons (pe_ix ix_list (pv 0) pe_int (fun _ _ => rfl)) pa_nil)) (pv 1)))
      (pss_cons (ps_asg (pe_op op_fdiv (pe_ix ix_list (pv 0) pe_int (fun _ _ => rfl)) (pv 1)) (pg_sub (pv 0) pe_int set_list))
      (pss_one (ps_ret (pv 2))))) pss_nil)
      (pss_cons (ps_asg (pe_op op_add (pe_ix ix_list (pv 0) pe_int (fun _ _ => rfl)) pe_int) (pg_sub (pv 0) pe_int set_list))
      (pss_cons (ps_if (pt_cmpR op_gt (pe_ix ix_list (pv 0) pe_int (fun _ _ => rfl)) (pe_callB call_len (by rfl) T.m_len (by decide +kernel) (pa_cons (pe_ix ix_list (pv 0) pe_int (fun _ _ => rfl)) pa_nil)) (nomark _)) (pss_cons (ps_asg (pe_op op_mod (pe_callTy call_int1 (by rfl) T.m_int (by decide +kernel) (pa_cons (pe_op op_add (pe_op op_mul (pe_ix ix_list (pv 0) pe_int (fun _ _ => rfl)) pe_int) pe_int) pa_nil)) pe_int) (pg_sub (pv 0) pe_int set_list))
      (pss_one (ps_ret (pe_op op_mod (pe_callTy call_int1 (by rfl) T.m_int (by decide +kernel) (pa_cons (pe_op op_fdiv (pe_ix ix_list (pv 0) pe_int (fun _ _ => rfl)) pe_int) pa_nil)) (pv 1))))) pss_nil)
      (pss_cons (ps_set (i := 3) sc__law_taken.nd rfl (Or.inl rfl) (pe_ix ix_list (pe_ix ix_list (pv 0) pe_int (fun _ _ => rfl)) (pe_op op_sub (pe_ix ix_list (pv 0) pe_int (fun _ _ => rfl)) pe_int) (fun _ _ => rfl)))
      (pss_cons (ps_asg (pe_op op_mod (pe_callTy call_int1 (by rfl) T.m_int (by decide +kernel) (pa_cons (pe_op op_add (pe_op op_add (pe_op op_mul (pe_ix ix_list (pv 0) pe_int (fun _ _ => rfl)) pe_int) (pv 3)) pe_int) pa_nil)) pe_int) (pg_sub (pv 0) pe_int set_list))
      (pss_cons (ps_if (pt_cmpR op_ge (pv 3) (pe_op op_pow pe_int pe_int) (nomark _)) (pss_one (ps_asg (pe_op op_fdiv (pv 3) (pv 1)) (pg_sub (pv 0) pe_int set_list))) pss_nil)
      (pss_one (ps_ret (pe_op op_mod (pe_callTy call_int1 (by rfl) T.m_int (by decide +kernel) (pa_cons (pv 3) pa_nil)) (pv 1)))))))))), ?_⟩
    have fin : ∀ {H' : Hp} {i' s' x' : Int}, Xr K r H H' → H' r = some (.lst [.ref sc, .int i', .int s', .int x']) → 0 ≤ i' → 0 ≤ s' → s' < 2147483647 → Qt.Row K r sc ns H' := fun X hr a b c => ⟨_, _, _, hr, hR.sq X, hl, a, b, c⟩
    have md : ∀ z : Int, 0 ≤ z % m ∧ z % m < m := fun z => ⟨Int.emod_nonneg z (by omega), Int.emod_lt_of_pos z (by omega)⟩
    have mg_ : ∀ z : Int, 0 ≤ z % 2147483647 ∧ z % 2147483647 < 2147483647 := fun z => ⟨Int.emod_nonneg z (by omega), Int.emod_lt_of_pos z (by omega)⟩
    refine q_when (b := decide (0 < x)) (et_test (ev_op (evr hr1 rfl (atI_nat (j := 3) rfl)) ev_c rv_I0)) (fun hb H1 e1 => ?_) (fun hb H1 e1 => ?_)
    · -- the rest of a great cell
      have r1 := e1 _ _ hr1
      refine q_asg (ev_op (ev_cb (ea_cons (evr r1 rfl (atI_nat (j := 3) rfl)) ea_nil) rc_int) (ev_var rfl) (rv_I (show 0 < m by omega))) fun H2 e2 => ?_
      have r2 := e2 _ _ r1
      refine q_setL (j := 3) r2 (ev_op (evr r2 rfl (atI_nat (j := 3) rfl)) (ev_var rfl) (rv_I ⟨by omega, by omega⟩)) (ev_var rfl) ev_c (by simp) fun H3 e3 => ?_
      refine s_ret (ev_var rfl) fun H4 e4 => ?_
      have X : Xr K r H H4 := (((Xr.of e1).trans (Xr.of e2)).trans (Xr.of e3)).trans (xr_upd.trans (Xr.of e4))
      exact q _ H4 (md x).1 (md x).2 X (fin X (e4 _ _ upd_same) i0 s0 s1)
    · have r1 := e1 _ _ hr1
      refine q_setL (j := 1) r1 (ev_op (evr r1 rfl (atI_nat (j := 1) rfl)) ev_c rv_I0) (ev_var rfl) ev_c (by simp) fun H2 e2 => ?_
      have X2 : Xr K r H (upd H2 r (.lst [.ref sc, .int (i + 1), .int sd, .int x])) := ((Xr.of e1).trans (Xr.of e2)).trans xr_upd
      have r2 : (upd H2 r (.lst [.ref sc, .int (i + 1), .int sd, .int x])) r = some (.lst [.ref sc, .int (i + 1), .int sd, .int x]) := upd_same
      generalize hG : upd H2 r (.lst [.ref sc, .int (i + 1), .int sd, .int x]) = G at X2 r2
      have hs2 : SqL K G sc (ns.map V.int) := hR.sq X2
      show tSeq _ _ _ _ (upd H2 r (.lst [.ref sc, .int (i + 1), .int sd, .int x]))
      rw [hG]
      refine q_when (b := decide (((ns.map V.int).length : Int) < i + 1)) (et_test (ev_op (evr r2 rfl (atI_nat (j := 1) rfl)) (ev_cb (ea_cons (evr r2 rfl (atI_nat (j := 0) rfl)) ea_nil) (rc_lenL hs2)) rv_I0)) (fun hc H3 e3 => ?_) (fun hc H3 e3 => ?_)
      · -- mixed numbers
        have r3 := e3 _ _ r2
        refine q_setL (j := 2) r3 (ev_op (ev_cb (ea_cons (ev_op (ev_op (evr r3 rfl (atI_nat (j := 2) rfl)) ev_c (rv_I (.inl ⟨by omega, by omega⟩))) ev_c rv_I0) ea_nil) rc_int) ev_c (rv_I (by decide))) (ev_var rfl) ev_c (by simp) fun H4 e4 => ?_
        have X4 := (X2.trans (Xr.of e3)).trans ((Xr.of e4).trans (xr_upd (o := .lst [.ref sc, .int (i + 1), .int ((sd * 48271 + 11) % 2147483647), .int x])))
        refine s_ret (ev_op (ev_cb (ea_cons (ev_op (evr (xs := [.ref sc, .int (i + 1), .int ((sd * 48271 + 11) % 2147483647), .int x]) upd_same rfl (atI_nat (j := 2) rfl)) ev_c (rv_I ⟨by decide, by decide⟩)) ea_nil) rc_int) (ev_var rfl) (rv_I (show 0 < m by omega))) fun H5 e5 => ?_
        have X5 := X4.trans (Xr.of e5)
        exact q _ H5 (md _).1 (md _).2 X5 (fin X5 (e5 _ _ upd_same) (by omega) (mg_ _).1 (mg_ _).2)
      · have hi : i < (ns.length : Int) := by
          have z := of_decide_eq_false hc
          rw [List.length_map] at z
          omega
        have r3 := e3 _ _ r2
        have X3 := X2.trans (Xr.of e3)
        obtain ⟨n, rfl⟩ := Int.eq_ofNat_of_zero_le i0
        have hcell : atI (ns.map V.int) ((n : Int) + 1 - 1) = some (.int (ns.getD n 0)) := by
          have e0 : (n : Int) + 1 - 1 = (n : Int) := by omega
          rw [e0]
          refine atI_nat ?_
          rw [List.getElem?_map, List.getD_eq_getElem?_getD, List.getElem?_eq_getElem (by omega)]
          rfl
        refine q_asg (ev_op (evr r3 rfl (atI_nat (j := 0) rfl)) (ev_op (evr r3 rfl (atI_nat (j := 1) rfl)) ev_c rv_I0) (rv_ixL (ex_l e3 hs2) hcell)) fun H4 e4 => ?_
        have r4 := e4 _ _ r3
        refine q_setL (j := 2) r4 (ev_op (ev_cb (ea_cons (ev_op (ev_op (ev_op (evr r4 rfl (atI_nat (j := 2) rfl)) ev_c (rv_I (.inl ⟨by omega, by omega⟩))) (ev_var rfl) rv_I0) ev_c rv_I0) ea_nil) rc_int) ev_c (rv_I (by decide))) (ev_var rfl) ev_c (by simp) fun H5 e5 => ?_
        have X5 := (X3.trans (Xr.of e4)).trans ((Xr.of e5).trans (xr_upd (o := .lst [.ref sc, .int ((n : Int) + 1), .int ((sd * 48271 + ns.getD n 0 + 11) % 2147483647), .int x])))
        have r5 : (upd H5 r (.lst [.ref sc, .int ((n : Int) + 1), .int ((sd * 48271 + ns.getD n 0 + 11) % 2147483647), .int x])) r = some (.lst [.ref sc, .int ((n : Int) + 1), .int ((sd * 48271 + ns.getD n 0 + 11) % 2147483647), .int x]) := upd_same
        generalize hG5 : upd H5 r (.lst [.ref sc, .int ((n : Int) + 1), .int ((sd * 48271 + ns.getD n 0 + 11) % 2147483647), .int x]) = G5 at X5 r5
        show tSeq _ _ _ _ (upd H5 r (.lst [.ref sc, .int ((n : Int) + 1), .int ((sd * 48271 + ns.getD n 0 + 11) % 2147483647), .int x]))
        rw [hG5]
        refine q_when (b := decide (((10 : Int) ^ (18 : Int).toNat) ≤ ns.getD n 0)) (et_test (ev_op (ev_var rfl) (ev_op ev_c ev_c (rv_I ⟨by decide, by decide, by decide⟩)) rv_I0)) (fun hd H6 e6 => ?_) (fun hd H6 e6 => ?_)
        · have r6 := e6 _ _ r5
          refine s_setL (j := 3) r6 (ev_op (ev_var rfl) (ev_var rfl) (rv_I ⟨by omega, by omega⟩)) (ev_var rfl) ev_c (by simp) fun H7 e7 => ?_
          dsimp only
          refine s_ret (ev_op (ev_cb (ea_cons (ev_var rfl) ea_nil) rc_int) (ev_var rfl) (rv_I (show 0 < m by omega))) fun H8 e8 => ?_
          have X8 := ((X5.trans (Xr.of e6)).trans (Xr.of e7)).trans (xr_upd.trans (Xr.of e8))
          exact q _ H8 (md _).1 (md _).2 X8 (fin X8 (e8 _ _ upd_same) (by omega) (mg_ _).1 (mg_ _).2)
        · refine s_ret (ev_op (ev_cb (ea_cons (ev_var rfl) ea_nil) rc_int) (ev_var rfl) (rv_I (show 0 < m by omega))) fun H7 e7 => ?_
          have X7 := (X5.trans (Xr.of e6)).trans (Xr.of e7)
          exact q _ H7 (md _).1 (md _).2 X7 (fin X7 (e7 _ _ (e6 _ _ r5)) (by omega) (mg_ _).1 (mg_ _).2)
end
end K10
namespace K10
open PySem PySem.Spec PyProof.Rows L2 Evl Qt
def spMaskDraw (K : PySem.W.Frag) : Sp := fun vs H Q _ => ∃ (r sc : Addr) (ns : List Int) (wd : Int), vs = [.ref r, .int wd] ∧ 1 ≤ wd ∧ wd ≤ 12 ∧ Qt.Row K r sc ns H ∧
  ∀ (z : Str) (H' : Hp), isMask z = true → (z.length : Int) ≤ wd → Xr K r H H' → Qt.Row K r sc ns H' → Q (.str z) H'
def spOpen : Sp := fun vs H Q _ => ∃ m : Str, vs = [.str m] ∧ m.length ≤ 1000 ∧ RetL (natsV (openM m)) H Q
theorem madeOf_of {z : Str} (h : ∀ c ∈ z.cps.toList, c = 120 ∨ c = 46) : madeOf (.str z) sx = true := by
  show (z.cps.toList.all fun c => decide (c ∈ sx.cps.toList)) = true
  rw [sx_l, List.all_eq_true]
  intro c hc
  rcases h c hc with rfl | rfl <;> decide
theorem isMask_of {z : Str} (h : ∀ c ∈ z.cps.toList, c = 120 ∨ c = 46) (h1 : 1 ≤ z.length) (h2 : z.length ≤ 12) (a : fst z = 120) (b : lst z = 120) : isMask z = true := by
  unfold isMask
  rw [madeOf_of h, a, b, decide_eq_true (show (1 : Int) ≤ (z.length : Int) by omega), decide_eq_true (show (z.length : Int) ≤ 12 by omega)]
  rfl
section
variable {P : Program} {w : World} {K : PySem.W.Frag} {mg : Str → Option Value} {base : Heap} {CM CR CLt CN CTg W fI a_SMALL_WIDTH a_SMALL_SEEN : Addr}
theorem dx_l : (PySem.Str.ofString ".x").cps.toList = [46, 120] := by decide +kernel
theorem xone : (PySem.Str.ofString "x").cps.toList = [120] := by decide +kernel
theorem x_mask : isMask (PySem.Str.ofString "x") = true := by decide +kernel
theorem x_len : (PySem.Str.ofString "x").length = 1 := by decide +kernel
end
end K10
namespace K10
open PySem PySem.Spec PyProof.Rows L2 Evl Qt
def sl : Str := PySem.Str.ofString "abcd"
def isRow (m : Str) : Bool := madeOf (.str m) sl && decide (m.length ≤ 60)
def isRowV : V → Bool
  | .str m => isRow m
  | _ => false
def spIsRow (K : PySem.W.Frag) : Sp := fun vs H Q _ => ∃ v, vs = [v] ∧ VOk K H v ∧ RetV (.bl (isRowV v)) H Q
def viewM (row : Str) (l : List Nat) (st : Nat) : Str := txt (l.map fun p => row.cps.toList.getD (st + p) 0)
def viewsM (row m : Str) : List Str := (List.range (row.length + 1 - m.length)).map (viewM row (openM m))
def missB (x y : Str) (i : Nat) : Bool := !decide (y.cps.toList.getD i 0 = 63) && !decide (y.cps.toList.getD i 0 = x.cps.toList.getD i 0)
def missM (x y : Str) : Nat := ((List.range x.length).filter (missB x y)).length
def spCheckRow : Sp := fun vs H Q _ => ∃ m, vs = [.str m] ∧ isRow m = true ∧ RetV .non H Q
def spViewAt (K : PySem.W.Frag) : Sp := fun vs H Q _ => ∃ (row : Str) (a : Addr) (l : List Nat) (st : Nat), vs = [.str row, .ref a, .int (st : Int)] ∧ SqL K H a (natsV l) ∧ (∀ p ∈ l, st + p < row.length) ∧ l.length ≤ 1000 ∧ row.length ≤ 1000 ∧ RetV (.str (viewM row l st)) H Q
def spOthers : Sp := fun vs H Q _ => ∃ x y : Str, vs = [.str x, .str y] ∧ y.length = x.length ∧ x.length ≤ 1000 ∧ RetV (.int (missM x y : Int)) H Q
def spViews : Sp := fun vs H Q _ => ∃ row m : Str, vs = [.str row, .str m] ∧ isRow row = true ∧ isMask m = true ∧ RetL ((viewsM row m).map V.str) H Q
theorem q_eq : PySem.Str.ofString "?" = ⟨#[63]⟩ := by decide +kernel
theorem row_len {m : Str} (h : isRow m = true) : m.length ≤ 60 := by
  unfold isRow at h
  simp only [Bool.and_eq_true, decide_eq_true_eq] at h
  exact h.2
theorem open_lt {m : Str} {p : Nat} (h : p ∈ openM m) : p < m.length := List.mem_range.mp (List.mem_filter.mp h).1
theorem rv_chrs {H : Hp} {c d : Nat} : RV rNe (.str ⟨#[c]⟩) (.str ⟨#[d]⟩) H (.bl (!decide (c = d))) := by
  have e : decide (V.str (⟨#[c]⟩ : Str) = V.str ⟨#[d]⟩) = decide (c = d) := by
    by_cases h : c = d
    · subst h; simp
    · simp [h]
  rw [← e]
  exact rv_ne rfl
section
variable {P : Program} {w : World} {K : PySem.W.Frag} {mg : Str → Option Value} {base : Heap} {CM CR CLt CN CTg W fI a_SMALL_WIDTH a_SMALL_SEEN : Addr}
theorem ok_is_row (e : Ent K mg "is_row" s_is_row p_is_row) (T : Top K mg CM CR CLt CN CTg W fI a_SMALL_WIDTH a_SMALL_SEEN) (c1 : Cal P w K mg base CX0 1 "made_of" p_made_of (spMade K)) : Cal P w K mg base CX0 2 "is_row" p_is_row (spIsRow K) := by
  obtain ⟨f, fd, F, m_, b_⟩ := e
  obtain ⟨f_made_of, fd_made_of, G_made_of, m_made_of, k_made_of, b_made_of⟩ := c1
  refine ⟨f, fd, F.ok sc_is_row (fun vs H Q E h => ?_) (fun cdv A outer s H vs Q E hr h => ?_), m_, F.kp, b_⟩
  · obtain ⟨v, rfl, _⟩ := h
    rfl
  · obtain ⟨v, rfl, hv, q⟩ := h
    refine ⟨_, (pss_one (ps_ret (pe_and (pe_call G_made_of (hr.mono (by decide)) (by rfl) m_made_of k_made_of b_made_of .nil pass0 (pa_cons (pv 0) (pa_cons (pe_glob (v := .str (PySem.Str.ofString "abcd")) (by rfl) T.g_LETTERS.choose_spec ⟨_, rfl⟩) pa_nil))) (pe_one (pe_cmpR op_le (pe_callB call_len_str (by rfl) T.m_len (by decide +kernel) (pa_cons (pv 0) pa_nil)) (pe_glob (v := .int 60) (by rfl) T.g_LONGEST.choose_spec ⟨_, rfl⟩) (nomark _)))))), ?_⟩
    refine s_ret (v := .bl (isRowV v)) (ev_is (ev_andV (a := madeOf v sl) (b := decide (lenOf v ≤ 60)) (ev_call (ea_cons (ev_var rfl) (ea_cons ev_c ea_nil)) (made_val hv)) fun h => ev_op (x := .int (lenOf v)) ?_ ev_c rv_I0) ?_) q
    · cases v with
      | str m =>
        obtain ⟨t, _, _, h3⟩ := hv
        exact ev_cb (ea_cons (ev_var rfl) ea_nil) fun H2 _ _ q => ⟨m, rfl, by have := h3 m rfl; rw [sizeLine_eq]; omega, q H2 (Ex.refl H2)⟩
      | _ => exact Bool.noConfusion (show false = true from h)
    · cases v with
      | str m =>
        show V.bl (madeOf (.str m) sl && decide ((m.length : Int) ≤ 60)) = V.bl (madeOf (.str m) sl && decide (m.length ≤ 60))
        rw [decide_eq_decide.mpr (show (m.length : Int) ≤ 60 ↔ m.length ≤ 60 by omega)]
      | _ => rfl
theorem ok_check_row (e : Ent K mg "check_row" s_check_row p_check_row) (T : Top K mg CM CR CLt CN CTg W fI a_SMALL_WIDTH a_SMALL_SEEN) (c1 : Cal P w K mg base CX0 2 "is_row" p_is_row (spIsRow K)) : Cal P w K mg base CX0 3 "check_row" p_check_row spCheckRow := by
  obtain ⟨f, fd, F, m_, b_⟩ := e
  obtain ⟨f_is_row, fd_is_row, G_is_row, m_is_row, k_is_row, b_is_row⟩ := c1
  refine ⟨f, fd, F.ok sc_check_row (fun vs H Q E h => ?_) (fun cdv A outer s H vs Q E hr h => ?_), m_, F.kp, b_⟩
  · obtain ⟨m, rfl, _⟩ := h
    rfl
  · obtain ⟨m, rfl, hm, q⟩ := h
    have hl := row_len hm
    refine ⟨_, (pss_one (ps_if (pt_not (pt_val (pe_call G_is_row (hr.mono (by decide)) (by rfl) m_is_row k_is_row b_is_row .nil pass0 (pa_cons (pv 0) pa_nil)))) (pss_one ps_never) pss_nil)), ?_⟩
    refine s_when (b := !isRowV (.str m)) (et_not (et_B (ev_call (ea_cons (ev_var rfl) ea_nil) fun H1 e1 Q q E => ⟨.str m, rfl, .str (by omega), q⟩))) (fun h H1 e1 => ?_) (fun h H1 e1 => q H1 e1)
    rw [show isRowV (.str m) = true from hm] at h
    cases h
theorem sum_nat (a b : Nat) : (a : Int) + (b : Int) = ((a + b : Nat) : Int) := by omega
theorem at_sign {z : Str} {i : Nat} (h : i < z.length) : atI z.cps.toList (i : Int) = some (z.cps.toList.getD i 0) := atI_nat (by
  have hl := len_l z
  rw [List.getElem?_eq_getElem (by omega), List.getD_eq_getElem?_getD, List.getElem?_eq_getElem (by omega)]
  rfl)
theorem view_list (row : Str) (l : List Nat) (st : Nat) : (List.range l.length).map (fun i => V.str ⟨#[row.cps.toList.getD (st + l.getD i 0) 0]⟩) = (l.map fun p => row.cps.toList.getD (st + p) 0).map fun c => V.str ⟨#[c]⟩ := by
  rw [range_getD l fun c => V.str ⟨#[row.cps.toList.getD (st + c) 0]⟩, List.map_map]
  rfl
theorem mem_getD {l : List Nat} {i : Nat} (h : i < l.length) : l.getD i 0 ∈ l := by
  rw [List.getD_eq_getElem?_getD, List.getElem?_eq_getElem h]
  exact List.getElem_mem h
theorem ok_view_at (e : Ent K mg "view_at" s_view_at p_view_at) (T : Top K mg CM CR CLt CN CTg W fI a_SMALL_WIDTH a_SMALL_SEEN) : Cal P w K mg base CX0 1 "view_at" p_view_at (spViewAt K) := by
  obtain ⟨f, fd, F, m_, b_⟩ := e
  refine ⟨f, fd, F.ok sc_view_at (fun vs H Q E h => ?_) (fun cdv A outer s H vs Q E hr h => ?_), m_, F.kp, b_⟩
  · obtain ⟨row, a, l, st, rfl, _⟩ := h
    rfl
  · obtain ⟨row, a, l, st, rfl, ha, hp, hl, hr', q⟩ := h
    refine ⟨_, (pss_one (ps_ret (pe_join pe_str (pe_lc (own := [("place", 3)]) (g := gName 3) (by rfl) sc_view_at.nd (pi_list (pv 1)) (blkOk_by (own := [("place", 3)]) (N := n_view_at) (sc := (defScope s_view_at)) (by decide +kernel)) (fun _ _ _ _ _ => pg_name (i := 3) sc_view_at.nd rfl (Or.inl rfl)) (fun _ _ _ _ _ => pts_nil) (fun _ _ _ _ _ => (pe_ix ix_str (pv 0) (pe_op op_add (pv 2) (pv 3)) (fun _ _ => rfl))))))), ?_⟩
    have z : EvL (tLc (iList K (tVar 1)) (gName 3) tYes (tOp rIxS (tVar 0) (tOp (rI0 fun i j => V.int (i + j)) (tVar 2) (tVar 3))) [3]) (start n_view_at [.str row, .ref a, .int (st : Int)]) H _ :=
      el_lcL (fun _ => true) (fun i => V.str ⟨#[row.cps.toList.getD (st + l.getD i 0) 0]⟩) (ev_var rfl) ha (by rw [natsV_len]; omega) (fun _ => rfl) (fun _ _ _ _ _ => et_yes) (fun i x H1 e1 hx _ => by
        obtain ⟨hi, rfl⟩ := natsV_get hx
        refine ev_op (ev_var rfl) (ev_op (ev_var rfl) (ev_var rfl) rv_I0) ?_
        rw [sum_nat]
        exact rv_ixS (by omega) (at_sign (hp _ (mem_getD hi))))
    rw [given_all, natsV_len, view_list] at z
    exact s_ret (ev_join nil_l z (by rw [List.length_map]; omega)) q
theorem ok_others (e : Ent K mg "others" s_others p_others) (T : Top K mg CM CR CLt CN CTg W fI a_SMALL_WIDTH a_SMALL_SEEN) : Cal P w K mg base CX0 1 "others" p_others spOthers := by
  obtain ⟨f, fd, F, m_, b_⟩ := e
  refine ⟨f, fd, F.ok sc_others (fun vs H Q E h => ?_) (fun cdv A outer s H vs Q E hr h => ?_), m_, F.kp, b_⟩
  · obtain ⟨x, y, rfl, _⟩ := h
    rfl
  · obtain ⟨x, y, rfl, hl, hx, q⟩ := h
    refine ⟨_, (pss_one (ps_ret (pe_callB call_len (by rfl) T.m_len (by decide +kernel) (pa_cons (pe_lc (own := [("letter", 2), ("sign", 3)]) (g := gTup K 2 (gCons (gName 2) (gCons (gName 3) gNil))) (by rfl) sc_others.nd (pi_zipS (by rfl) T.m_zip (pa_cons (pv 0) (pa_cons (pv 1) pa_nil))) (blkOk_by (own := [("letter", 2), ("sign", 3)]) (N := n_others) (sc := (defScope s_others)) (by decide +kernel)) (fun _ _ _ _ _ => by exact (pg_tup rfl (pgs_cons (by exact pg_name (i := 2) sc_others.nd rfl (Or.inl rfl)) (pgs_cons (by exact pg_name (i := 3) sc_others.nd rfl (Or.inl rfl)) pgs_nil)))) (fun _ _ _ _ _ => pts_one (PW.pt (pw_and (pt_cmpR op_ne (pv 3) (pe_glob (v := .str (PySem.Str.ofString "?")) (by rfl) T.g_UNREAD.choose_spec ⟨_, rfl⟩) (nomark _)) (pw_and1 (pt_cmpR op_ne (pv 3) (pv 2) (nomark _)))))) (fun _ _ _ _ _ => (pv 3))) pa_nil)))), ?_⟩
    refine s_ret (v := .int (missM x y : Int)) (ev_is (ev_lenL (el_lcZS (x := x) (y := y) (missB x y) (fun i => sg y i) (ea_cons (ev_var rfl) (ea_cons (ev_var rfl) ea_nil)) (by omega) hl (fun _ _ => rfl)
      (fun i H1 _ hi => et_and (et_test (ev_op (ev_var rfl) ev_c ?_)) fun _ => et_test (ev_op (ev_var rfl) (ev_var rfl) rv_chrs)) (fun i H1 _ hi _ => ev_var rfl))) ?_) q
    · rw [q_eq]
      exact rv_chrs
    · congr 2
      unfold given missM
      rw [List.length_map]
theorem ok_views (e : Ent K mg "views" s_views p_views) (T : Top K mg CM CR CLt CN CTg W fI a_SMALL_WIDTH a_SMALL_SEEN) (c1 : Cal P w K mg base CX0 3 "check_row" p_check_row spCheckRow) (c2 : Cal P w K mg base CX0 4 "seen" p_seen (spSeen0 K))
    (c3 : Cal P w K mg base CX0 1 "view_at" p_view_at (spViewAt K)) : Cal P w K mg base CX0 5 "views" p_views spViews := by
  obtain ⟨f, fd, F, m_, b_⟩ := e
  obtain ⟨f_check_row, fd_check_row, G_check_row, m_check_row, k_check_row, b_check_row⟩ := c1
  obtain ⟨f_seen, fd_seen, G_seen, m_seen, k_seen, b_seen⟩ := c2
  obtain ⟨f_view_at, fd_view_at, G_view_at, m_view_at, k_view_at, b_view_at⟩ := c3
  refine ⟨f, fd, F.ok sc_views (fun vs H Q E h => ?_) (fun cdv A outer s H vs Q E hr h => ?_), m_, F.kp, b_⟩
  · obtain ⟨row, m, rfl, _⟩ := h
    rfl
  · obtain ⟨row, m, rfl, hr', hm, q⟩ := h
    have h1 := row_len hr'
    have h2 := isMask_len hm
    have h3 := open_len m
    refine ⟨_, (pss_cons (ps_expr (pe_call G_check_row (hr.mono (by decide)) (by rfl) m_check_row k_check_row b_check_row .nil pass0 (pa_cons (pv 0) pa_nil)))
      (pss_cons (ps_set (i := 2) sc_views.nd rfl (Or.inr rfl) (pe_call G_seen (hr.mono (by decide)) (by rfl) m_seen k_seen b_seen .nil pass0 (pa_cons (pv 1) pa_nil)))
      (pss_one (ps_ret (pe_lc (own := [("start", 3)]) (g := gName 3) (by rfl) sc_views.nd (pi_range1 (by rfl) T.m_range (pa_cons (pe_op op_add (pe_op op_sub (pe_callB call_len_str (by rfl) T.m_len (by decide +kernel) (pa_cons (pv 0) pa_nil)) (pe_callB call_len_str (by rfl) T.m_len (by decide +kernel) (pa_cons (pv 1) pa_nil))) pe_int) pa_nil)) (blkOk_by (own := [("start", 3)]) (N := n_views) (sc := (defScope s_views)) (by decide +kernel)) (fun _ _ _ _ _ => pg_name (i := 3) sc_views.nd rfl (Or.inl rfl)) (fun _ _ _ _ _ => pts_nil) (fun _ _ _ _ _ => (pe_call G_view_at (hr.mono (by decide)) (by rfl) m_view_at k_view_at b_view_at .nil pass0 (pa_cons (pv 0) (pa_cons (pv 2) (pa_cons (pv 3) pa_nil)))))))))), ?_⟩
    refine q_drop (v := .non) (ev_call (ea_cons (ev_var rfl) ea_nil) fun H1 e1 Q q E => ⟨row, rfl, hr', q⟩) fun H1 e1 => ?_
    refine q_asgL (xs := natsV (openM m)) (el_call (ea_cons (ev_var rfl) ea_nil) fun H2 e2 Q q E => ⟨m, rfl, hm, q⟩) fun a H2 na e2 ha => ?_
    refine s_retL (xs := (viewsM row m).map V.str) ?_ fun p H3 np e3 h3 => q p H3 (fresh_back (e1.trans e2) np) ((e1.trans e2).trans e3) h3
    have z := el_lcRn (te := tCall (spViewAt K) [] E0 (tCons (tVar 0) (tCons (tVar 2) (tCons (tVar 3) tNil)))) (t := tYes) (j := 3) (vs := [3]) (σ := (start n_views [.str row, .str m]).set 2 (some (.ref a))) (H := H2) (n := (row.length : Int) - (m.length : Int) + 1)
      (ta := tCons (tOp (rI0 fun i j => V.int (i + j)) (tOp (rI0 fun i j => V.int (i - j)) (tCB (fun xs H Q => ∃ z : Str, xs = [.str z] ∧ z.length ≤ sizeLine ∧ Q (.int (z.length : Int)) H) (tCons (tVar 0) tNil))
        (tCB (fun xs H Q => ∃ z : Str, xs = [.str z] ∧ z.length ≤ sizeLine ∧ Q (.int (z.length : Int)) H) (tCons (tVar 1) tNil))) (tC (.int 1))) tNil)
      (fun _ => true) (fun i => V.str (viewM row (openM m) i)) (ea_cons (ev_op (ev_op (ev_cb (ea_cons (ev_var rfl) ea_nil) (rc_lenS (by omega))) (ev_cb (ea_cons (ev_var rfl) ea_nil) (rc_lenS (by omega))) rv_I0) ev_c rv_I0) ea_nil)
      (by omega) (fun _ => rfl) (fun _ _ _ _ => et_yes) (fun i H3 e3 hi _ => ev_call (ea_cons (ev_var rfl) (ea_cons (ev_var rfl) (ea_cons (ev_var rfl) ea_nil))) fun H4 e4 Q q E => ⟨row, a, openM m, i, rfl, sq_of ((e3.trans e4) _ _ ha), fun p hp => by
        have := open_lt hp
        omega, by omega, by omega, q⟩)
    rw [given_all] at z
    rw [show ((row.length : Int) - (m.length : Int) + 1).toNat = row.length + 1 - m.length by omega] at z
    unfold viewsM
    rw [List.map_map]
    exact z
end
end K10
namespace K10
open PySem PySem.Spec PyProof.Rows L2 Evl Qt
def spLine (K : PySem.W.Frag) : Sp := fun vs H Q _ => ∃ (r sc : Addr) (ns : List Int) (most lt : Int), vs = [.ref r, .int most, .int lt] ∧ 0 ≤ most ∧ most ≤ 60 ∧ 1 ≤ lt ∧ lt ≤ 4 ∧ Qt.Row K r sc ns H ∧
  ∀ (z : Str) (H' : Hp), isRow z = true → (z.length : Int) ≤ most → Xr K r H H' → Qt.Row K r sc ns H' → Q (.str z) H'
/-- the same: which letters were drawn is told, too -/
def spLineL (K : PySem.W.Frag) : Sp := fun vs H Q _ => ∃ (r sc : Addr) (ns : List Int) (most lt : Int), vs = [.ref r, .int most, .int lt] ∧ 0 ≤ most ∧ most ≤ 60 ∧ 1 ≤ lt ∧ lt ≤ 4 ∧ Qt.Row K r sc ns H ∧
  ∀ (z : Str) (H' : Hp), (∀ c ∈ z.cps.toList, 97 ≤ c ∧ (c : Int) < 97 + lt) → (z.length : Int) ≤ most → Xr K r H H' → Qt.Row K r sc ns H' → Q (.str z) H'
def spLViews : Sp := fun vs H Q _ => ∃ row m : Str, vs = [.str row, .str m] ∧ row.length ≤ 1000 ∧ m.length ≤ 1000 ∧ RetL ((viewsM row m).map V.str) H Q
theorem sl_l : sl.cps.toList = [97, 98, 99, 100] := by decide +kernel
theorem isRow_of {z : Str} (h : ∀ c ∈ z.cps.toList, c ∈ [97, 98, 99, 100]) (hl : z.length ≤ 60) : isRow z = true := by
  unfold isRow
  rw [decide_eq_true hl, Bool.and_true]
  show (z.cps.toList.all fun c => decide (c ∈ sl.cps.toList)) = true
  rw [sl_l, List.all_eq_true]
  intro c hc
  exact decide_eq_true (h c hc)
section
variable {P : Program} {w : World} {K : PySem.W.Frag} {mg : Str → Option Value} {base : Heap} {CM CR CLt CN CTg W fI a_SMALL_WIDTH a_SMALL_SEEN : Addr}
end
end K10
namespace K10
open PySem PySem.Spec PyProof.Rows L2 Evl Qt
def spTells : Sp := fun vs H Q _ => ∃ row m : Str, vs = [.str row, .str m] ∧ isRow row = true ∧ isMask m = true ∧ RetV (.bl (decide (viewsM row m).Nodup)) H Q
def spLTells : Sp := fun vs H Q _ => ∃ row m : Str, vs = [.str row, .str m] ∧ row.length ≤ 1000 ∧ m.length ≤ 1000 ∧ RetV (.bl (decide (viewsM row m).Nodup)) H Q
section
variable {P : Program} {w : World} {K : PySem.W.Frag} {mg : Str → Option Value} {base : Heap} {CM CR CLt CN CTg W fI a_SMALL_WIDTH a_SMALL_SEEN : Addr}
/-- len(set(xs)) == len(xs) -/
theorem ev_distinct {σ : L2.St} {H : Hp} {ta tb : TE} {l : Addr} {xs : List Str} (ha : Ev ta σ H (.ref l)) (hb : Ev tb σ H (.ref l)) (hx : SqL K H l (xs.map V.str)) (hz : xs.length ≤ 2000) :
    Ev (tOp rEq (tLenSetS K ta) (tCB (fun xs H Q => ∃ x n, xs = [x] ∧ LenV K x H n ∧ Q (.int (n : Int)) H) (tCons tb tNil))) σ H (.bl (decide xs.Nodup)) := fun H1 e Q q =>
  ha H1 e _ fun H2 e2 => ⟨l, xs, rfl, ex_l (e.trans e2) hx, hz, fun n _ hn => hb H2 (e.trans e2) _ fun H3 e3 => ⟨.ref l, xs.length, rfl, .inl ⟨_, ex_l ((e.trans e2).trans e3) hx, by rw [List.length_map]⟩, rfl, by
    have z : decide (V.int (n : Int) = V.int (xs.length : Int)) = decide xs.Nodup := by
      refine decide_eq_decide.mpr (Iff.trans ⟨fun h => ?_, fun h => ?_⟩ hn)
      · injection h with h
        omega
      · rw [h]
    rw [z]
    exact q H3 (e2.trans e3)⟩⟩
theorem viewsM_len (row m : Str) : (viewsM row m).length = row.length + 1 - m.length := by
  unfold viewsM
  rw [List.length_map, List.length_range]
def spUnlike (K : PySem.W.Frag) : Sp := fun vs H Q _ => ∃ (a : Addr) (xs : List Str), vs = [.ref a] ∧ SqL K H a (xs.map V.str) ∧ xs.length ≤ 2000 ∧ RetV (.bl (decide xs.Nodup)) H Q
theorem ok_all_unlike (e : Ent K mg "all_unlike" s_all_unlike p_all_unlike) (T : Top K mg CM CR CLt CN CTg W fI a_SMALL_WIDTH a_SMALL_SEEN) : Cal P w K mg base CX0 1 "all_unlike" p_all_unlike (spUnlike K) := by
  obtain ⟨f, fd, F, m_, b_⟩ := e
  refine ⟨f, fd, F.ok sc_all_unlike (fun vs H Q E h => ?_) (fun cdv A outer s H vs Q E hr h => ?_), m_, F.kp, b_⟩
  · obtain ⟨a, xs, rfl, _⟩ := h
    rfl
  · obtain ⟨a, xs, rfl, ha, hl, q⟩ := h
    refine ⟨_, (pss_one (ps_ret (pe_cmpR op_eq (pe_lenSetS rfl (by rfl) T.m_len (by rfl) T.m_set (pv 0)) (pe_callB call_len (by rfl) T.m_len (by decide +kernel) (pa_cons (pv 0) pa_nil)) (nomark _)))), ?_⟩
    exact s_ret (ev_distinct (ev_var rfl) (ev_var rfl) ha hl) q
/-- all_unlike of a new list -/
theorem ev_unlikeN {E : XK} {σ : L2.St} {H : Hp} {te : TE} {xs : List Str} (h : EvL te σ H (xs.map V.str)) (hz : xs.length ≤ 2000) : Ev (tCall (spUnlike K) [] E (tCons te tNil)) σ H (.bl (decide xs.Nodup)) := fun H1 e Q q =>
  h H1 e _ fun p H2 np e2 hp => ⟨p, xs, rfl, sq_of hp, hz, fun H3 e3 => q H3 (e2.trans e3)⟩
theorem ok_tells (e : Ent K mg "tells" s_tells p_tells) (T : Top K mg CM CR CLt CN CTg W fI a_SMALL_WIDTH a_SMALL_SEEN) (c1 : Cal P w K mg base CX0 5 "views" p_views spViews) (c2 : Cal P w K mg base CX0 1 "all_unlike" p_all_unlike (spUnlike K)) : Cal P w K mg base CX0 6 "tells" p_tells spTells := by
  obtain ⟨f, fd, F, m_, b_⟩ := e
  obtain ⟨f_views, fd_views, G_views, m_views, k_views, b_views⟩ := c1
  obtain ⟨f_all_unlike, fd_all_unlike, G_all_unlike, m_all_unlike, k_all_unlike, b_all_unlike⟩ := c2
  refine ⟨f, fd, F.ok sc_tells (fun vs H Q E h => ?_) (fun cdv A outer s H vs Q E hr h => ?_), m_, F.kp, b_⟩
  · obtain ⟨row, m, rfl, _⟩ := h
    rfl
  · obtain ⟨row, m, rfl, hr', hm, q⟩ := h
    have l1 := row_len hr'
    refine ⟨_, (pss_one (ps_ret (pe_call G_all_unlike (hr.mono (by decide)) (by rfl) m_all_unlike k_all_unlike b_all_unlike .nil pass0 (pa_cons (pe_call G_views (hr.mono (by decide)) (by rfl) m_views k_views b_views .nil pass0 (pa_cons (pv 0) (pa_cons (pv 1) pa_nil))) pa_nil)))), ?_⟩
    exact s_ret (ev_unlikeN (E := E0) (xs := viewsM row m) (el_call (ea_cons (ev_var rfl) (ea_cons (ev_var rfl) ea_nil)) fun H1 e1 Q q E => ⟨row, m, rfl, hr', hm, q⟩) (by rw [viewsM_len]; omega)) q
end
end K10
namespace K10
open PySem PySem.Spec PyProof.Rows L2 Evl Qt
def ringV (row : Str) (l : List Nat) (st : Nat) : Str := txt (l.map fun p => row.cps.toList.getD ((st + p) % row.length) 0)
def ringM (row m : Str) : List Str := (List.range row.length).map (ringV row (openM m))
def spCheckRing : Sp := fun vs H Q _ => ∃ m, vs = [.str m] ∧ isRow m = true ∧ 1 ≤ m.length ∧ RetV .non H Q
def spRingView (K : PySem.W.Frag) : Sp := fun vs H Q _ => ∃ (row : Str) (a : Addr) (l : List Nat) (i : Nat), vs = [.str row, .ref a, .int (i : Int)] ∧ SqL K H a (natsV l) ∧ l.length ≤ 1000 ∧ 1 ≤ row.length ∧ row.length ≤ 1000 ∧ RetV (.str (ringV row l i)) H Q
def spRing : Sp := fun vs H Q _ => ∃ row m : Str, vs = [.str row, .str m] ∧ isRow row = true ∧ 1 ≤ row.length ∧ isMask m = true ∧ RetL ((ringM row m).map V.str) H Q
def spRingTells : Sp := fun vs H Q _ => ∃ row m : Str, vs = [.str row, .str m] ∧ isRow row = true ∧ 1 ≤ row.length ∧ isMask m = true ∧ RetV (.bl (decide (ringM row m).Nodup)) H Q
theorem ringM_len (row m : Str) : (ringM row m).length = row.length := by
  unfold ringM
  rw [List.length_map, List.length_range]
theorem mod_nat (i p n : Nat) : V.int (((i : Int) + (p : Int)) % (n : Int)) = V.int (((i + p) % n : Nat) : Int) := by
  congr 1
theorem ring_of_wide {row m : Str} (h1 : 1 ≤ row.length) (hm : isMask m = true) : (viewsM (repS row 13) m).take row.length = ringM row m := by
  have l2 := isMask_len hm
  unfold viewsM ringM
  rw [← List.map_take, List.take_range, repS_length, Nat.min_eq_left (by omega)]
  refine List.map_congr_left fun i hi => ?_
  have hi' := List.mem_range.mp hi
  unfold viewM ringV
  congr 1
  refine List.map_congr_left fun p hp => ?_
  have := open_lt hp
  exact repS_get _ _ _ (by omega)
theorem strOk_letters {z : Str} (h : ∀ c ∈ z.cps.toList, c ∈ [97, 98, 99, 100]) : PyData.strOk z = true := by
  unfold PyData.strOk
  rw [Array.all_eq_true_iff_forall_mem]
  intro c hc
  have := h c (Array.mem_toList_iff.mpr hc)
  simp only [List.mem_cons, List.not_mem_nil, or_false] at this
  simp only [decide_eq_true_eq]
  omega
theorem row_letters {z : Str} (h : isRow z = true) : ∀ c ∈ z.cps.toList, c ∈ [97, 98, 99, 100] := by
  unfold isRow at h
  rw [Bool.and_eq_true] at h
  have h1 : (z.cps.toList.all fun c => decide (c ∈ sl.cps.toList)) = true := h.1
  rw [sl_l, List.all_eq_true] at h1
  exact fun c hc => of_decide_eq_true (h1 c hc)
theorem shaped_ring {row m : Str} (hr : isRow row = true) (h1 : 1 ≤ row.length) : SeqAt.shaped (.list ((ringM row m).map PyData.str)) = true := shaped_list fun d hd => by
  obtain ⟨z, hz, rfl⟩ := List.mem_map.mp hd
  unfold ringM at hz
  obtain ⟨i, hi, rfl⟩ := List.mem_map.mp hz
  refine ⟨strOk_letters fun c hc => ?_, by show 0 ≤ 10; omega⟩
  unfold ringV at hc
  rw [txt_l] at hc
  obtain ⟨p, _, rfl⟩ := List.mem_map.mp hc
  refine row_letters hr _ (mem_getD ?_)
  rw [len_l]
  exact Nat.mod_lt _ (by omega)
theorem dp_strs {K : PySem.W.Frag} {H : Hp} : ∀ l : List Str, DpAll K H (l.map V.str) (l.map PyData.str)
  | [] => .nil
  | i :: r => .cons (.str i) (dp_strs r)
section
variable {P : Program} {w : World} {K : PySem.W.Frag} {mg : Str → Option Value} {base : Heap} {CM CR CLt CN CTg W fI a_SMALL_WIDTH a_SMALL_SEEN : Addr}
theorem ok_check_ring (e : Ent K mg "check_ring" s_check_ring p_check_ring) (T : Top K mg CM CR CLt CN CTg W fI a_SMALL_WIDTH a_SMALL_SEEN) (c1 : Cal P w K mg base CX0 3 "check_row" p_check_row spCheckRow) : Cal P w K mg base CX0 4 "check_ring" p_check_ring spCheckRing := by
  obtain ⟨f, fd, F, m_, b_⟩ := e
  obtain ⟨f_check_row, fd_check_row, G_check_row, m_check_row, k_check_row, b_check_row⟩ := c1
  refine ⟨f, fd, F.ok sc_check_ring (fun vs H Q E h => ?_) (fun cdv A outer s H vs Q E hr h => ?_), m_, F.kp, b_⟩
  · obtain ⟨m, rfl, _⟩ := h
    rfl
  · obtain ⟨m, rfl, hm, h0, q⟩ := h
    have h1 := row_len hm
    refine ⟨_, (pss_cons (ps_expr (pe_call G_check_row (hr.mono (by decide)) (by rfl) m_check_row k_check_row b_check_row .nil pass0 (pa_cons (pv 0) pa_nil)))
      (pss_one (ps_if (pt_not (pt_truth (pv 0) (by intro _; rfl))) (pss_one ps_never) pss_nil))), ?_⟩
    refine q_drop (v := .non) (ev_call (ea_cons (ev_var rfl) ea_nil) fun H1 e1 Q q E => ⟨m, rfl, hm, q⟩) fun H1 e1 => ?_
    refine s_when (b := !((m.length : Int) != 0)) (et_not (et_str (ev_var rfl) (by omega))) (fun h => ?_) (fun _ H2 e2 => q H2 (e1.trans e2))
    have z : ((m.length : Int) != 0) = true := by
      rw [bne_iff_ne]
      omega
    rw [z] at h
    cases h
theorem ok_ring_view (e : Ent K mg "ring_view" s_ring_view p_ring_view) (T : Top K mg CM CR CLt CN CTg W fI a_SMALL_WIDTH a_SMALL_SEEN) : Cal P w K mg base CX0 1 "ring_view" p_ring_view (spRingView K) := by
  obtain ⟨f, fd, F, m_, b_⟩ := e
  refine ⟨f, fd, F.ok sc_ring_view (fun vs H Q E h => ?_) (fun cdv A outer s H vs Q E hr h => ?_), m_, F.kp, b_⟩
  · obtain ⟨row, a, l, i, rfl, _⟩ := h
    rfl
  · obtain ⟨row, a, l, i, rfl, ha, hl, h0, h1, q⟩ := h
    refine ⟨_, (pss_one (ps_ret (pe_join pe_str (pe_lc (own := [("place", 3)]) (g := gName 3) (by rfl) sc_ring_view.nd (pi_list (pv 1)) (blkOk_by (own := [("place", 3)]) (N := n_ring_view) (sc := (defScope s_ring_view)) (by decide +kernel)) (fun _ _ _ _ _ => pg_name (i := 3) sc_ring_view.nd rfl (Or.inl rfl)) (fun _ _ _ _ _ => pts_nil) (fun _ _ _ _ _ => (pe_ix ix_str (pv 0) (pe_op op_mod (pe_op op_add (pv 2) (pv 3)) (pe_callB call_len_str (by rfl) T.m_len (by decide +kernel) (pa_cons (pv 0) pa_nil))) (fun _ _ => rfl))))))), ?_⟩
    refine s_ret (v := .str (ringV row l i)) (ev_join (l := l.map fun p => row.cps.toList.getD ((i + p) % row.length) 0) nil_l (el_is (el_lcL (fun _ => true) (fun k => V.str ⟨#[row.cps.toList.getD ((i + l.getD k 0) % row.length) 0]⟩) (ev_var rfl) ha (by rw [natsV_len]; omega) (fun _ => rfl) (fun _ _ _ _ _ => et_yes) (fun k x H6 e6 hx _ => ?_)) ?_) (by rw [List.length_map]; omega)) q
    · obtain ⟨hk, rfl⟩ := natsV_get hx
      refine ev_op (y := .int (((i + l.getD k 0) % row.length : Nat) : Int)) (ev_var rfl) (ev_is (ev_op (ev_op (ev_var rfl) (ev_var rfl) rv_I0) (ev_cb (ea_cons (ev_var rfl) ea_nil) (rc_lenS (by omega))) (rv_I (show (0 : Int) < (row.length : Int) by omega))) (mod_nat _ _ _)) ?_
      exact rv_ixS (by omega) (at_sign (Nat.mod_lt _ (by omega)))
    · rw [given_all, natsV_len, range_getD l fun c => V.str ⟨#[row.cps.toList.getD ((i + c) % row.length) 0]⟩, List.map_map]
      rfl
theorem ok_ring_views (e : Ent K mg "ring_views" s_ring_views p_ring_views) (T : Top K mg CM CR CLt CN CTg W fI a_SMALL_WIDTH a_SMALL_SEEN) (c1 : Cal P w K mg base CX0 4 "check_ring" p_check_ring spCheckRing) (c2 : Cal P w K mg base CX0 4 "seen" p_seen (spSeen0 K)) (c3 : Cal P w K mg base CX0 1 "ring_view" p_ring_view (spRingView K)) :
    Cal P w K mg base CX0 5 "ring_views" p_ring_views spRing := by
  obtain ⟨f, fd, F, m_, b_⟩ := e
  obtain ⟨f_check_ring, fd_check_ring, G_check_ring, m_check_ring, k_check_ring, b_check_ring⟩ := c1
  obtain ⟨f_seen, fd_seen, G_seen, m_seen, k_seen, b_seen⟩ := c2
  obtain ⟨f_ring_view, fd_ring_view, G_ring_view, m_ring_view, k_ring_view, b_ring_view⟩ := c3
  refine ⟨f, fd, F.ok sc_ring_views (fun vs H Q E h => ?_) (fun cdv A outer s H vs Q E hr h => ?_), m_, F.kp, b_⟩
  · obtain ⟨row, m, rfl, _⟩ := h
    rfl
  · obtain ⟨row, m, rfl, hr', h0, hm, q⟩ := h
    have h1 := row_len hr'
    have h2 := isMask_len hm
    have h3 := open_len m
    refine ⟨_, (pss_cons (ps_expr (pe_call G_check_ring (hr.mono (by decide)) (by rfl) m_check_ring k_check_ring b_check_ring .nil pass0 (pa_cons (pv 0) pa_nil)))
      (pss_cons (ps_set (i := 2) sc_ring_views.nd rfl (Or.inr rfl) (pe_call G_seen (hr.mono (by decide)) (by rfl) m_seen k_seen b_seen .nil pass0 (pa_cons (pv 1) pa_nil)))
      (pss_one (ps_ret (pe_lc (own := [("start", 3)]) (g := gName 3) (by rfl) sc_ring_views.nd (pi_range1 (by rfl) T.m_range (pa_cons (pe_callB call_len_str (by rfl) T.m_len (by decide +kernel) (pa_cons (pv 0) pa_nil)) pa_nil)) (blkOk_by (own := [("start", 3)]) (N := n_ring_views) (sc := (defScope s_ring_views)) (by decide +kernel)) (fun _ _ _ _ _ => pg_name (i := 3) sc_ring_views.nd rfl (Or.inl rfl)) (fun _ _ _ _ _ => pts_nil) (fun _ _ _ _ _ => (pe_call G_ring_view (hr.mono (by decide)) (by rfl) m_ring_view k_ring_view b_ring_view .nil pass0 (pa_cons (pv 0) (pa_cons (pv 2) (pa_cons (pv 3) pa_nil)))))))))), ?_⟩
    refine q_drop (v := .non) (ev_call (ea_cons (ev_var rfl) ea_nil) fun H1 e1 Q q E => ⟨row, rfl, hr', h0, q⟩) fun H1 e1 => ?_
    refine q_asgL (xs := natsV (openM m)) (el_call (ea_cons (ev_var rfl) ea_nil) fun H2 e2 Q q E => ⟨m, rfl, hm, q⟩) fun a H3 na e3 ha => ?_
    refine s_retL (xs := (ringM row m).map V.str) (el_is (el_lcR1 (n := (row.length : Int)) (fun _ => true) (fun i => V.str (ringV row (openM m) i)) (ea_cons (ev_cb (ea_cons (ev_var rfl) ea_nil) (rc_lenS (by omega))) ea_nil) (by omega) (fun _ => rfl) (fun _ _ _ _ => et_yes) (fun i H5 e5 hi _ => ?_)) ?_) fun p H5 np e5 h5 => q p H5 (fresh_back (e1.trans e3) np) ((e1.trans e3).trans e5) h5
    · exact ev_call (ea_cons (ev_var rfl) (ea_cons (ev_var rfl) (ea_cons (ev_var rfl) ea_nil))) fun H6 e6 Q q E => ⟨row, a, openM m, i, rfl, sq_of ((e5.trans e6) _ _ ha), by omega, by omega, by omega, q⟩
    · rw [given_all]
      unfold ringM
      rw [List.map_map]
      rfl
theorem ok_ring_tells (e : Ent K mg "ring_tells" s_ring_tells p_ring_tells) (T : Top K mg CM CR CLt CN CTg W fI a_SMALL_WIDTH a_SMALL_SEEN) (c1 : Cal P w K mg base CX0 5 "ring_views" p_ring_views spRing) (c2 : Cal P w K mg base CX0 1 "all_unlike" p_all_unlike (spUnlike K)) : Cal P w K mg base CX0 6 "ring_tells" p_ring_tells spRingTells := by
  obtain ⟨f, fd, F, m_, b_⟩ := e
  obtain ⟨f_ring_views, fd_ring_views, G_ring_views, m_ring_views, k_ring_views, b_ring_views⟩ := c1
  obtain ⟨f_all_unlike, fd_all_unlike, G_all_unlike, m_all_unlike, k_all_unlike, b_all_unlike⟩ := c2
  refine ⟨f, fd, F.ok sc_ring_tells (fun vs H Q E h => ?_) (fun cdv A outer s H vs Q E hr h => ?_), m_, F.kp, b_⟩
  · obtain ⟨row, m, rfl, _⟩ := h
    rfl
  · obtain ⟨row, m, rfl, hr', h0, hm, q⟩ := h
    have l1 := row_len hr'
    refine ⟨_, (pss_one (ps_ret (pe_call G_all_unlike (hr.mono (by decide)) (by rfl) m_all_unlike k_all_unlike b_all_unlike .nil pass0 (pa_cons (pe_call G_ring_views (hr.mono (by decide)) (by rfl) m_ring_views k_ring_views b_ring_views .nil pass0 (pa_cons (pv 0) (pa_cons (pv 1) pa_nil))) pa_nil)))), ?_⟩
    exact s_ret (ev_unlikeN (xs := ringM row m) (el_call (ea_cons (ev_var rfl) (ea_cons (ev_var rfl) ea_nil)) fun H1 e1 Q q E => ⟨row, m, rfl, hr', h0, hm, q⟩) (by rw [ringM_len]; omega)) q
end
end K10
namespace K10
open PySem PySem.Spec PyProof.Rows L2 Evl Qt
/-! ### checks, with what they raise -/
def spCheckRowX (K : PySem.W.Frag) (CR : Addr) : Sp := fun vs H Q E => ∃ v, vs = [v] ∧ VOk K H v ∧ (isRowV v = true → RetV .non H Q) ∧ (isRowV v = false → ∀ H', Ex H H' → E (.ref CR) none H')
def ringOk : V → Bool
  | .str z => isRow z && !decide (z.length = 0)
  | _ => false
def spRingX (K : PySem.W.Frag) (CR : Addr) : Sp := fun vs H Q E => ∃ v, vs = [v] ∧ VOk K H v ∧ (ringOk v = true → RetV .non H Q) ∧ (ringOk v = false → ∀ H', Ex H H' → E (.ref CR) none H')
def patV : V → Bool
  | .str z => madeOf (.str z) (sl ++ PySem.Str.ofString "?") && decide (z.length ≤ 60)
  | _ => false
def spPatX (K : PySem.W.Frag) (CP : Addr) : Sp := fun vs H Q E => ∃ v, vs = [v] ∧ VOk K H v ∧ (patV v = true → RetV .non H Q) ∧ (patV v = false → ∀ H', Ex H H' → E (.ref CP) none H')
def swN (n : Nat) : Nat := [12, 12, 8, 5, 4].getD n 0
def ssN (n : Nat) : Nat := [12, 12, 4, 2, 1].getD n 0
def spGreatX (CTg : Addr) : Sp := fun vs H Q E => ∃ (a b n : Nat), vs = [.int (a : Int), .int (b : Int), .int (n : Int)] ∧ 1 ≤ n ∧ n ≤ 4 ∧ ((a ≤ swN n ∧ b ≤ ssN n) → RetV .non H Q) ∧ (¬ (a ≤ swN n ∧ b ≤ ssN n) → ∀ H', Ex H H' → E (.ref CTg) none H')
def fitsM (m : Str) (n : Nat) : Prop := m.length ≤ swN n ∧ (openM m).length ≤ ssN n
def spSmallE (K : PySem.W.Frag) (CM CLt CTg : Addr) : Sp := fun vs H Q E => ∃ v l, vs = [v, l] ∧ VOk K H v ∧ NOk K H l ∧ (isMaskV v = false → ∀ H', Ex H H' → E (.ref CM) none H') ∧ (isMaskV v = true → isNum 1 4 l = false → ∀ H', Ex H H' → E (.ref CLt) none H') ∧
  (∀ (m : Str) (n : Nat), v = .str m → l = .int (n : Int) → isMask m = true → 1 ≤ n → n ≤ 4 → (fitsM m n → RetV .non H Q) ∧ (¬ fitsM m n → ∀ H', Ex H H' → E (.ref CTg) none H'))
def sgC (n : Nat) : Str := cutS sl none (some (n : Int))
def rowIn (v : V) (n : Nat) : Bool := isRowV v && madeOf v (sgC n)
def spRowInX (K : PySem.W.Frag) (CR : Addr) : Sp := fun vs H Q E => ∃ v n, vs = [v, .int ((n : Nat) : Int)] ∧ VOk K H v ∧ (rowIn v n = true → RetV .non H Q) ∧ (rowIn v n = false → ∀ H', Ex H H' → E (.ref CR) none H')
def spLetX (K : PySem.W.Frag) (CM CLt CR : Addr) : Sp := fun vs H Q E => ∃ r v l, vs = [r, v, l] ∧ VOk K H r ∧ VOk K H v ∧ NOk K H l ∧ (isMaskV v = false → ∀ H', Ex H H' → E (.ref CM) none H') ∧ (isMaskV v = true → isNum 1 4 l = false → ∀ H', Ex H H' → E (.ref CLt) none H') ∧
  (∀ n : Nat, isMaskV v = true → l = .int (n : Int) → 1 ≤ n → n ≤ 4 → (rowIn r n = true → RetV .non H Q) ∧ (rowIn r n = false → ∀ H', Ex H H' → E (.ref CR) none H'))
theorem open_len' (m : Str) : (openM m).length ≤ m.length := by
  unfold openM
  have h := List.length_filter_le (fun i => decide (m.cps.toList.getD i 0 = 120)) (List.range m.length)
  rw [List.length_range] at h
  exact h
section
variable {P : Program} {w : World} {K : PySem.W.Frag} {mg : Str → Option Value} {base : Heap} {CM CR CLt CN CTg W fI a_SMALL_WIDTH a_SMALL_SEEN : Addr}
theorem ok_check_rowX (e : Ent K mg "check_row" s_check_row p_check_row) (T : Top K mg CM CR CLt CN CTg W fI a_SMALL_WIDTH a_SMALL_SEEN) (c1 : Cal P w K mg base CX0 2 "is_row" p_is_row (spIsRow K)) : Cal P w K mg base (L2.CX P w) 3 "check_row" p_check_row (spCheckRowX K CR) := by
  obtain ⟨f, fd, F, m_, b_⟩ := e
  obtain ⟨f_is_row, fd_is_row, G_is_row, m_is_row, k_is_row, b_is_row⟩ := c1
  refine ⟨f, fd, F.okX sc_check_row (fun vs H Q E h => ?_) (fun cdv A outer s H vs Q E hr h => ?_), m_, F.kp, b_⟩
  · obtain ⟨v, rfl, _⟩ := h
    rfl
  · obtain ⟨v, rfl, hv, q1, q2⟩ := h
    refine ⟨_, (pss_one (ps_if (pt_not (pt_val (pe_call G_is_row (hr.mono (by decide)) (by rfl) m_is_row k_is_row b_is_row .nil pass0 (pa_cons (pv 0) pa_nil)))) (pss_one (ps_raise rfl (takes_of rfl rfl rfl rfl) (pmk_own PySem.F.excBase_ValueError T.e_BadRow.x T.e_BadRow.g T.e_BadRow.k (raises_own T.e_BadRow.b T.e_BadRow.t) (by rfl)))) pss_nil)), ?_⟩
    exact s_when (b := !isRowV v) (et_not (et_B (ev_call (ea_cons (ev_var rfl) ea_nil) fun H1 e1 Q q E => ⟨v, rfl, hv.ex e1, q⟩))) (fun h H1 e1 => q2 (by simpa using h) H1 e1) (fun h H1 e1 => q1 (by simpa using h) H1 e1)
theorem ok_check_ringX (e : Ent K mg "check_ring" s_check_ring p_check_ring) (T : Top K mg CM CR CLt CN CTg W fI a_SMALL_WIDTH a_SMALL_SEEN) (c1 : Cal P w K mg base (L2.CX P w) 3 "check_row" p_check_row (spCheckRowX K CR)) : Cal P w K mg base (L2.CX P w) 4 "check_ring" p_check_ring (spRingX K CR) := by
  obtain ⟨f, fd, F, m_, b_⟩ := e
  obtain ⟨f_check_row, fd_check_row, G_check_row, m_check_row, k_check_row, b_check_row⟩ := c1
  refine ⟨f, fd, F.okX sc_check_ring (fun vs H Q E h => ?_) (fun cdv A outer s H vs Q E hr h => ?_), m_, F.kp, b_⟩
  · obtain ⟨v, rfl, _⟩ := h
    rfl
  · obtain ⟨v, rfl, hv, q1, q2⟩ := h
    refine ⟨_, (pss_cons (ps_expr (pe_call G_check_row (hr.mono (by decide)) (by rfl) m_check_row k_check_row b_check_row .nil (passes_call (takes_of rfl rfl rfl rfl) (fun _ _ _ _ h => h)) (pa_cons (pv 0) pa_nil)))
      (pss_one (ps_if (pt_not (pt_truth (pv 0) (by intro _; rfl))) (pss_one (ps_raise rfl (takes_of rfl rfl rfl rfl) (pmk_own PySem.F.excBase_ValueError T.e_BadRow.x T.e_BadRow.g T.e_BadRow.k (raises_own T.e_BadRow.b T.e_BadRow.t) (by rfl)))) pss_nil))), ?_⟩
    refine ⟨_, rfl, v, rfl, hv, fun hr1 H1 e1 => ?_, fun hr1 H1 e1 => q2 ?_ H1 e1⟩
    · cases v with
      | str z =>
        obtain ⟨t, _, _, h3⟩ := hv
        have hz := h3 z rfl
        have hr1' : isRow z = true := hr1
        dsimp only [tSeq]
        refine s_when (b := !(!decide (z.length = 0))) (et_not (et_truthS (K := K) (ev_var rfl) (by omega))) (fun h H2 e2 => q2 ?_ H2 (e1.trans e2)) (fun h H2 e2 => q1 ?_ H2 (e1.trans e2))
        · have : z.length = 0 := by simpa using h
          show (isRow z && !decide (z.length = 0)) = false
          rw [this]
          simp
        · have : ¬ z.length = 0 := by simpa using h
          show (isRow z && !decide (z.length = 0)) = true
          rw [hr1']
          simpa using this
      | _ => exact Bool.noConfusion (show false = true from hr1)
    · cases v with
      | str z =>
        show (isRow z && _) = false
        rw [show isRow z = false from hr1]
        rfl
      | _ => rfl
theorem ok_check_greatX (e : Ent K mg "check_great" s_check_great p_check_great) (T : Top K mg CM CR CLt CN CTg W fI a_SMALL_WIDTH a_SMALL_SEEN) : Cal P w K mg base (L2.CX P w) 1 "check_great" p_check_great (spGreatX CTg) := by
  obtain ⟨f, fd, F, m_, b_⟩ := e
  refine ⟨f, fd, F.okX sc_check_great (fun vs H Q E h => ?_) (fun cdv A outer s H vs Q E hr h => ?_), m_, F.kp, b_⟩
  · obtain ⟨a, b, n, rfl, _⟩ := h
    rfl
  · obtain ⟨a, b, n, rfl, h1, h4, q1, q2⟩ := h
    have g1 : KDctI K a_SMALL_WIDTH (n : Int) (.int (swN n : Int)) := by
      have : n = 1 ∨ n = 2 ∨ n = 3 ∨ n = 4 := by omega
      rcases this with rfl | rfl | rfl | rfl
      · exact T.g_SMALL_WIDTH.2 (1, 12) (by simp)
      · exact T.g_SMALL_WIDTH.2 (2, 8) (by simp)
      · exact T.g_SMALL_WIDTH.2 (3, 5) (by simp)
      · exact T.g_SMALL_WIDTH.2 (4, 4) (by simp)
    have g2 : KDctI K a_SMALL_SEEN (n : Int) (.int (ssN n : Int)) := by
      have : n = 1 ∨ n = 2 ∨ n = 3 ∨ n = 4 := by omega
      rcases this with rfl | rfl | rfl | rfl
      · exact T.g_SMALL_SEEN.2 (1, 12) (by simp)
      · exact T.g_SMALL_SEEN.2 (2, 4) (by simp)
      · exact T.g_SMALL_SEEN.2 (3, 2) (by simp)
      · exact T.g_SMALL_SEEN.2 (4, 1) (by simp)
    refine ⟨_, (pss_one (ps_if (PW.pt (pw_or (pt_cmpR op_gt (pv 0) (pe_ix ix_kdictI (pe_glob (v := .ref a_SMALL_WIDTH) (by rfl) T.g_SMALL_WIDTH.1 rfl) (pv 2) (fun _ _ => rfl)) (nomark _)) (pw_or1 (pt_cmpR op_gt (pv 1) (pe_ix ix_kdictI (pe_glob (v := .ref a_SMALL_SEEN) (by rfl) T.g_SMALL_SEEN.1 rfl) (pv 2) (fun _ _ => rfl)) (nomark _))))) (pss_one (ps_raise rfl (takes_of rfl rfl rfl rfl) (pmk_own PySem.F.excBase_ValueError T.e_TooGreat.x T.e_TooGreat.g T.e_TooGreat.k (raises_own T.e_TooGreat.b T.e_TooGreat.t) (by rfl)))) pss_nil)), ?_⟩
    refine s_when (b := decide ((swN n : Int) < (a : Int)) || decide ((ssN n : Int) < (b : Int))) (et_or (et_test (ev_op (ev_var rfl) (ev_op ev_c (ev_var rfl) (fun H1 _ Q q => ⟨_, _, _, rfl, rfl, g1, q H1 (Ex.refl _)⟩)) rv_I0)) fun _ => et_test (ev_op (ev_var rfl) (ev_op ev_c (ev_var rfl) (fun H1 _ Q q => ⟨_, _, _, rfl, rfl, g2, q H1 (Ex.refl _)⟩)) rv_I0)) (fun hh H1 e1 => q2 (fun z => ?_) H1 e1) (fun hh H1 e1 => q1 ?_ H1 e1)
    · rw [decide_eq_false (by omega), decide_eq_false (by omega)] at hh
      cases hh
    · simp only [Bool.or_eq_false_iff, decide_eq_false_iff_not] at hh
      omega
theorem ok_check_smallE (e : Ent K mg "check_small" s_check_small p_check_small) (T : Top K mg CM CR CLt CN CTg W fI a_SMALL_WIDTH a_SMALL_SEEN) (c1 : Cal P w K mg base (L2.CX P w) 3 "check_mask" p_check_mask (spCheckMask K CM)) (c2 : Cal P w K mg base (L2.CX P w) 2 "check_letters" p_check_letters (spLettersX K CLt))
    (c3 : Cal P w K mg base (L2.CX P w) 1 "check_great" p_check_great (spGreatX CTg)) : Cal P w K mg base (L2.CX P w) 4 "check_small" p_check_small (spSmallE K CM CLt CTg) := by
  obtain ⟨f, fd, F, m_, b_⟩ := e
  obtain ⟨f_check_mask, fd_check_mask, G_check_mask, m_check_mask, k_check_mask, b_check_mask⟩ := c1
  obtain ⟨f_check_letters, fd_check_letters, G_check_letters, m_check_letters, k_check_letters, b_check_letters⟩ := c2
  obtain ⟨f_check_great, fd_check_great, G_check_great, m_check_great, k_check_great, b_check_great⟩ := c3
  refine ⟨f, fd, F.okX sc_check_small (fun vs H Q E h => ?_) (fun cdv A outer s H vs Q E hr h => ?_), m_, F.kp, b_⟩
  · obtain ⟨v, l, rfl, _⟩ := h
    rfl
  · obtain ⟨v, l, rfl, hv, hl, q1, q2, q3⟩ := h
    refine ⟨_, (pss_cons (ps_expr (pe_call G_check_mask (hr.mono (by decide)) (by rfl) m_check_mask k_check_mask b_check_mask .nil (passes_call (takes_of rfl rfl rfl rfl) (fun _ _ _ _ h => h)) (pa_cons (pv 0) pa_nil)))
      (pss_cons (ps_expr (pe_call G_check_letters (hr.mono (by decide)) (by rfl) m_check_letters k_check_letters b_check_letters .nil (passes_call (takes_of rfl rfl rfl rfl) (fun _ _ _ _ h => h)) (pa_cons (pv 1) pa_nil)))
      (pss_one (ps_expr (pe_call G_check_great (hr.mono (by decide)) (by rfl) m_check_great k_check_great b_check_great .nil (passes_call (takes_of rfl rfl rfl rfl) (fun _ _ _ _ h => h)) (pa_cons (pe_callB call_len_str (by rfl) T.m_len (by decide +kernel) (pa_cons (pv 0) pa_nil)) (pa_cons (pe_m1 PySem.F.slot_str_count PySem.F.type_str_count mt_count (pv 0) pe_str) (pa_cons (pv 1) pa_nil)))))))), ?_⟩
    refine ⟨_, rfl, v, rfl, hv, fun hm H1 e1 => ?_, fun hm H' e' => q1 hm H' e'⟩
    refine ⟨_, rfl, l, rfl, hl.ex e1, fun hn H2 e2 => ?_, fun hn H' e' => q2 hm hn H' (e1.trans e')⟩
    obtain ⟨n, rfl, h1, h4⟩ := isNum_is (by omega) hn
    obtain ⟨m, rfl⟩ : ∃ m, v = .str m := by
      cases v with
      | str m => exact ⟨m, rfl⟩
      | _ => exact Bool.noConfusion (show false = true from hm)
    have hm' : isMask m = true := hm
    have l1 := isMask_len hm'
    obtain ⟨q4, q5⟩ := q3 m n rfl rfl hm' (by omega) (by omega)
    dsimp only [tSeq, tDrop]
    refine x_call (vs := [.int (m.length : Int), .int ((openM m).length : Int), .int (n : Int)]) (ea_cons (ev_cb (ea_cons (ev_var rfl) ea_nil) (rc_lenS (z := m) (by omega))) (ea_cons (ev_is (ev_count (z := m) (c := 120) (ev_var rfl) (x_eq ▸ ev_c)) (by rw [count_range, len_l]; rfl)) (ea_cons (ev_var rfl) ea_nil))) fun H3 e3 => ?_
    exact ⟨m.length, (openM m).length, n, rfl, by omega, by omega, fun hf H4 e4 => q4 hf H4 (((e1.trans e2).trans e3).trans e4), fun hf H4 e4 => q5 hf H4 (((e1.trans e2).trans e3).trans e4)⟩
theorem ok_check_row_inX (e : Ent K mg "check_row_in" s_check_row_in p_check_row_in) (T : Top K mg CM CR CLt CN CTg W fI a_SMALL_WIDTH a_SMALL_SEEN) (c1 : Cal P w K mg base (L2.CX P w) 3 "check_row" p_check_row (spCheckRowX K CR)) (c2 : Cal P w K mg base CX0 1 "made_of" p_made_of (spMade K)) : Cal P w K mg base (L2.CX P w) 4 "check_row_in" p_check_row_in (spRowInX K CR) := by
  obtain ⟨f, fd, F, m_, b_⟩ := e
  obtain ⟨f_check_row, fd_check_row, G_check_row, m_check_row, k_check_row, b_check_row⟩ := c1
  obtain ⟨f_made_of, fd_made_of, G_made_of, m_made_of, k_made_of, b_made_of⟩ := c2
  refine ⟨f, fd, F.okX sc_check_row_in (fun vs H Q E h => ?_) (fun cdv A outer s H vs Q E hr h => ?_), m_, F.kp, b_⟩
  · obtain ⟨v, n, rfl, _⟩ := h
    rfl
  · obtain ⟨v, n, rfl, hv, q1, q2⟩ := h
    refine ⟨_, (pss_cons (ps_expr (pe_call G_check_row (hr.mono (by decide)) (by rfl) m_check_row k_check_row b_check_row .nil (passes_call (takes_of rfl rfl rfl rfl) (fun _ _ _ _ h => h)) (pa_cons (pv 0) pa_nil)))
      (pss_one (ps_if (pt_not (pt_val (pe_call G_made_of (hr.mono (by decide)) (by rfl) m_made_of k_made_of b_made_of .nil pass0 (pa_cons (pv 0) (pa_cons (pe_slice sl_str (pe_glob (v := .str (PySem.Str.ofString "abcd")) (by rfl) T.g_LETTERS.choose_spec ⟨_, rfl⟩) po_none (po_some (pv 1))) pa_nil))))) (pss_one (ps_raise rfl (takes_of rfl rfl rfl rfl) (pmk_own PySem.F.excBase_ValueError T.e_BadRow.x T.e_BadRow.g T.e_BadRow.k (raises_own T.e_BadRow.b T.e_BadRow.t) (by rfl)))) pss_nil))), ?_⟩
    refine ⟨_, rfl, v, rfl, hv, fun hr1 H1 e1 => ?_, fun hr1 H1 e1 => q2 (by unfold rowIn; rw [hr1]; rfl) H1 e1⟩
    dsimp only [tSeq]
    refine s_when (b := !madeOf v (sgC n)) (et_not (et_B (ev_call (ea_cons (ev_var rfl) (ea_cons (ev_slT (z := PySem.Str.ofString "abcd") ev_c eo_none (eo_some (i := (n : Int)) (ev_var rfl)) (by decide +kernel)) ea_nil)) (made_val (hv.ex e1))))) (fun h H2 e2 => q2 ?_ H2 (e1.trans e2)) (fun h H2 e2 => q1 ?_ H2 (e1.trans e2))
    · unfold rowIn
      rw [show madeOf v (sgC n) = false by simpa using h, Bool.and_false]
    · unfold rowIn
      rw [hr1, show madeOf v (sgC n) = true by simpa using h]
      rfl
theorem ok_check_letteredX (e : Ent K mg "check_lettered" s_check_lettered p_check_lettered) (T : Top K mg CM CR CLt CN CTg W fI a_SMALL_WIDTH a_SMALL_SEEN) (c1 : Cal P w K mg base (L2.CX P w) 3 "check_mask" p_check_mask (spCheckMask K CM)) (c2 : Cal P w K mg base (L2.CX P w) 2 "check_letters" p_check_letters (spLettersX K CLt))
    (c3 : Cal P w K mg base (L2.CX P w) 4 "check_row_in" p_check_row_in (spRowInX K CR)) : Cal P w K mg base (L2.CX P w) 5 "check_lettered" p_check_lettered (spLetX K CM CLt CR) := by
  obtain ⟨f, fd, F, m_, b_⟩ := e
  obtain ⟨f_check_mask, fd_check_mask, G_check_mask, m_check_mask, k_check_mask, b_check_mask⟩ := c1
  obtain ⟨f_check_letters, fd_check_letters, G_check_letters, m_check_letters, k_check_letters, b_check_letters⟩ := c2
  obtain ⟨f_check_row_in, fd_check_row_in, G_check_row_in, m_check_row_in, k_check_row_in, b_check_row_in⟩ := c3
  refine ⟨f, fd, F.okX sc_check_lettered (fun vs H Q E h => ?_) (fun cdv A outer s H vs Q E hr h => ?_), m_, F.kp, b_⟩
  · obtain ⟨r, v, l, rfl, _⟩ := h
    rfl
  · obtain ⟨r, v, l, rfl, hr', hv, hl, q1, q2, q3⟩ := h
    refine ⟨_, (pss_cons (ps_expr (pe_call G_check_mask (hr.mono (by decide)) (by rfl) m_check_mask k_check_mask b_check_mask .nil (passes_call (takes_of rfl rfl rfl rfl) (fun _ _ _ _ h => h)) (pa_cons (pv 1) pa_nil)))
      (pss_cons (ps_expr (pe_call G_check_letters (hr.mono (by decide)) (by rfl) m_check_letters k_check_letters b_check_letters .nil (passes_call (takes_of rfl rfl rfl rfl) (fun _ _ _ _ h => h)) (pa_cons (pv 2) pa_nil)))
      (pss_one (ps_expr (pe_call G_check_row_in (hr.mono (by decide)) (by rfl) m_check_row_in k_check_row_in b_check_row_in .nil (passes_call (takes_of rfl rfl rfl rfl) (fun _ _ _ _ h => h)) (pa_cons (pv 0) (pa_cons (pv 2) pa_nil))))))), ?_⟩
    refine ⟨_, rfl, v, rfl, hv, fun hm H1 e1 => ?_, fun hm H' e' => q1 hm H' e'⟩
    refine ⟨_, rfl, l, rfl, hl.ex e1, fun hn H2 e2 => ?_, fun hn H' e' => q2 hm hn H' (e1.trans e')⟩
    obtain ⟨n, rfl, h1, h4⟩ := isNum_is (by omega) hn
    obtain ⟨q4, q5⟩ := q3 n hm rfl (by omega) (by omega)
    exact ⟨_, rfl, _, rfl, r, n, rfl, hr'.ex (e1.trans e2), fun h H3 e3 => q4 h H3 ((e1.trans e2).trans e3), fun h H3 e3 => q5 h H3 ((e1.trans e2).trans e3)⟩
end
end K10
namespace K10
open PySem PySem.Spec PyProof.Rows L2 Evl Qt
/-- a row, then a mask: the first that is wrong is told -/
def spRM (K : PySem.W.Frag) (CR CM : Addr) (g : V → Bool) (k : Nat) : Sp := fun vs H Q E => ∃ r m rest, vs = r :: m :: rest ∧ rest.length = k ∧ VOk K H r ∧
  ((g r = false ∧ ∀ H', Ex H H' → E (.ref CR) none H') ∨ (g r = true ∧ VOk K H m ∧ isMaskV m = false ∧ ∀ H', Ex H H' → E (.ref CM) none H'))
def RMh (K : PySem.W.Frag) (CR CM : Addr) (g : V → Bool) (r m : V) (H : Hp) (E : XK) : Prop :=
  ((g r = false ∧ ∀ H', Ex H H' → E (.ref CR) none H') ∨ (g r = true ∧ VOk K H m ∧ isMaskV m = false ∧ ∀ H', Ex H H' → E (.ref CM) none H'))
theorem RMh.ex {K : PySem.W.Frag} {CR CM : Addr} {g : V → Bool} {r m : V} {H H1 : Hp} {E : XK} (h : RMh K CR CM g r m H E) (e : Ex H H1) : RMh K CR CM g r m H1 E := by
  rcases h with ⟨a, b⟩ | ⟨a, b, c, d⟩
  · exact .inl ⟨a, fun H' e' => b H' (e.trans e')⟩
  · exact .inr ⟨a, b.ex e, c, fun H' e' => d H' (e.trans e')⟩
theorem len1 {α : Type} : ∀ {l : List α}, l.length = 1 → ∃ x, l = [x]
  | [x], _ => ⟨x, rfl⟩
theorem len2 {α : Type} : ∀ {l : List α}, l.length = 2 → ∃ x y, l = [x, y]
  | [x, y], _ => ⟨x, y, rfl⟩
def oV : Option Nat → V
  | none => .non
  | some i => .int (i : Int)
theorem rc_lenA {K : PySem.W.Frag} {H : Hp} {a : Addr} {xs : List V} (h : SqA K H a xs) : RC (fun xs H Q => ∃ x n, xs = [x] ∧ LenV K x H n ∧ Q (.int (n : Int)) H) [.ref a] H (.int (xs.length : Int)) := fun H1 e _ q => by
  rcases h with h | h
  · exact ⟨.ref a, xs.length, rfl, .inl ⟨xs, sq_of (e _ _ h), rfl⟩, q H1 (Ex.refl H1)⟩
  · exact ⟨.ref a, xs.length, rfl, .inr ⟨xs, st_of (e _ _ h), rfl⟩, q H1 (Ex.refl H1)⟩
theorem tys_are2 : Paired ClsV [V.ty "list", V.ty "tuple"] [Value.type "list", Value.type "tuple"] := .cons (.ty _) (.cons (.ty _) .nil)
theorem kit_l {K : PySem.W.Frag} : PySem.W.kitAny K (.type "list") [.type "list", .type "tuple"] = some true :=
  kitAny_cons (r := true) (kit_ty (by decide +kernel : kitB "list" "list" = some true)) (fun z => by cases z) (fun _ => rfl)
theorem kit_t {K : PySem.W.Frag} : PySem.W.kitAny K (.type "tuple") [.type "list", .type "tuple"] = some true :=
  kitAny_cons (kit_ty (by decide +kernel : kitB "tuple" "list" = some false)) (fun _ => kitAny_cons (r := true) (kit_ty (by decide +kernel : kitB "tuple" "tuple" = some true)) (fun z => by cases z) (fun _ => rfl)) (fun z => by cases z)
theorem kit_n {K : PySem.W.Frag} {t : String} (a : kitB t "list" = some false) (b : kitB t "tuple" = some false) : PySem.W.kitAny K (.type t) [.type "list", .type "tuple"] = some false :=
  kitAny_cons (kit_ty a) (fun _ => kitAny_cons (kit_ty b) (fun _ => rfl) (fun z => by cases z)) (fun z => by cases z)
section
variable {P : Program} {w : World} {K : PySem.W.Frag} {mg : Str → Option Value} {base : Heap} {CM CR CLt CN CTg W fI a_SMALL_WIDTH a_SMALL_SEEN : Addr}
theorem ok_viewsX (e : Ent K mg "views" s_views p_views) (T : Top K mg CM CR CLt CN CTg W fI a_SMALL_WIDTH a_SMALL_SEEN) (c1 : Cal P w K mg base (L2.CX P w) 3 "check_row" p_check_row (spCheckRowX K CR)) (c2 : Cal P w K mg base (L2.CX P w) 4 "seen" p_seen (spSeen K CM)) : Cal P w K mg base (L2.CX P w) 5 "views" p_views (spRM K CR CM isRowV 0) := by
  obtain ⟨f, fd, F, m_, b_⟩ := e
  obtain ⟨f_check_row, fd_check_row, G_check_row, m_check_row, k_check_row, b_check_row⟩ := c1
  obtain ⟨f_seen, fd_seen, G_seen, m_seen, k_seen, b_seen⟩ := c2
  refine ⟨f, fd, F.okX sc_views (fun vs H Q E h => ?_) (fun cdv A outer s H vs Q E hr h => ?_), m_, F.kp, b_⟩
  · obtain ⟨r, m, rest, rfl, hk, _⟩ := h
    obtain rfl := List.eq_nil_of_length_eq_zero hk
    rfl
  · obtain ⟨r, m, rest, rfl, hk, hv, h⟩ := h
    obtain rfl := List.eq_nil_of_length_eq_zero hk
    refine ⟨_, (pss_cons (ps_expr (pe_call G_check_row (hr.mono (by decide)) (by rfl) m_check_row k_check_row b_check_row .nil (passes_call (takes_of rfl rfl rfl rfl) (fun _ _ _ _ h => h)) (pa_cons (pv 0) pa_nil)))
      (pss_cons (ps_set (i := 2) sc_views.nd rfl (Or.inr rfl) (pe_call G_seen (hr.mono (by decide)) (by rfl) m_seen k_seen b_seen .nil (passes_call (takes_of rfl rfl rfl rfl) (fun _ _ _ _ h => h)) (pa_cons (pv 1) pa_nil)))
      (pss_one ps_never))), ?_⟩
    refine ⟨_, rfl, r, rfl, hv, fun hr1 H1 e1 => ?_, fun hr1 H1 e1 => ?_⟩
    · rcases h with ⟨a, _⟩ | ⟨_, b, c, d⟩
      · rw [hr1] at a; cases a
      · exact ⟨_, rfl, m, rfl, b.ex e1, (fun x hx hm => by subst hx; rw [show isMaskV (.str x) = isMask x from rfl, hm] at c; cases c), fun _ H2 e2 => d H2 (e1.trans e2)⟩
    · rcases h with ⟨_, b⟩ | ⟨a, _⟩
      · exact b H1 e1
      · rw [hr1] at a; cases a
theorem ok_ring_viewsX (e : Ent K mg "ring_views" s_ring_views p_ring_views) (T : Top K mg CM CR CLt CN CTg W fI a_SMALL_WIDTH a_SMALL_SEEN) (c1 : Cal P w K mg base (L2.CX P w) 4 "check_ring" p_check_ring (spRingX K CR)) (c2 : Cal P w K mg base (L2.CX P w) 4 "seen" p_seen (spSeen K CM)) : Cal P w K mg base (L2.CX P w) 5 "ring_views" p_ring_views (spRM K CR CM ringOk 0) := by
  obtain ⟨f, fd, F, m_, b_⟩ := e
  obtain ⟨f_check_ring, fd_check_ring, G_check_ring, m_check_ring, k_check_ring, b_check_ring⟩ := c1
  obtain ⟨f_seen, fd_seen, G_seen, m_seen, k_seen, b_seen⟩ := c2
  refine ⟨f, fd, F.okX sc_ring_views (fun vs H Q E h => ?_) (fun cdv A outer s H vs Q E hr h => ?_), m_, F.kp, b_⟩
  · obtain ⟨r, m, rest, rfl, hk, _⟩ := h
    obtain rfl := List.eq_nil_of_length_eq_zero hk
    rfl
  · obtain ⟨r, m, rest, rfl, hk, hv, h⟩ := h
    obtain rfl := List.eq_nil_of_length_eq_zero hk
    refine ⟨_, (pss_cons (ps_expr (pe_call G_check_ring (hr.mono (by decide)) (by rfl) m_check_ring k_check_ring b_check_ring .nil (passes_call (takes_of rfl rfl rfl rfl) (fun _ _ _ _ h => h)) (pa_cons (pv 0) pa_nil)))
      (pss_cons (ps_set (i := 2) sc_ring_views.nd rfl (Or.inr rfl) (pe_call G_seen (hr.mono (by decide)) (by rfl) m_seen k_seen b_seen .nil (passes_call (takes_of rfl rfl rfl rfl) (fun _ _ _ _ h => h)) (pa_cons (pv 1) pa_nil)))
      (pss_one ps_never))), ?_⟩
    refine ⟨_, rfl, r, rfl, hv, fun hr1 H1 e1 => ?_, fun hr1 H1 e1 => ?_⟩
    · rcases h with ⟨a, _⟩ | ⟨_, b, c, d⟩
      · rw [hr1] at a; cases a
      · exact ⟨_, rfl, m, rfl, b.ex e1, (fun x hx hm => by subst hx; rw [show isMaskV (.str x) = isMask x from rfl, hm] at c; cases c), fun _ H2 e2 => d H2 (e1.trans e2)⟩
    · rcases h with ⟨_, b⟩ | ⟨a, _⟩
      · exact b H1 e1
      · rw [hr1] at a; cases a
end
end K10
namespace K10
open PySem PySem.Spec PyProof.Rows L2 Evl Qt
/-- letters that are none, a mask that is too great -/
def spLo (K : PySem.W.Frag) (CLt CTg : Addr) : Sp := fun vs H Q E => ∃ (m : Str) (l : V), vs = [.str m, l] ∧ isMask m = true ∧ NOk K H l ∧
  ((isNum 1 4 l = false ∧ ∀ H', Ex H H' → E (.ref CLt) none H') ∨ ∃ n : Nat, l = .int (n : Int) ∧ 1 ≤ n ∧ n ≤ 4 ∧ ¬ fitsM m n ∧ ∀ H', Ex H H' → E (.ref CTg) none H')
def spCnt (K : PySem.W.Frag) (CLt CTg CN : Addr) : Sp := fun vs H Q E => ∃ (m : Str) (l : V), vs = [.str m, l, .non] ∧ isMask m = true ∧ NOk K H l ∧
  ((isNum 1 4 l = false ∧ ∀ H', Ex H H' → E (.ref CLt) none H') ∨ (∃ n : Nat, l = .int (n : Int) ∧ 1 ≤ n ∧ n ≤ 4 ∧ ¬ fitsM m n ∧ ∀ H', Ex H H' → E (.ref CTg) none H') ∨
   ∃ n : Nat, l = .int (n : Int) ∧ 1 ≤ n ∧ n ≤ 4 ∧ fitsM m n ∧ ∀ d H', Ex H H' → H d = none → E (.ref CN) (some d) H')
def spLR (K : PySem.W.Frag) (CLt CTg CR : Addr) (small : Bool) : Sp := fun vs H Q E => ∃ (r : V) (m : Str) (l : V), vs = [r, .str m, l] ∧ isMask m = true ∧ VOk K H r ∧ NOk K H l ∧
  ((isNum 1 4 l = false ∧ ∀ H', Ex H H' → E (.ref CLt) none H') ∨ (small = true ∧ ∃ n : Nat, l = .int (n : Int) ∧ 1 ≤ n ∧ n ≤ 4 ∧ ¬ fitsM m n ∧ ∀ H', Ex H H' → E (.ref CTg) none H') ∨
   ∃ n : Nat, l = .int (n : Int) ∧ 1 ≤ n ∧ n ≤ 4 ∧ fitsM m n ∧ rowIn r n = false ∧ ∀ H', Ex H H' → E (.ref CR) none H')
def spBest (K : PySem.W.Frag) (CN CLt CTg : Addr) : Sp := fun vs H Q E => ∃ (a b l : V), vs = [a, b, l] ∧ NOk K H a ∧ NOk K H b ∧ NOk K H l ∧ Sca K H a ∧ Sca K H b ∧
  ((isNum 1 12 a = false ∧ ∀ d H', Ex H H' → H d = none → H' d = some (.xd [("n", a)]) → E (.ref CN) (some d) H') ∨
   (isNum 1 12 a = true ∧ isNum 1 12 b = false ∧ ∀ d H', Ex H H' → H d = none → H' d = some (.xd [("n", b)]) → E (.ref CN) (some d) H') ∨
   (isNum 1 12 a = true ∧ isNum 1 12 b = true ∧ isNum 1 4 l = false ∧ ∀ H', Ex H H' → E (.ref CLt) none H') ∨
   ∃ i j n : Nat, a = .int (i : Int) ∧ b = .int (j : Int) ∧ l = .int (n : Int) ∧ 1 ≤ i ∧ i ≤ 12 ∧ 1 ≤ j ∧ j ≤ 12 ∧ 1 ≤ n ∧ n ≤ 4 ∧ ¬ (j ≤ swN n ∧ i ≤ ssN n) ∧ ∀ H', Ex H H' → E (.ref CTg) none H')
theorem mv {m : Str} (h : isMask m = true) : isMaskV (.str m) = false → ∀ {p : Prop}, p := fun z => by
  rw [show isMaskV (.str m) = isMask m from rfl, h] at z
  cases z
theorem same_nat {l : V} {n k : Nat} (h : l = .int (n : Int)) (h' : l = .int (k : Int)) : n = k := by
  rw [h] at h'
  injection h' with h'
  omega
theorem num_of {l : V} {n : Nat} (h : l = .int (n : Int)) (h1 : 1 ≤ n) (h4 : n ≤ 4) : isNum 1 4 l = true := by
  rw [h]
  exact isNum_of (by omega) (by omega)
section
variable {P : Program} {w : World} {K : PySem.W.Frag} {mg : Str → Option Value} {base : Heap} {CM CR CLt CN CTg W fI a_SMALL_WIDTH a_SMALL_SEEN : Addr}
theorem ok_longest_rows (e : Ent K mg "longest_rows" s_longest_rows p_longest_rows) (T : Top K mg CM CR CLt CN CTg W fI a_SMALL_WIDTH a_SMALL_SEEN) (c1 : Cal P w K mg base (L2.CX P w) 4 "check_small" p_check_small (spSmallE K CM CLt CTg)) : Cal P w K mg base (L2.CX P w) 9 "longest_rows" p_longest_rows (spLo K CLt CTg) := by
  obtain ⟨f, fd, F, m_, b_⟩ := e
  obtain ⟨f_check_small, fd_check_small, G_check_small, m_check_small, k_check_small, b_check_small⟩ := c1
  refine ⟨f, fd, F.okX sc_longest_rows (fun vs H Q E h => ?_) (fun cdv A outer s H vs Q E hr h => ?_), m_, F.kp, b_⟩
  · obtain ⟨m, l, rfl, _⟩ := h
    rfl
  · obtain ⟨m, l, rfl, hm, hl, h⟩ := h
    have l1 := isMask_len hm
    refine ⟨_, (pss_cons (ps_expr (pe_call G_check_small (hr.mono (by decide)) (by rfl) m_check_small k_check_small b_check_small .nil (passes_call (takes_of rfl rfl rfl rfl) (fun _ _ _ _ h => h)) (pa_cons (pv 0) (pa_cons (pv 1) pa_nil))))
      (pss_one ps_never)), ?_⟩
    refine ⟨_, rfl, _, rfl, .str m, l, rfl, .str (by omega), hl, fun z => mv hm z, fun _ hn => ?_, fun m' n hm' hn _ h1 h4 => ⟨fun hf => ?_, fun _ => ?_⟩⟩
    · rcases h with ⟨_, b⟩ | ⟨n, e', h1, h4, _⟩
      · exact b
      · rw [num_of e' h1 h4] at hn; cases hn
    · injection hm' with hm'
      subst hm'
      rcases h with ⟨a, _⟩ | ⟨n', e', _, _, hf', _⟩
      · rw [num_of hn h1 h4] at a; cases a
      · obtain rfl := same_nat hn e'
        exact absurd hf hf'
    · rcases h with ⟨a, _⟩ | ⟨n', e', _, _, hf', b⟩
      · rw [num_of hn h1 h4] at a; cases a
      · exact b
theorem ok_full_rings (e : Ent K mg "full_rings" s_full_rings p_full_rings) (T : Top K mg CM CR CLt CN CTg W fI a_SMALL_WIDTH a_SMALL_SEEN) (c1 : Cal P w K mg base (L2.CX P w) 4 "check_small" p_check_small (spSmallE K CM CLt CTg)) : Cal P w K mg base (L2.CX P w) 9 "full_rings" p_full_rings (spLo K CLt CTg) := by
  obtain ⟨f, fd, F, m_, b_⟩ := e
  obtain ⟨f_check_small, fd_check_small, G_check_small, m_check_small, k_check_small, b_check_small⟩ := c1
  refine ⟨f, fd, F.okX sc_full_rings (fun vs H Q E h => ?_) (fun cdv A outer s H vs Q E hr h => ?_), m_, F.kp, b_⟩
  · obtain ⟨m, l, rfl, _⟩ := h
    rfl
  · obtain ⟨m, l, rfl, hm, hl, h⟩ := h
    have l1 := isMask_len hm
    refine ⟨_, (pss_cons (ps_expr (pe_call G_check_small (hr.mono (by decide)) (by rfl) m_check_small k_check_small b_check_small .nil (passes_call (takes_of rfl rfl rfl rfl) (fun _ _ _ _ h => h)) (pa_cons (pv 0) (pa_cons (pv 1) pa_nil))))
      (pss_cons ps_never
      (pss_one ps_never))), ?_⟩
    refine ⟨_, rfl, _, rfl, .str m, l, rfl, .str (by omega), hl, fun z => mv hm z, fun _ hn => ?_, fun m' n hm' hn _ h1 h4 => ⟨fun hf => ?_, fun _ => ?_⟩⟩
    · rcases h with ⟨_, b⟩ | ⟨n, e', h1, h4, _⟩
      · exact b
      · rw [num_of e' h1 h4] at hn; cases hn
    · injection hm' with hm'
      subst hm'
      rcases h with ⟨a, _⟩ | ⟨n', e', _, _, hf', _⟩
      · rw [num_of hn h1 h4] at a; cases a
      · obtain rfl := same_nat hn e'
        exact absurd hf hf'
    · rcases h with ⟨a, _⟩ | ⟨n', e', _, _, hf', b⟩
      · rw [num_of hn h1 h4] at a; cases a
      · exact b
theorem ok_longest_ring (e : Ent K mg "longest_ring" s_longest_ring p_longest_ring) (T : Top K mg CM CR CLt CN CTg W fI a_SMALL_WIDTH a_SMALL_SEEN) (c1 : Cal P w K mg base (L2.CX P w) 4 "check_small" p_check_small (spSmallE K CM CLt CTg)) : Cal P w K mg base (L2.CX P w) 9 "longest_ring" p_longest_ring (spLo K CLt CTg) := by
  obtain ⟨f, fd, F, m_, b_⟩ := e
  obtain ⟨f_check_small, fd_check_small, G_check_small, m_check_small, k_check_small, b_check_small⟩ := c1
  refine ⟨f, fd, F.okX sc_longest_ring (fun vs H Q E h => ?_) (fun cdv A outer s H vs Q E hr h => ?_), m_, F.kp, b_⟩
  · obtain ⟨m, l, rfl, _⟩ := h
    rfl
  · obtain ⟨m, l, rfl, hm, hl, h⟩ := h
    have l1 := isMask_len hm
    refine ⟨_, (pss_cons (ps_expr (pe_call G_check_small (hr.mono (by decide)) (by rfl) m_check_small k_check_small b_check_small .nil (passes_call (takes_of rfl rfl rfl rfl) (fun _ _ _ _ h => h)) (pa_cons (pv 0) (pa_cons (pv 1) pa_nil))))
      (pss_cons ps_never
      (pss_one ps_never))), ?_⟩
    refine ⟨_, rfl, _, rfl, .str m, l, rfl, .str (by omega), hl, fun z => mv hm z, fun _ hn => ?_, fun m' n hm' hn _ h1 h4 => ⟨fun hf => ?_, fun _ => ?_⟩⟩
    · rcases h with ⟨_, b⟩ | ⟨n, e', h1, h4, _⟩
      · exact b
      · rw [num_of e' h1 h4] at hn; cases hn
    · injection hm' with hm'
      subst hm'
      rcases h with ⟨a, _⟩ | ⟨n', e', _, _, hf', _⟩
      · rw [num_of hn h1 h4] at a; cases a
      · obtain rfl := same_nat hn e'
        exact absurd hf hf'
    · rcases h with ⟨a, _⟩ | ⟨n', e', _, _, hf', b⟩
      · rw [num_of hn h1 h4] at a; cases a
      · exact b
theorem ok_longest (e : Ent K mg "longest" s_longest p_longest) (T : Top K mg CM CR CLt CN CTg W fI a_SMALL_WIDTH a_SMALL_SEEN) (c1 : Cal P w K mg base (L2.CX P w) 9 "longest_rows" p_longest_rows (spLo K CLt CTg)) : Cal P w K mg base (L2.CX P w) 10 "longest" p_longest (spLo K CLt CTg) := by
  obtain ⟨f, fd, F, m_, b_⟩ := e
  obtain ⟨f_longest_rows, fd_longest_rows, G_longest_rows, m_longest_rows, k_longest_rows, b_longest_rows⟩ := c1
  refine ⟨f, fd, F.okX sc_longest (fun vs H Q E h => ?_) (fun cdv A outer s H vs Q E hr h => ?_), m_, F.kp, b_⟩
  · obtain ⟨m, l, rfl, _⟩ := h
    rfl
  · obtain ⟨m, l, rfl, hm, hl, h⟩ := h
    refine ⟨_, (pss_one (ps_ret (pe_callB call_len_str (by rfl) T.m_len (by decide +kernel) (pa_cons (pe_ix ix_list (pe_call G_longest_rows (hr.mono (by decide)) (by rfl) m_longest_rows k_longest_rows b_longest_rows .nil (passes_call (takes_of rfl rfl rfl rfl) (fun _ _ _ _ h => h)) (pa_cons (pv 0) (pa_cons (pv 1) pa_nil))) pe_int (fun _ _ => rfl)) pa_nil)))), ?_⟩
    exact ⟨_, rfl, _, rfl, m, l, rfl, hm, hl, h⟩
theorem ok_count (e : Ent K mg "count_rows" s_count_rows p_count_rows) (T : Top K mg CM CR CLt CN CTg W fI a_SMALL_WIDTH a_SMALL_SEEN) (c1 : Cal P w K mg base (L2.CX P w) 4 "check_small" p_check_small (spSmallE K CM CLt CTg)) (c2 : Cal P w K mg base (L2.CX P w) 5 "check_number" p_check_number (spCheckNumber K CN)) : Cal P w K mg base (L2.CX P w) 9 "count_rows" p_count_rows (spCnt K CLt CTg CN) := by
  obtain ⟨f, fd, F, m_, b_⟩ := e
  obtain ⟨f_check_small, fd_check_small, G_check_small, m_check_small, k_check_small, b_check_small⟩ := c1
  obtain ⟨f_check_number, fd_check_number, G_check_number, m_check_number, k_check_number, b_check_number⟩ := c2
  refine ⟨f, fd, F.okX sc_count_rows (fun vs H Q E h => ?_) (fun cdv A outer s H vs Q E hr h => ?_), m_, F.kp, b_⟩
  · obtain ⟨m, l, rfl, _⟩ := h
    rfl
  · obtain ⟨m, l, rfl, hm, hl, h⟩ := h
    have l1 := isMask_len hm
    refine ⟨_, (pss_cons (ps_expr (pe_call G_check_small (hr.mono (by decide)) (by rfl) m_check_small k_check_small b_check_small .nil (passes_call (takes_of rfl rfl rfl rfl) (fun _ _ _ _ h => h)) (pa_cons (pv 0) (pa_cons (pv 1) pa_nil))))
      (pss_cons (ps_expr (pe_call G_check_number (hr.mono (by decide)) (by rfl) m_check_number k_check_number b_check_number .nil (passes_call (takes_of rfl rfl rfl rfl) (fun _ _ _ _ h => h)) (pa_cons (pv 2) (pa_cons pe_int (pa_cons (pe_glob (v := .int 60) (by rfl) T.g_LONGEST.choose_spec ⟨_, rfl⟩) pa_nil)))))
      (pss_one ps_never))), ?_⟩
    refine ⟨_, rfl, _, rfl, .str m, l, rfl, .str (by omega), hl, fun z => mv hm z, fun _ hn => ?_, fun m' n hm' hn _ h1 h4 => ⟨fun hf H1 e1 => ?_, fun hf => ?_⟩⟩
    · rcases h with ⟨_, b⟩ | ⟨n, e', h1, h4, _⟩ | ⟨n, e', h1, h4, _⟩
      · exact b
      · rw [num_of e' h1 h4] at hn; cases hn
      · rw [num_of e' h1 h4] at hn; cases hn
    · injection hm' with hm'
      subst hm'
      rcases h with ⟨a, _⟩ | ⟨n', e', _, _, hf', _⟩ | ⟨n', e', _, _, _, q⟩
      · rw [num_of hn h1 h4] at a; cases a
      · obtain rfl := same_nat hn e'
        exact absurd hf hf'
      · refine ⟨_, rfl, .non, 0, 60, none, rfl, ⟨"NoneType", .base .non, (by decide +kernel : kitB "NoneType" "int" = some false), (by decide +kernel : kitB "NoneType" "bool" = some false)⟩, ⟨"NoneType", .base .non, by decide +kernel, by decide +kernel, by decide +kernel⟩, (fun z => by cases z), fun _ v' d H' e' nd hc hd => q d H' (e1.trans e') (fresh_back e1 nd)⟩
    · injection hm' with hm'
      subst hm'
      rcases h with ⟨a, _⟩ | ⟨n', e', _, _, hf', b⟩ | ⟨n', e', _, _, hf', _⟩
      · rw [num_of hn h1 h4] at a; cases a
      · exact b
      · obtain rfl := same_nat hn e'
        exact absurd hf' hf
theorem ok_farthest (e : Ent K mg "farthest" s_farthest p_farthest) (T : Top K mg CM CR CLt CN CTg W fI a_SMALL_WIDTH a_SMALL_SEEN) (c1 : Cal P w K mg base (L2.CX P w) 4 "check_small" p_check_small (spSmallE K CM CLt CTg)) (c2 : Cal P w K mg base (L2.CX P w) 4 "check_row_in" p_check_row_in (spRowInX K CR)) : Cal P w K mg base (L2.CX P w) 9 "farthest" p_farthest (spLR K CLt CTg CR true) := by
  obtain ⟨f, fd, F, m_, b_⟩ := e
  obtain ⟨f_check_small, fd_check_small, G_check_small, m_check_small, k_check_small, b_check_small⟩ := c1
  obtain ⟨f_check_row_in, fd_check_row_in, G_check_row_in, m_check_row_in, k_check_row_in, b_check_row_in⟩ := c2
  refine ⟨f, fd, F.okX sc_farthest (fun vs H Q E h => ?_) (fun cdv A outer s H vs Q E hr h => ?_), m_, F.kp, b_⟩
  · obtain ⟨r, m, l, rfl, _⟩ := h
    rfl
  · obtain ⟨r, m, l, rfl, hm, hr', hl, h⟩ := h
    have l1 := isMask_len hm
    refine ⟨_, (pss_cons (ps_expr (pe_call G_check_small (hr.mono (by decide)) (by rfl) m_check_small k_check_small b_check_small .nil (passes_call (takes_of rfl rfl rfl rfl) (fun _ _ _ _ h => h)) (pa_cons (pv 1) (pa_cons (pv 2) pa_nil))))
      (pss_cons (ps_expr (pe_call G_check_row_in (hr.mono (by decide)) (by rfl) m_check_row_in k_check_row_in b_check_row_in .nil (passes_call (takes_of rfl rfl rfl rfl) (fun _ _ _ _ h => h)) (pa_cons (pv 0) (pa_cons (pv 2) pa_nil))))
      (pss_cons ps_never
      (pss_one ps_never)))), ?_⟩
    refine ⟨_, rfl, _, rfl, .str m, l, rfl, .str (by omega), hl, fun z => mv hm z, fun _ hn => ?_, fun m' n hm' hn _ h1 h4 => ⟨fun hf H1 e1 => ?_, fun hf => ?_⟩⟩
    · rcases h with ⟨_, b⟩ | ⟨_, n, e', h1, h4, _⟩ | ⟨n, e', h1, h4, _⟩
      · exact b
      · rw [num_of e' h1 h4] at hn; cases hn
      · rw [num_of e' h1 h4] at hn; cases hn
    · injection hm' with hm'
      subst hm'
      rcases h with ⟨a, _⟩ | ⟨_, n', e', _, _, hf', _⟩ | ⟨n', e', _, _, _, hri, q⟩
      · rw [num_of hn h1 h4] at a; cases a
      · obtain rfl := same_nat hn e'
        exact absurd hf hf'
      · subst hn
        obtain rfl := same_nat rfl e'
        exact ⟨_, rfl, _, rfl, r, n, rfl, hr'.ex e1, (fun z => by rw [hri] at z; cases z), fun _ H' e' => q H' (e1.trans e')⟩
    · injection hm' with hm'
      subst hm'
      rcases h with ⟨a, _⟩ | ⟨_, n', e', _, _, hf', b⟩ | ⟨n', e', _, _, hf', _⟩
      · rw [num_of hn h1 h4] at a; cases a
      · exact b
      · obtain rfl := same_nat hn e'
        exact absurd hf' hf
theorem ok_next_letters (e : Ent K mg "next_letters" s_next_letters p_next_letters) (T : Top K mg CM CR CLt CN CTg W fI a_SMALL_WIDTH a_SMALL_SEEN) (c1 : Cal P w K mg base (L2.CX P w) 5 "check_lettered" p_check_lettered (spLetX K CM CLt CR)) : Cal P w K mg base (L2.CX P w) 7 "next_letters" p_next_letters (spLR K CLt CTg CR false) := by
  obtain ⟨f, fd, F, m_, b_⟩ := e
  obtain ⟨f_check_lettered, fd_check_lettered, G_check_lettered, m_check_lettered, k_check_lettered, b_check_lettered⟩ := c1
  refine ⟨f, fd, F.okX sc_next_letters (fun vs H Q E h => ?_) (fun cdv A outer s H vs Q E hr h => ?_), m_, F.kp, b_⟩
  · obtain ⟨r, m, l, rfl, _⟩ := h
    rfl
  · obtain ⟨r, m, l, rfl, hm, hr', hl, h⟩ := h
    have l1 := isMask_len hm
    refine ⟨_, (pss_cons (ps_expr (pe_call G_check_lettered (hr.mono (by decide)) (by rfl) m_check_lettered k_check_lettered b_check_lettered .nil (passes_call (takes_of rfl rfl rfl rfl) (fun _ _ _ _ h => h)) (pa_cons (pv 0) (pa_cons (pv 1) (pa_cons (pv 2) pa_nil)))))
      (pss_cons ps_never
      (pss_cons ps_never
      (pss_cons ps_never
      (pss_cons ps_never
      (pss_cons ps_never
      (pss_cons ps_never
      (pss_one ps_never)))))))), ?_⟩
    refine ⟨_, rfl, _, rfl, _, rfl, r, .str m, l, rfl, hr', .str (by omega), hl, fun z => mv hm z, fun _ hn => ?_, fun n _ hn h1 h4 => ⟨fun hri => ?_, fun _ => ?_⟩⟩
    · rcases h with ⟨_, b⟩ | ⟨z, _⟩ | ⟨n, e', h1, h4, _⟩
      · exact b
      · cases z
      · rw [num_of e' h1 h4] at hn; cases hn
    · rcases h with ⟨a, _⟩ | ⟨z, _⟩ | ⟨n', e', _, _, _, hri', _⟩
      · rw [num_of hn h1 h4] at a; cases a
      · cases z
      · obtain rfl := same_nat hn e'
        rw [hri] at hri'; cases hri'
    · rcases h with ⟨a, _⟩ | ⟨z, _⟩ | ⟨n', e', _, _, _, hri', b⟩
      · rw [num_of hn h1 h4] at a; cases a
      · cases z
      · exact b
theorem ok_mend (e : Ent K mg "mend" s_mend p_mend) (T : Top K mg CM CR CLt CN CTg W fI a_SMALL_WIDTH a_SMALL_SEEN) (c1 : Cal P w K mg base (L2.CX P w) 5 "check_lettered" p_check_lettered (spLetX K CM CLt CR)) : Cal P w K mg base (L2.CX P w) 8 "mend" p_mend (spLR K CLt CTg CR false) := by
  obtain ⟨f, fd, F, m_, b_⟩ := e
  obtain ⟨f_check_lettered, fd_check_lettered, G_check_lettered, m_check_lettered, k_check_lettered, b_check_lettered⟩ := c1
  refine ⟨f, fd, F.okX sc_mend (fun vs H Q E h => ?_) (fun cdv A outer s H vs Q E hr h => ?_), m_, F.kp, b_⟩
  · obtain ⟨r, m, l, rfl, _⟩ := h
    rfl
  · obtain ⟨r, m, l, rfl, hm, hr', hl, h⟩ := h
    have l1 := isMask_len hm
    refine ⟨_, (pss_cons (ps_expr (pe_call G_check_lettered (hr.mono (by decide)) (by rfl) m_check_lettered k_check_lettered b_check_lettered .nil (passes_call (takes_of rfl rfl rfl rfl) (fun _ _ _ _ h => h)) (pa_cons (pv 0) (pa_cons (pv 1) (pa_cons (pv 2) pa_nil)))))
      (pss_cons ps_never
      (pss_cons ps_never
      (pss_one ps_never)))), ?_⟩
    refine ⟨_, rfl, _, rfl, _, rfl, r, .str m, l, rfl, hr', .str (by omega), hl, fun z => mv hm z, fun _ hn => ?_, fun n _ hn h1 h4 => ⟨fun hri => ?_, fun _ => ?_⟩⟩
    · rcases h with ⟨_, b⟩ | ⟨z, _⟩ | ⟨n, e', h1, h4, _⟩
      · exact b
      · cases z
      · rw [num_of e' h1 h4] at hn; cases hn
    · rcases h with ⟨a, _⟩ | ⟨z, _⟩ | ⟨n', e', _, _, _, hri', _⟩
      · rw [num_of hn h1 h4] at a; cases a
      · cases z
      · obtain rfl := same_nat hn e'
        rw [hri] at hri'; cases hri'
    · rcases h with ⟨a, _⟩ | ⟨z, _⟩ | ⟨n', e', _, _, _, hri', b⟩
      · rw [num_of hn h1 h4] at a; cases a
      · cases z
      · exact b
theorem ok_weak_letters (e : Ent K mg "weak_letters" s_weak_letters p_weak_letters) (T : Top K mg CM CR CLt CN CTg W fI a_SMALL_WIDTH a_SMALL_SEEN) (c1 : Cal P w K mg base (L2.CX P w) 5 "check_lettered" p_check_lettered (spLetX K CM CLt CR)) : Cal P w K mg base (L2.CX P w) 7 "weak_letters" p_weak_letters (spLR K CLt CTg CR false) := by
  obtain ⟨f, fd, F, m_, b_⟩ := e
  obtain ⟨f_check_lettered, fd_check_lettered, G_check_lettered, m_check_lettered, k_check_lettered, b_check_lettered⟩ := c1
  refine ⟨f, fd, F.okX sc_weak_letters (fun vs H Q E h => ?_) (fun cdv A outer s H vs Q E hr h => ?_), m_, F.kp, b_⟩
  · obtain ⟨r, m, l, rfl, _⟩ := h
    rfl
  · obtain ⟨r, m, l, rfl, hm, hr', hl, h⟩ := h
    have l1 := isMask_len hm
    refine ⟨_, (pss_cons (ps_expr (pe_call G_check_lettered (hr.mono (by decide)) (by rfl) m_check_lettered k_check_lettered b_check_lettered .nil (passes_call (takes_of rfl rfl rfl rfl) (fun _ _ _ _ h => h)) (pa_cons (pv 0) (pa_cons (pv 1) (pa_cons (pv 2) pa_nil)))))
      (pss_one ps_never)), ?_⟩
    refine ⟨_, rfl, _, rfl, _, rfl, r, .str m, l, rfl, hr', .str (by omega), hl, fun z => mv hm z, fun _ hn => ?_, fun n _ hn h1 h4 => ⟨fun hri => ?_, fun _ => ?_⟩⟩
    · rcases h with ⟨_, b⟩ | ⟨z, _⟩ | ⟨n, e', h1, h4, _⟩
      · exact b
      · cases z
      · rw [num_of e' h1 h4] at hn; cases hn
    · rcases h with ⟨a, _⟩ | ⟨z, _⟩ | ⟨n', e', _, _, _, hri', _⟩
      · rw [num_of hn h1 h4] at a; cases a
      · cases z
      · obtain rfl := same_nat hn e'
        rw [hri] at hri'; cases hri'
    · rcases h with ⟨a, _⟩ | ⟨z, _⟩ | ⟨n', e', _, _, _, hri', b⟩
      · rw [num_of hn h1 h4] at a; cases a
      · cases z
      · exact b
theorem ok_best (e : Ent K mg "best_masks" s_best_masks p_best_masks) (T : Top K mg CM CR CLt CN CTg W fI a_SMALL_WIDTH a_SMALL_SEEN) (c1 : Cal P w K mg base (L2.CX P w) 5 "check_number" p_check_number (spCheckNumber K CN)) (c2 : Cal P w K mg base (L2.CX P w) 2 "check_letters" p_check_letters (spLettersX K CLt)) (c3 : Cal P w K mg base (L2.CX P w) 1 "check_great" p_check_great (spGreatX CTg)) : Cal P w K mg base (L2.CX P w) 11 "best_masks" p_best_masks (spBest K CN CLt CTg) := by
  obtain ⟨f, fd, F, m_, b_⟩ := e
  obtain ⟨f_check_number, fd_check_number, G_check_number, m_check_number, k_check_number, b_check_number⟩ := c1
  obtain ⟨f_check_letters, fd_check_letters, G_check_letters, m_check_letters, k_check_letters, b_check_letters⟩ := c2
  obtain ⟨f_check_great, fd_check_great, G_check_great, m_check_great, k_check_great, b_check_great⟩ := c3
  refine ⟨f, fd, F.okX sc_best_masks (fun vs H Q E h => ?_) (fun cdv A outer s H vs Q E hr h => ?_), m_, F.kp, b_⟩
  · obtain ⟨a, b, l, rfl, _⟩ := h
    rfl
  · obtain ⟨a, b, l, rfl, ha, hb, hl, sa, sb, h⟩ := h
    refine ⟨_, (pss_cons (ps_expr (pe_call G_check_number (hr.mono (by decide)) (by rfl) m_check_number k_check_number b_check_number .nil (passes_call (takes_of rfl rfl rfl rfl) (fun _ _ _ _ h => h)) (pa_cons (pv 0) (pa_cons pe_int (pa_cons (pe_glob (v := .int 12) (by rfl) T.g_WIDEST.choose_spec ⟨_, rfl⟩) pa_nil)))))
      (pss_cons (ps_expr (pe_call G_check_number (hr.mono (by decide)) (by rfl) m_check_number k_check_number b_check_number .nil (passes_call (takes_of rfl rfl rfl rfl) (fun _ _ _ _ h => h)) (pa_cons (pv 1) (pa_cons pe_int (pa_cons (pe_glob (v := .int 12) (by rfl) T.g_WIDEST.choose_spec ⟨_, rfl⟩) pa_nil)))))
      (pss_cons (ps_expr (pe_call G_check_letters (hr.mono (by decide)) (by rfl) m_check_letters k_check_letters b_check_letters .nil (passes_call (takes_of rfl rfl rfl rfl) (fun _ _ _ _ h => h)) (pa_cons (pv 2) pa_nil)))
      (pss_cons (ps_expr (pe_call G_check_great (hr.mono (by decide)) (by rfl) m_check_great k_check_great b_check_great .nil (passes_call (takes_of rfl rfl rfl rfl) (fun _ _ _ _ h => h)) (pa_cons (pv 1) (pa_cons (pv 0) (pa_cons (pv 2) pa_nil)))))
      (pss_cons ps_never
      (pss_cons ps_never
      (pss_one ps_never))))))), ?_⟩
    refine ⟨_, rfl, a, 1, 12, none, rfl, ha, sa, fun na H1 e1 => ?_, fun na v' d H' e' nd hc hd => ?_⟩
    · refine ⟨_, rfl, b, 1, 12, none, rfl, hb.ex e1, sb.ex e1, fun nb H2 e2 => ?_, fun nb v' d H' e' nd hc hd => ?_⟩
      · refine ⟨_, rfl, l, rfl, hl.ex (e1.trans e2), fun nl H3 e3 => ?_, fun nl H' e' => ?_⟩
        · have e123 := (e1.trans e2).trans e3
          rcases h with ⟨z, _⟩ | ⟨_, z, _⟩ | ⟨_, _, z, _⟩ | ⟨i, j, n, rfl, rfl, rfl, h1, h2, h3, h4, h5, h6, hf, q⟩
          · rw [na] at z; cases z
          · rw [nb] at z; cases z
          · rw [nl] at z; cases z
          · exact ⟨_, rfl, _, rfl, _, rfl, j, i, n, rfl, h5, h6, fun z => absurd z hf, fun _ H' e' => q H' (e123.trans e')⟩
        · rcases h with ⟨z, _⟩ | ⟨_, z, _⟩ | ⟨_, _, _, q⟩ | ⟨i, j, n, rfl, rfl, rfl, h1, h2, h3, h4, h5, h6, hf, q⟩
          · rw [na] at z; cases z
          · rw [nb] at z; cases z
          · exact q H' ((e1.trans e2).trans e')
          · rw [isNum_of (by omega) (by omega)] at nl; cases nl
      · obtain rfl : v' = b := hc
        rcases h with ⟨z, _⟩ | ⟨_, _, q⟩ | ⟨_, z, _⟩ | ⟨i, j, n, rfl, rfl, rfl, h1, h2, h3, h4, h5, h6, hf, q⟩
        · rw [na] at z; cases z
        · exact q d H' (e1.trans e') (fresh_back e1 nd) hd
        · rw [nb] at z; cases z
        · rw [isNum_of (by omega) (by omega)] at nb; cases nb
    · obtain rfl : v' = a := hc
      rcases h with ⟨_, q⟩ | ⟨z, _⟩ | ⟨z, _⟩ | ⟨i, j, n, rfl, rfl, rfl, h1, h2, h3, h4, h5, h6, hf, q⟩
      · exact q d H' e' nd hd
      · rw [na] at z; cases z
      · rw [na] at z; cases z
      · rw [isNum_of (by omega) (by omega)] at na; cases na
end
end K10
namespace K10
open PySem PySem.Spec PyProof.Rows L2 Evl Qt
/-- what is wrong with a call: letters, the mask, the row, the number -/
def Bad (kind : Int) (m : Str) (l r : V) : Nat → Prop
  | 0 => isNum 1 4 l = false
  | 1 => kind ≤ 5 ∧ ∃ n : Nat, l = .int (n : Int) ∧ 1 ≤ n ∧ n ≤ 4 ∧ ¬ fitsM m n
  | 2 => 5 ≤ kind ∧ ∃ n : Nat, l = .int (n : Int) ∧ 1 ≤ n ∧ n ≤ 4 ∧ fitsM m n ∧ rowIn r n = false
  | _ => kind = 4 ∧ ∃ n : Nat, l = .int (n : Int) ∧ 1 ≤ n ∧ n ≤ 4 ∧ fitsM m n
def told : Nat → Str
  | 0 => PySem.Str.ofString "letters"
  | 1 => PySem.Str.ofString "great"
  | 2 => PySem.Str.ofString "row"
  | _ => PySem.Str.ofString "number"
def spCallK (K : PySem.W.Frag) (cs : List Addr) : Sp := fun vs H Q E => ∃ (kind : Int) (m : Str) (l r : V) (i : Nat) (C : Addr), vs = [.int kind, .str m, l, r] ∧ 0 ≤ kind ∧ kind ≤ 8 ∧ isMask m = true ∧ NOk K H l ∧ VOk K H r ∧ Bad kind m l r i ∧ cs[i]? = some C ∧ ∀ o H', Ex H H' → E (.ref C) o H'
def spRef (K : PySem.W.Frag) : Sp := fun vs H Q _ => ∃ (kind : Int) (m : Str) (l r : V) (i : Nat), vs = [.int kind, .str m, l, r] ∧ 0 ≤ kind ∧ kind ≤ 8 ∧ isMask m = true ∧ NOk K H l ∧ VOk K H r ∧ i < 4 ∧ Bad kind m l r i ∧ RetV (.str (told i)) H Q
def spLB (K : PySem.W.Frag) : Sp := fun vs H Q _ => ∃ (a b l : V), vs = [a, b, l] ∧ NOk K H a ∧ NOk K H b ∧ NOk K H l ∧ Sca K H a ∧ Sca K H b ∧
  ((isNum 1 12 a = false ∧ RetL [a] H Q) ∨
   (isNum 1 12 a = true ∧ isNum 1 12 b = false ∧ RetL [b] H Q) ∨
   (isNum 1 12 a = true ∧ isNum 1 12 b = true ∧ isNum 1 4 l = false ∧ RetV (.str (told 0)) H Q) ∨
   ∃ i j n : Nat, a = .int (i : Int) ∧ b = .int (j : Int) ∧ l = .int (n : Int) ∧ 1 ≤ i ∧ i ≤ 12 ∧ 1 ≤ j ∧ j ≤ 12 ∧ 1 ≤ n ∧ n ≤ 4 ∧ ¬ (j ≤ swN n ∧ i ≤ ssN n) ∧ RetV (.str (told 1)) H Q)
theorem four {cs : List Addr} {i : Nat} {C : Addr} (hl : cs.length = 4) (h : cs[i]? = some C) : i = 0 ∨ i = 1 ∨ i = 2 ∨ i = 3 := by
  have := (List.getElem?_eq_some_iff.mp h).1
  omega
section
variable {P : Program} {w : World} {K : PySem.W.Frag} {mg : Str → Option Value} {base : Heap} {CM CR CLt CN CTg W fI a_SMALL_WIDTH a_SMALL_SEEN : Addr}
theorem ok_call (e : Ent K mg "_law_call" s__law_call p__law_call) (T : Top K mg CM CR CLt CN CTg W fI a_SMALL_WIDTH a_SMALL_SEEN) (c1 : Cal P w K mg base (L2.CX P w) 10 "longest" p_longest (spLo K CLt CTg)) (c2 : Cal P w K mg base (L2.CX P w) 9 "longest_rows" p_longest_rows (spLo K CLt CTg)) (c3 : Cal P w K mg base (L2.CX P w) 9 "full_rings" p_full_rings (spLo K CLt CTg)) (c4 : Cal P w K mg base (L2.CX P w) 9 "longest_ring" p_longest_ring (spLo K CLt CTg)) (c5 : Cal P w K mg base (L2.CX P w) 9 "count_rows" p_count_rows (spCnt K CLt CTg CN)) (c6 : Cal P w K mg base (L2.CX P w) 9 "farthest" p_farthest (spLR K CLt CTg CR true)) (c7 : Cal P w K mg base (L2.CX P w) 7 "next_letters" p_next_letters (spLR K CLt CTg CR false)) (c8 : Cal P w K mg base (L2.CX P w) 8 "mend" p_mend (spLR K CLt CTg CR false)) (c9 : Cal P w K mg base (L2.CX P w) 7 "weak_letters" p_weak_letters (spLR K CLt CTg CR false)) : Cal P w K mg base (L2.CX P w) 11 "_law_call" p__law_call (spCallK K [CLt, CTg, CR, CN]) := by
  obtain ⟨f, fd, F, m_, b_⟩ := e
  obtain ⟨f_longest, fd_longest, G_longest, m_longest, k_longest, b_longest⟩ := c1
  obtain ⟨f_longest_rows, fd_longest_rows, G_longest_rows, m_longest_rows, k_longest_rows, b_longest_rows⟩ := c2
  obtain ⟨f_full_rings, fd_full_rings, G_full_rings, m_full_rings, k_full_rings, b_full_rings⟩ := c3
  obtain ⟨f_longest_ring, fd_longest_ring, G_longest_ring, m_longest_ring, k_longest_ring, b_longest_ring⟩ := c4
  obtain ⟨f_count_rows, fd_count_rows, G_count_rows, m_count_rows, k_count_rows, b_count_rows⟩ := c5
  obtain ⟨f_farthest, fd_farthest, G_farthest, m_farthest, k_farthest, b_farthest⟩ := c6
  obtain ⟨f_next_letters, fd_next_letters, G_next_letters, m_next_letters, k_next_letters, b_next_letters⟩ := c7
  obtain ⟨f_mend, fd_mend, G_mend, m_mend, k_mend, b_mend⟩ := c8
  obtain ⟨f_weak_letters, fd_weak_letters, G_weak_letters, m_weak_letters, k_weak_letters, b_weak_letters⟩ := c9
  have hC : ∀ f sp, ((sp = spLo K CLt CTg ∧ (f = f_longest ∨ f = f_longest_rows ∨ f = f_full_rings ∨ f = f_longest_ring)) ∨ (sp = spLR K CLt CTg CR true ∧ f = f_farthest) ∨ (sp = spLR K CLt CTg CR false ∧ (f = f_next_letters ∨ f = f_mend ∨ f = f_weak_letters))) → PySem.W.keepIn K (.ref f) = true ∧ ∃ k fd ps, k ≤ 10 ∧ FnOk P w K mg base (L2.CX P w) k f fd ps sp ∧ L2.Binds K fd ps [] := by
    intro f sp h
    rcases h with ⟨rfl, rfl | rfl | rfl | rfl⟩ | ⟨rfl, rfl⟩ | ⟨rfl, rfl | rfl | rfl⟩
    · exact ⟨k_longest, _, _, _, by decide, G_longest, b_longest⟩
    · exact ⟨k_longest_rows, _, _, _, by decide, G_longest_rows, b_longest_rows⟩
    · exact ⟨k_full_rings, _, _, _, by decide, G_full_rings, b_full_rings⟩
    · exact ⟨k_longest_ring, _, _, _, by decide, G_longest_ring, b_longest_ring⟩
    · exact ⟨k_farthest, _, _, _, by decide, G_farthest, b_farthest⟩
    · exact ⟨k_next_letters, _, _, _, by decide, G_next_letters, b_next_letters⟩
    · exact ⟨k_mend, _, _, _, by decide, G_mend, b_mend⟩
    · exact ⟨k_weak_letters, _, _, _, by decide, G_weak_letters, b_weak_letters⟩
  refine ⟨f, fd, F.okX sc__law_call (fun vs H Q E h => ?_) (fun cdv A outer s H vs Q E hr h => ?_), m_, F.kp, b_⟩
  · obtain ⟨kind, m, l, r, i, C, rfl, _⟩ := h
    rfl
  · obtain ⟨kind, m, l, r, i, C, rfl, k0, k8, hm, hl, hr', hb, hC2, q⟩ := h
    refine ⟨_, (pss_one (ps_if (pt_cmpR op_lt (pv 0) pe_int (nomark _)) (pss_one (ps_expr (pe_callES (hr.mono (by decide)) (pe_ix ix_list (pe_lst (pa_cons (pe_glob (v := .ref f_longest) (by rfl) m_longest rfl) (pa_cons (pe_glob (v := .ref f_longest_rows) (by rfl) m_longest_rows rfl) (pa_cons (pe_glob (v := .ref f_full_rings) (by rfl) m_full_rings rfl) (pa_cons (pe_glob (v := .ref f_longest_ring) (by rfl) m_longest_ring rfl) pa_nil))))) (pv 0) (fun _ _ => rfl)) hC (fun σ => passAt (takes_of rfl rfl rfl rfl) σ) (pa_cons (pv 1) (pa_cons (pv 2) pa_nil))))) (pss_one (ps_if (pt_cmpR op_eq (pv 0) pe_int (nomark _)) (pss_one (ps_expr (pe_call G_count_rows (hr.mono (by decide)) (by rfl) m_count_rows k_count_rows b_count_rows .nil (passes_call (takes_of rfl rfl rfl rfl) (fun _ _ _ _ h => h)) (pa_cons (pv 1) (pa_cons (pv 2) (pa_cons pe_non pa_nil)))))) (pss_one (ps_expr (pe_callES (hr.mono (by decide)) (pe_ix ix_list (pe_lst (pa_cons (pe_glob (v := .ref f_farthest) (by rfl) m_farthest rfl) (pa_cons (pe_glob (v := .ref f_next_letters) (by rfl) m_next_letters rfl) (pa_cons (pe_glob (v := .ref f_mend) (by rfl) m_mend rfl) (pa_cons (pe_glob (v := .ref f_weak_letters) (by rfl) m_weak_letters rfl) pa_nil))))) (pe_op op_sub (pv 0) pe_int) (fun _ _ => rfl)) hC (fun σ => passAt (takes_of rfl rfl rfl rfl) σ) (pa_cons (pv 3) (pa_cons (pv 1) (pa_cons (pv 2) pa_nil)))))))))), ?_⟩
    have i4 := four rfl hC2
    refine s_if (b := decide (kind < 4)) (et_test (ev_op (ev_var rfl) ev_c rv_I0)) (fun hk H1 e1 => ?_) (fun hk H1 e1 => ?_)
    · have hk := of_decide_eq_true hk
      refine ⟨by show 4 ≤ sizeLine; decide, fun L nL => ?_⟩
      have eL := e1.trans (Ex.new (o := .lst [V.ref f_longest, V.ref f_longest_rows, V.ref f_full_rings, V.ref f_longest_ring]) nL)
      obtain ⟨f0, hat, hcd⟩ : ∃ f0, atI [V.ref f_longest, V.ref f_longest_rows, V.ref f_full_rings, V.ref f_longest_ring] kind = some (.ref f0) ∧ (f0 = f_longest ∨ f0 = f_longest_rows ∨ f0 = f_full_rings ∨ f0 = f_longest_ring) := by
        have : kind = 0 ∨ kind = 1 ∨ kind = 2 ∨ kind = 3 := by omega
        rcases this with rfl | rfl | rfl | rfl
        · exact ⟨_, rfl, .inl rfl⟩
        · exact ⟨_, rfl, .inr (.inl rfl)⟩
        · exact ⟨_, rfl, .inr (.inr (.inl rfl))⟩
        · exact ⟨_, rfl, .inr (.inr (.inr rfl))⟩
      refine ⟨_, rfl, L, _, kind, .ref f0, rfl, rfl, sq_of upd_same, hat, f0, _, rfl, .inl ⟨rfl, hcd⟩, _, rfl, _, rfl, m, l, rfl, hm, hl.ex eL, ?_⟩
      rcases i4 with rfl | rfl | rfl | rfl
      · obtain rfl := Option.some.inj hC2
        exact .inl ⟨hb, fun H' e' => q none H' (eL.trans e')⟩
      · obtain rfl := Option.some.inj hC2
        obtain ⟨_, n, h1, h2, h3, h4⟩ := hb
        exact .inr ⟨n, h1, h2, h3, h4, fun H' e' => q none H' (eL.trans e')⟩
      · exact absurd hb.1 (by omega)
      · exact absurd hb.1 (by omega)
    · have hk := of_decide_eq_false hk
      refine s_if (b := decide (V.int kind = V.int 4)) (et_test (ev_op (ev_var rfl) ev_c (rv_eq rfl))) (fun hk2 H2 e2 => ?_) (fun hk2 H2 e2 => ?_)
      · have hk2 : kind = 4 := by have := of_decide_eq_true hk2; injection this
        have e12 := e1.trans e2
        refine ⟨_, rfl, _, rfl, m, l, rfl, hm, hl.ex e12, ?_⟩
        rcases i4 with rfl | rfl | rfl | rfl
        · obtain rfl := Option.some.inj hC2
          exact .inl ⟨hb, fun H' e' => q none H' (e12.trans e')⟩
        · obtain rfl := Option.some.inj hC2
          obtain ⟨_, n, h1, h2, h3, h4⟩ := hb
          exact .inr (.inl ⟨n, h1, h2, h3, h4, fun H' e' => q none H' (e12.trans e')⟩)
        · exact absurd hb.1 (by omega)
        · obtain rfl := Option.some.inj hC2
          obtain ⟨_, n, h1, h2, h3, h4⟩ := hb
          exact .inr (.inr ⟨n, h1, h2, h3, h4, fun d H' e' _ => q (some d) H' (e12.trans e')⟩)
      · have hk2 : kind ≠ 4 := fun z => by rw [z] at hk2; simp at hk2
        have e12 := e1.trans e2
        refine ⟨by show 4 ≤ sizeLine; decide, fun L nL => ?_⟩
        have eL := e12.trans (Ex.new (o := .lst [V.ref f_farthest, V.ref f_next_letters, V.ref f_mend, V.ref f_weak_letters]) nL)
        obtain ⟨f0, sp0, hat, hcd, hsp⟩ : ∃ f0 sp0, atI [V.ref f_farthest, V.ref f_next_letters, V.ref f_mend, V.ref f_weak_letters] (kind - 5) = some (.ref f0) ∧ ((sp0 = spLo K CLt CTg ∧ (f0 = f_longest ∨ f0 = f_longest_rows ∨ f0 = f_full_rings ∨ f0 = f_longest_ring)) ∨ (sp0 = spLR K CLt CTg CR true ∧ f0 = f_farthest) ∨ (sp0 = spLR K CLt CTg CR false ∧ (f0 = f_next_letters ∨ f0 = f_mend ∨ f0 = f_weak_letters))) ∧
            ∀ H Q E, (kind = 5 → spLR K CLt CTg CR true [r, .str m, l] H Q E) → (kind ≠ 5 → spLR K CLt CTg CR false [r, .str m, l] H Q E) → sp0 [r, .str m, l] H Q E := by
          have : kind = 5 ∨ kind = 6 ∨ kind = 7 ∨ kind = 8 := by omega
          rcases this with rfl | rfl | rfl | rfl
          · exact ⟨_, _, rfl, .inr (.inl ⟨rfl, rfl⟩), fun _ _ _ h _ => h rfl⟩
          · exact ⟨_, _, rfl, .inr (.inr ⟨rfl, .inl rfl⟩), fun _ _ _ _ h => h (by decide)⟩
          · exact ⟨_, _, rfl, .inr (.inr ⟨rfl, .inr (.inl rfl)⟩), fun _ _ _ _ h => h (by decide)⟩
          · exact ⟨_, _, rfl, .inr (.inr ⟨rfl, .inr (.inr rfl)⟩), fun _ _ _ _ h => h (by decide)⟩
        refine ⟨_, rfl, _, _, rfl, rfl, L, _, kind - 5, .ref f0, rfl, rfl, sq_of upd_same, hat, f0, sp0, rfl, hcd, _, rfl, _, rfl, _, rfl, hsp _ _ _ (fun h5 => ⟨r, m, l, rfl, hm, hr'.ex eL, hl.ex eL, ?_⟩) fun h5 => ⟨r, m, l, rfl, hm, hr'.ex eL, hl.ex eL, ?_⟩⟩
        all_goals
          rcases i4 with rfl | rfl | rfl | rfl
          · obtain rfl := Option.some.inj hC2
            exact .inl ⟨hb, fun H' e' => q none H' (eL.trans e')⟩
          · first
            | (obtain rfl := Option.some.inj hC2
               obtain ⟨_, n, h1, h2, h3, h4⟩ := hb
               exact .inr (.inl ⟨rfl, n, h1, h2, h3, h4, fun H' e' => q none H' (eL.trans e')⟩))
            | exact absurd hb.1 (by omega)
          · obtain rfl := Option.some.inj hC2
            obtain ⟨_, n, h1, h2, h3, h4, h5⟩ := hb
            exact .inr (.inr ⟨n, h1, h2, h3, h4, h5, fun H' e' => q none H' (eL.trans e')⟩)
          · exact absurd hb.1 (by omega)
theorem ok_refused (e : Ent K mg "_law_refused" s__law_refused p__law_refused) (T : Top K mg CM CR CLt CN CTg W fI a_SMALL_WIDTH a_SMALL_SEEN) (c1 : Cal P w K mg base (L2.CX P w) 11 "_law_call" p__law_call (spCallK K [CLt, CTg, CR, CN])) : Cal P w K mg base CX0 12 "_law_refused" p__law_refused (spRef K) := by
  obtain ⟨f, fd, F, m_, b_⟩ := e
  obtain ⟨f__law_call, fd__law_call, G__law_call, m__law_call, k__law_call, b__law_call⟩ := c1
  refine ⟨f, fd, F.ok sc__law_refused (fun vs H Q E h => ?_) (fun cdv A outer s H vs Q E hr h => ?_), m_, F.kp, b_⟩
  · obtain ⟨kind, m, l, r, i, rfl, _⟩ := h
    rfl
  · obtain ⟨kind, m, l, r, i, rfl, k0, k8, hm, hl, hr', hi, hb, q⟩ := h
    refine ⟨_, (pss_cons (ps_set (i := 4) sc__law_refused.nd rfl (Or.inl rfl) pe_non)
      (pss_cons (ps_try_mix rfl rfl sc__law_refused.nd takes0 (fun W pn xe tk _ => (pss_one (ps_expr (pe_callS G__law_call (hr.mono (by decide)) (by rfl) m__law_call k__law_call b__law_call (fun σ => passAt tk σ) (pa_cons (pv 0) (pa_cons (pv 1) (pa_cons (pv 2) (pa_cons (pv 3) pa_nil)))))))) (.plain ⟨rfl, by decide, Or.inl T.e_BadLetters.g⟩ (fun a oe cls d pn hz hf => (pss_one (ps_set (i := 4) sc__law_refused.nd rfl (Or.inl rfl) pe_str))) (.plain ⟨rfl, by decide, Or.inl T.e_TooGreat.g⟩ (fun a oe cls d pn hz hf => (pss_one (ps_set (i := 4) sc__law_refused.nd rfl (Or.inl rfl) pe_str))) (.plain ⟨rfl, by decide, Or.inl T.e_BadRow.g⟩ (fun a oe cls d pn hz hf => (pss_one (ps_set (i := 4) sc__law_refused.nd rfl (Or.inl rfl) pe_str))) (.plain ⟨rfl, by decide, Or.inl T.e_BadNumber.g⟩ (fun a oe cls d pn hz hf => (pss_one (ps_set (i := 4) sc__law_refused.nd rfl (Or.inl rfl) pe_str))) .nil)))))
      (pss_one (ps_ret (pv 4))))), ?_⟩
    obtain ⟨C, hC⟩ : ∃ C, [CLt, CTg, CR, CN][i]? = some C := ⟨_, List.getElem?_eq_getElem hi⟩
    refine ⟨_, rfl, _, rfl, _, rfl, _, rfl, kind, m, l, r, i, C, rfl, k0, k8, hm, hl, hr', hb, hC, fun o H' e' => ?_⟩
    rcases four rfl hC with rfl | rfl | rfl | rfl
    · obtain rfl := Option.some.inj hC
      exact ⟨true, T.q_CLt_CLt, (fun _ a na => ⟨_, rfl, q _ e'⟩), fun z => by cases z⟩
    · obtain rfl := Option.some.inj hC
      exact ⟨false, T.q_CTg_CLt, (fun z => by cases z), fun _ => ⟨true, T.q_CTg_CTg, (fun _ a na => ⟨_, rfl, q _ e'⟩), fun z => by cases z⟩⟩
    · obtain rfl := Option.some.inj hC
      exact ⟨false, T.q_CR_CLt, (fun z => by cases z), fun _ => ⟨false, T.q_CR_CTg, (fun z => by cases z), fun _ => ⟨true, T.q_CR_CR, (fun _ a na => ⟨_, rfl, q _ e'⟩), fun z => by cases z⟩⟩⟩
    · obtain rfl := Option.some.inj hC
      exact ⟨false, T.q_CN_CLt, (fun z => by cases z), fun _ => ⟨false, T.q_CN_CTg, (fun z => by cases z), fun _ => ⟨false, T.q_CN_CR, (fun z => by cases z), fun _ => ⟨true, T.q_CN_CN, (fun _ a na => ⟨_, rfl, q _ e'⟩), fun z => by cases z⟩⟩⟩⟩
theorem ok_lbest (e : Ent K mg "_law_best" s__law_best p__law_best) (T : Top K mg CM CR CLt CN CTg W fI a_SMALL_WIDTH a_SMALL_SEEN) (c1 : Cal P w K mg base (L2.CX P w) 11 "best_masks" p_best_masks (spBest K CN CLt CTg)) : Cal P w K mg base CX0 12 "_law_best" p__law_best (spLB K) := by
  obtain ⟨f, fd, F, m_, b_⟩ := e
  obtain ⟨f_best_masks, fd_best_masks, G_best_masks, m_best_masks, k_best_masks, b_best_masks⟩ := c1
  refine ⟨f, fd, F.ok sc__law_best (fun vs H Q E h => ?_) (fun cdv A outer s H vs Q E hr h => ?_), m_, F.kp, b_⟩
  · obtain ⟨a, b, l, rfl, _⟩ := h
    rfl
  · obtain ⟨a, b, l, rfl, ha, hb, hl, sa, sb, h⟩ := h
    refine ⟨_, (pss_cons (ps_set (i := 3) sc__law_best.nd rfl (Or.inl rfl) pe_non)
      (pss_cons (ps_try_mix rfl rfl sc__law_best.nd takes0 (fun W pn xe tk _ => (pss_one (ps_expr (pe_callS G_best_masks (hr.mono (by decide)) (by rfl) m_best_masks k_best_masks b_best_masks (fun σ => passAt tk σ) (pa_cons (pv 0) (pa_cons (pv 1) (pa_cons (pv 2) pa_nil))))))) (.named (i := 4) ⟨rfl, by decide, Or.inl T.e_BadNumber.g⟩ rfl rfl (fun a oe cls d pn hz hf => (pss_one (ps_set (i := 3) sc__law_best.nd rfl (Or.inl rfl) (pe_lst (pa_cons (pe_xf T.e_BadNumber.xf T.e_BadNumber.no hz hf (pv 4)) pa_nil))))) (.plain ⟨rfl, by decide, Or.inl T.e_BadLetters.g⟩ (fun a oe cls d pn hz hf => (pss_one (ps_set (i := 3) sc__law_best.nd rfl (Or.inl rfl) pe_str))) (.plain ⟨rfl, by decide, Or.inl T.e_TooGreat.g⟩ (fun a oe cls d pn hz hf => (pss_one (ps_set (i := 3) sc__law_best.nd rfl (Or.inl rfl) pe_str))) .nil))))
      (pss_one (ps_ret (pv 3))))), ?_⟩
    refine ⟨_, rfl, _, rfl, _, rfl, a, b, l, rfl, ha, hb, hl, sa, sb, ?_⟩
    rcases h with ⟨h1, q⟩ | ⟨h1, h2, q⟩ | ⟨h1, h2, h3, q⟩ | ⟨i, j, n, h1, h2, h3, h4, h5, h6, h7, h8, h9, hf, q⟩
    · refine .inl ⟨h1, fun d H' e' nd hd => ⟨true, T.q_CN_CN, (fun _ x na => ?_), fun z => by cases z⟩⟩
      refine ⟨_, rfl, rfl, rfl, d, _, a, rfl, hd, by simp [List.lookup], by show 1 ≤ sizeLine; decide, fun p np => ⟨_, rfl, ?_⟩⟩
      exact q p _ (fresh_back e' np) (e'.trans (Ex.new np)) upd_same
    · refine .inr (.inl ⟨h1, h2, fun d H' e' nd hd => ⟨true, T.q_CN_CN, (fun _ x na => ?_), fun z => by cases z⟩⟩)
      refine ⟨_, rfl, rfl, rfl, d, _, b, rfl, hd, by simp [List.lookup], by show 1 ≤ sizeLine; decide, fun p np => ⟨_, rfl, ?_⟩⟩
      exact q p _ (fresh_back e' np) (e'.trans (Ex.new np)) upd_same
    · exact .inr (.inr (.inl ⟨h1, h2, h3, fun H' e' => ⟨false, T.q_CLt_CN, (fun z => by cases z), fun _ => ⟨true, T.q_CLt_CLt, (fun _ a na => ⟨_, rfl, q _ e'⟩), fun z => by cases z⟩⟩⟩))
    · exact .inr (.inr (.inr ⟨i, j, n, h1, h2, h3, h4, h5, h6, h7, h8, h9, hf, fun H' e' => ⟨false, T.q_CTg_CN, (fun z => by cases z), fun _ => ⟨false, T.q_CTg_CLt, (fun z => by cases z), fun _ => ⟨true, T.q_CTg_CTg, (fun _ a na => ⟨_, rfl, q _ e'⟩), fun z => by cases z⟩⟩⟩⟩))
end
end K10
namespace K10
open PySem PySem.Spec PyProof.Rows L2 Evl Qt
def spLaw (K : PySem.W.Frag) : Sp := fun vs H Q _ => ∃ (a : Addr) (ns : List Int), vs = [.ref a] ∧ SqL K H a (ns.map V.int) ∧ ns.length ≤ 63 ∧ ∀ H', Q (.bl true) H'
theorem tne (z : Str) : ¬ ((!decide (V.str z = V.str z)) = true) := by simp
theorem nok_of {K : PySem.W.Frag} {H : Hp} {v : V} {t : String} (h : Qt.Kind K H v t) (a : kitB t "int" = some (isI v)) (b : kitB t "bool" = some (isB v)) : NOk K H v := ⟨t, h, a, b⟩
theorem sca_of {K : PySem.W.Frag} {H : Hp} {v : V} {t : String} (h : Qt.Kind K H v t) (a : kitB t "list" = some false) (b : kitB t "tuple" = some false) (c : kitB t "dict" = some false) : Sca K H v := ⟨t, h, a, b, c⟩
theorem vok_non {K : PySem.W.Frag} {H : Hp} : VOk K H .non := ⟨"NoneType", .base .non, (by decide +kernel : kitB "NoneType" "str" = some false), fun m e => by cases e⟩
/-- what stands for no number: flat -/
structure Odd (K : PySem.W.Frag) (v : V) : Prop where
  n : ∀ H, NOk K H v
  s : ∀ H, Sca K H v
  o : okV v
theorem odd_non {K : PySem.W.Frag} : Odd K .non := ⟨fun H => nok_of (t := "NoneType") (.base .non) (by decide +kernel) (by decide +kernel), fun H => sca_of (t := "NoneType") (.base .non) (by decide +kernel) (by decide +kernel) (by decide +kernel), trivial⟩
theorem odd_int {K : PySem.W.Frag} {i : Int} : Odd K (.int i) := ⟨fun H => nok_of (t := "int") (.base (.int i)) (by decide +kernel : kitB "int" "int" = some true) (by decide +kernel : kitB "int" "bool" = some false), fun H => sca_of (t := "int") (.base (.int i)) (by decide +kernel) (by decide +kernel) (by decide +kernel), trivial⟩
theorem odd_bl {K : PySem.W.Frag} {b : Bool} : Odd K (.bl b) := ⟨fun H => nok_of (t := "bool") (.base (.bl b)) (by decide +kernel : kitB "bool" "int" = some true) (by decide +kernel : kitB "bool" "bool" = some true), fun H => sca_of (t := "bool") (.base (.bl b)) (by decide +kernel) (by decide +kernel) (by decide +kernel), trivial⟩
theorem odd_two {K : PySem.W.Frag} : Odd K (.str (PySem.Str.ofString "2")) := ⟨fun H => nok_of (t := "str") (.base (.str _)) (by decide +kernel : kitB "str" "int" = some false) (by decide +kernel : kitB "str" "bool" = some false), fun H => sca_of (t := "str") (.base (.str _)) (by decide +kernel) (by decide +kernel) (by decide +kernel), by show lowS _; unfold lowS; decide +kernel⟩
/-- a letter too many -/
def othS (j n : Nat) : Str := repS (PySem.Str.ofString "a") j ++ cutS (cutS (PySem.Str.ofString "abcde") (some ((1 : Int) + (n : Int) - 1)) none) none (some 1) ++ PySem.Str.ofString "a"
theorem oth_no {j n : Nat} (h2 : 2 ≤ n) (h4 : n ≤ 4) : rowIn (.str (othS j n)) n = false := by
  have key : ∀ (c : Nat) (z w : Str), c ∈ z.cps.toList → c ∉ w.cps.toList → madeOf (.str z) w = false := fun c z w h1 h2 => by
    show (z.cps.toList.all fun c => decide (c ∈ w.cps.toList)) = false
    rw [List.all_eq_false]
    exact ⟨c, h1, by simpa using h2⟩
  have mem : ∀ (c : Nat) (x : Str), c ∈ x.cps.toList → c ∈ (repS (PySem.Str.ofString "a") j ++ x ++ PySem.Str.ofString "a").cps.toList := fun c x hc => by
    rw [str_app, str_app]
    exact List.mem_append_left _ (List.mem_append_right _ hc)
  unfold rowIn othS
  have : n = 2 ∨ n = 3 ∨ n = 4 := by omega
  rcases this with rfl | rfl | rfl
  · rw [key 99 _ _ (mem 99 _ (by decide +kernel)) (by decide +kernel), Bool.and_false]
  · rw [key 100 _ _ (mem 100 _ (by decide +kernel)) (by decide +kernel), Bool.and_false]
  · rw [key 101 _ _ (mem 101 _ (by decide +kernel)) (by decide +kernel), Bool.and_false]
theorem fit_x {n : Nat} (h2 : 2 ≤ n) (h4 : n ≤ 4) : fitsM (PySem.Str.ofString "x") n := by
  have : n = 2 ∨ n = 3 ∨ n = 4 := by omega
  rcases this with h | h | h <;> (subst h; unfold fitsM; decide +kernel)
theorem cut1_len (n : Nat) (h2 : 2 ≤ n) (h4 : n ≤ 4) : (cutS (cutS (PySem.Str.ofString "abcde") (some ((1 : Int) + (n : Int) - 1)) none) none (some 1)).length = 1 ∧ (cutS (PySem.Str.ofString "abcde") (some ((1 : Int) + (n : Int) - 1)) none).length ≤ 5 := by
  have : n = 2 ∨ n = 3 ∨ n = 4 := by omega
  rcases this with rfl | rfl | rfl <;> decide +kernel
theorem rep_len (j : Nat) : (repS (PySem.Str.ofString "a") j).length = j := by
  rw [repS_length, show (PySem.Str.ofString "a").length = 1 by decide +kernel]
  omega
theorem oth_len {j n : Nat} (h2 : 2 ≤ n) (h4 : n ≤ 4) (hj : j ≤ 9) : (othS j n).length ≤ 20 := by
  have c1 := cut1_len n h2 h4
  unfold othS
  rw [← len_l, str_app, str_app, List.length_append, List.length_append, len_l, len_l, len_l, rep_len, c1.1, show (PySem.Str.ofString "a").length = 1 by decide +kernel]
  omega
section
variable {P : Program} {w : World} {K : PySem.W.Frag} {mg : Str → Option Value} {base : Heap} {CM CR CLt CN CTg W fI a_SMALL_WIDTH a_SMALL_SEEN : Addr}
theorem ok_law {f : Addr} {fd : FuncData} (F : Fun K "law" "law" s_law f fd) (T : Top K mg CM CR CLt CN CTg W fI a_SMALL_WIDTH a_SMALL_SEEN) (c1 : Cal P w K mg base CX0 1 "_law_taken" p__law_taken (spTaken K)) (c2 : Cal P w K mg base CX0 12 "_law_refused" p__law_refused (spRef K)) (c3 : Cal P w K mg base CX0 12 "_law_best" p__law_best (spLB K)) : FnOk P w K mg base CX0 13 f fd p_law (spLaw K) := by
  obtain ⟨f__law_taken, fd__law_taken, G__law_taken, m__law_taken, k__law_taken, b__law_taken⟩ := c1
  obtain ⟨f__law_refused, fd__law_refused, G__law_refused, m__law_refused, k__law_refused, b__law_refused⟩ := c2
  obtain ⟨f__law_best, fd__law_best, G__law_best, m__law_best, k__law_best, b__law_best⟩ := c3
  refine F.ok sc_law (fun vs H Q E h => ?_) (fun cdv A outer s H vs Q E hr h => ?_)
  · obtain ⟨a, ns, rfl, _⟩ := h
    rfl
  · obtain ⟨a, ns, rfl, hS, hlen, q⟩ := h
    refine ⟨_, (pss_cons (ps_set (i := 1) sc_law.nd rfl (Or.inl rfl) (pe_lst (pa_cons (pv 0) (pa_cons pe_int (pa_cons pe_int (pa_cons pe_int pa_nil))))))
      (pss_cons (ps_for PassesOwn.never rfl (pi_range1 (by rfl) T.m_range (pa_cons pe_int pa_nil)) (pg_name (i := 2) sc_law.nd rfl (Or.inl rfl)) (pss_cons (ps_set (i := 3) sc_law.nd rfl (Or.inl rfl) (pe_ix ix_list (pe_lst (pa_cons pe_non (pa_cons pe_int (pa_cons pe_int (pa_cons pe_bl (pa_cons pe_str (pa_cons (pe_tup (pa_cons pe_int pa_nil)) pa_nil))))))) (pe_call G__law_taken (hr.mono (by decide)) (by rfl) m__law_taken k__law_taken b__law_taken .nil pass0 (pa_cons (pv 1) (pa_cons pe_int pa_nil))) (fun _ _ => rfl)))
      (pss_cons (ps_if (pt_cmpR op_ne (pe_call G__law_refused (hr.mono (by decide)) (by rfl) m__law_refused k__law_refused b__law_refused .nil pass0 (pa_cons (pe_call G__law_taken (hr.mono (by decide)) (by rfl) m__law_taken k__law_taken b__law_taken .nil pass0 (pa_cons (pv 1) (pa_cons pe_int pa_nil))) (pa_cons (pe_op op_mulS pe_str pe_int) (pa_cons (pv 3) (pa_cons pe_non pa_nil))))) pe_str (nomark _)) (pss_one (ps_ret pe_bl)) pss_nil)
      (pss_cons (ps_set (i := 4) sc_law.nd rfl (Or.inl rfl) (pe_op op_add pe_int (pe_call G__law_taken (hr.mono (by decide)) (by rfl) m__law_taken k__law_taken b__law_taken .nil pass0 (pa_cons (pv 1) (pa_cons pe_int pa_nil)))))
      (pss_cons (ps_set (i := 5) sc_law.nd rfl (Or.inl rfl) (pe_ix ix_list (pe_ix ix_list (pe_lst (pa_cons (pe_lst (pa_cons (pe_op op_add_str (pe_op op_add_str pe_str (pe_op op_mulS pe_str pe_int)) pe_str) (pa_cons pe_str pa_nil))) (pa_cons (pe_lst (pa_cons pe_str (pa_cons pe_str pa_nil))) (pa_cons (pe_lst (pa_cons pe_str (pa_cons pe_str pa_nil))) pa_nil)))) (pe_op op_sub (pv 4) pe_int) (fun _ _ => rfl)) (pe_call G__law_taken (hr.mono (by decide)) (by rfl) m__law_taken k__law_taken b__law_taken .nil pass0 (pa_cons (pv 1) (pa_cons pe_int pa_nil))) (fun _ _ => rfl)))
      (pss_cons (ps_if (pt_cmpR op_ne (pe_call G__law_refused (hr.mono (by decide)) (by rfl) m__law_refused k__law_refused b__law_refused .nil pass0 (pa_cons (pe_call G__law_taken (hr.mono (by decide)) (by rfl) m__law_taken k__law_taken b__law_taken .nil pass0 (pa_cons (pv 1) (pa_cons pe_int pa_nil))) (pa_cons (pv 5) (pa_cons (pv 4) (pa_cons pe_non pa_nil))))) pe_str (nomark _)) (pss_one (ps_ret pe_bl)) pss_nil)
      (pss_cons (ps_set (i := 6) sc_law.nd rfl (Or.inl rfl) (pe_op op_add_str (pe_op op_add_str (pe_op op_mulS pe_str (pe_call G__law_taken (hr.mono (by decide)) (by rfl) m__law_taken k__law_taken b__law_taken .nil pass0 (pa_cons (pv 1) (pa_cons pe_int pa_nil)))) (pe_slice sl_str (pe_slice sl_str pe_str (po_some (pe_op op_sub (pe_op op_add pe_int (pv 4)) pe_int)) po_none) po_none (po_some pe_int))) pe_str))
      (pss_cons (ps_if (pt_cmpR op_ne (pe_call G__law_refused (hr.mono (by decide)) (by rfl) m__law_refused k__law_refused b__law_refused .nil pass0 (pa_cons (pe_op op_add pe_int (pe_call G__law_taken (hr.mono (by decide)) (by rfl) m__law_taken k__law_taken b__law_taken .nil pass0 (pa_cons (pv 1) (pa_cons pe_int pa_nil)))) (pa_cons pe_str (pa_cons (pv 4) (pa_cons (pv 6) pa_nil))))) pe_str (nomark _)) (pss_one (ps_ret pe_bl)) pss_nil)
      (pss_cons (ps_set (i := 3) sc_law.nd rfl (Or.inl rfl) (pe_ix ix_list (pe_lst (pa_cons pe_non (pa_cons pe_int (pa_cons pe_int (pa_cons pe_bl (pa_cons pe_str pa_nil)))))) (pe_call G__law_taken (hr.mono (by decide)) (by rfl) m__law_taken k__law_taken b__law_taken .nil pass0 (pa_cons (pv 1) (pa_cons pe_int pa_nil))) (fun _ _ => rfl)))
      (pss_cons (ps_set (i := 7) sc_law.nd rfl (Or.inl rfl) (pe_ix ix_list (pe_lst (pa_cons pe_non (pa_cons pe_int (pa_cons pe_int (pa_cons pe_bl (pa_cons pe_str pa_nil)))))) (pe_call G__law_taken (hr.mono (by decide)) (by rfl) m__law_taken k__law_taken b__law_taken .nil pass0 (pa_cons (pv 1) (pa_cons pe_int pa_nil))) (fun _ _ => rfl)))
      (pss_cons (ps_if (PW.pt (pw_or (pt_cmpR (op_neD hr.units) (pe_call G__law_best (hr.mono (by decide)) (by rfl) m__law_best k__law_best b__law_best .nil pass0 (pa_cons (pv 3) (pa_cons (pv 3) (pa_cons (pv 7) pa_nil)))) (pe_lst (pa_cons (pv 3) pa_nil)) (nomark _)) (pw_or1 (pt_cmpR (op_neD hr.units) (pe_call G__law_best (hr.mono (by decide)) (by rfl) m__law_best k__law_best b__law_best .nil pass0 (pa_cons pe_int (pa_cons (pv 3) (pa_cons (pv 7) pa_nil)))) (pe_lst (pa_cons (pv 3) pa_nil)) (nomark _))))) (pss_one (ps_ret pe_bl)) pss_nil)
      (pss_cons (ps_if (PW.pt (pw_or (pt_cmpR (op_neD hr.units) (pe_call G__law_best (hr.mono (by decide)) (by rfl) m__law_best k__law_best b__law_best .nil pass0 (pa_cons pe_int (pa_cons pe_int (pa_cons (pv 7) pa_nil)))) pe_str (nomark _)) (pw_or1 (pt_cmpR (op_neD hr.units) (pe_call G__law_best (hr.mono (by decide)) (by rfl) m__law_best k__law_best b__law_best .nil pass0 (pa_cons pe_int (pa_cons (pe_ix ix_list (pe_lst (pa_cons pe_int (pa_cons pe_int (pa_cons pe_int pa_nil)))) (pe_op op_sub (pv 4) pe_int) (fun _ _ => rfl)) (pa_cons (pv 4) pa_nil)))) pe_str (nomark _))))) (pss_one (ps_ret pe_bl)) pss_nil)
      (pss_one (ps_if (pt_cmpR (op_neD hr.units) (pe_call G__law_best (hr.mono (by decide)) (by rfl) m__law_best k__law_best b__law_best .nil pass0 (pa_cons (pe_ix ix_list (pe_lst (pa_cons pe_int (pa_cons pe_int (pa_cons pe_int pa_nil)))) (pe_op op_sub (pv 4) pe_int) (fun _ _ => rfl)) (pa_cons pe_int (pa_cons (pv 4) pa_nil)))) pe_str (nomark _)) (pss_one (ps_ret pe_bl)) pss_nil))))))))))))))
      (pss_one (ps_ret (pe_cmpR op_eq (pe_call G__law_refused (hr.mono (by decide)) (by rfl) m__law_refused k__law_refused b__law_refused .nil pass0 (pa_cons pe_int (pa_cons pe_str (pa_cons pe_int (pa_cons pe_non pa_nil))))) pe_str (nomark _)))))), ?_⟩
    refine ⟨_, rfl, by show 4 ≤ sizeLine; decide, fun r nr => ?_⟩
    have R0 : Qt.Row K r a ns (upd H r (.lst [.ref a, .int 0, .int 310, .int 0])) := ⟨0, 310, 0, upd_same, ex_l (Ex.new nr) hS, by omega, by omega, by omega, by omega⟩
    refine q_forR1 (n := 5) (j := 2) (ea_cons ev_c ea_nil) (by omega) (fun i σ H' => Qt.Row K r a ns H' ∧ ∃ x2 x3 x4 x5 x6 x7, σ = [some (.ref a), some (.ref r), x2, x3, x4, x5, x6, x7])
      (fun H1 e1 => ⟨R0.ex e1, _, _, _, _, _, _, rfl⟩) (fun i σ' H1 hi hp => ?_) (fun σ' H' hp => ?_)
    · obtain ⟨R1, x2, x3, x4, x5, x6, x7, rfl⟩ := hp
      -- letters that are none
      refine ⟨by show 1 ≤ sizeLine; decide, fun t nt => ⟨by show 6 ≤ sizeLine; decide, fun L nL => ?_⟩⟩
      have e2 := Ex.new (o := .tup [.int 2]) nt
      have e3 := Ex.new (o := .lst [V.non, .int 0, .int 5, .bl true, .str (PySem.Str.ofString "2"), .ref t]) nL
      have R2 := (R1.ex e2).ex e3
      have tr := R1.ne nt
      have Lr := R1.ne (fresh_back e2 nL)
      refine ⟨_, rfl, r, a, ns, 6, rfl, by omega, by omega, R2, fun n H3 n0 n1 X3 R3 => ?_⟩
      have hL := X3 L _ Lr upd_same
      have ht := X3 t _ tr (e3 _ _ upd_same)
      obtain ⟨bad, hat, hbad, hno⟩ : ∃ bad, atI [V.non, .int 0, .int 5, .bl true, .str (PySem.Str.ofString "2"), .ref t] n = some bad ∧ (∀ HD, Xr K r H3 HD → NOk K HD bad) ∧ isNum 1 4 bad = false := by
        have : n = 0 ∨ n = 1 ∨ n = 2 ∨ n = 3 ∨ n = 4 ∨ n = 5 := by omega
        rcases this with rfl | rfl | rfl | rfl | rfl | rfl
        · exact ⟨_, rfl, fun HD X => odd_non.n HD, rfl⟩
        · exact ⟨_, rfl, fun HD X => odd_int.n HD, by decide⟩
        · exact ⟨_, rfl, fun HD X => odd_int.n HD, by decide⟩
        · exact ⟨_, rfl, fun HD X => odd_bl.n HD, rfl⟩
        · exact ⟨_, rfl, fun HD X => odd_two.n HD, rfl⟩
        · exact ⟨_, rfl, fun HD X => nok_of (t := "tuple") (.base (.tup (X _ _ tr ht))) (by decide +kernel : kitB "tuple" "int" = some false) (by decide +kernel : kitB "tuple" "bool" = some false), rfl⟩
      refine ⟨L, _, n, bad, rfl, rfl, sq_of hL, hat, ?_⟩
      dsimp only [tSeq, gName]
      refine ⟨_, rfl, r, a, ns, 9, rfl, by omega, by omega, R3, fun kd H4 k0 k1 X4 R4 => ?_⟩
      refine ⟨_, 12, rfl, rfl, by decide, by decide +kernel, _, rfl, kd, _, bad, .non, 0, rfl, k0, by omega, by decide +kernel, hbad _ X4, vok_non, by omega, hno, fun H5 e5 => ⟨rfl, _, rfl, ite2 (fun z => absurd z (tne (told 0))) (fun _ => ?_)⟩⟩
      have R5 := R4.ex e5
      -- masks that are too great
      refine ⟨_, rfl, r, a, ns, 3, rfl, by omega, by omega, R5, fun lt H6 l0 l1 X6 R6 => ⟨_, _, rfl, rfl, ?_⟩⟩
      obtain ⟨lt, rfl⟩ := Int.eq_ofNat_of_zero_le l0
      obtain ⟨N, hN⟩ : ∃ N : Nat, N = 2 + lt := ⟨_, rfl⟩
      have N2 : 2 ≤ N := by omega
      have N4 : N ≤ 4 := by omega
      dsimp only [tSeq, gName]
      rw [show (2 : Int) + (lt : Int) = (N : Int) by omega]
      refine ⟨_, 7, rfl, rfl, by decide, by decide +kernel, _, _, rfl, rfl, by decide +kernel, _, _, rfl, rfl, by decide +kernel, ?_⟩
      refine ⟨by show 2 ≤ sizeLine; decide, fun l1 nl1 => ⟨by show 2 ≤ sizeLine; decide, fun l2 nl2 => ⟨by show 2 ≤ sizeLine; decide, fun l3 nl3 => ⟨by show 3 ≤ sizeLine; decide, fun l4 nl4 => ?_⟩⟩⟩⟩
      obtain ⟨w1, hw1⟩ : ∃ w1, PySem.Str.ofString "x" ++ repS (PySem.Str.ofString ".") 7 ++ PySem.Str.ofString "x" = w1 := ⟨_, rfl⟩
      rw [hw1] at nl2 nl3 nl4 ⊢
      have E1 := Ex.new (o := .lst [V.str w1, .str (PySem.Str.ofString "xxxxx")]) nl1
      have E2 := Ex.new (o := .lst [V.str (PySem.Str.ofString "x....x"), .str (PySem.Str.ofString "xxx")]) nl2
      have E3 := Ex.new (o := .lst [V.str (PySem.Str.ofString "x...x"), .str (PySem.Str.ofString "xx")]) nl3
      have E4 := Ex.new (o := .lst [V.ref l1, .ref l2, .ref l3]) nl4
      have R7 := (((R6.ex E1).ex E2).ex E3).ex E4
      have hN3 : N = 2 ∨ N = 3 ∨ N = 4 := by omega
      obtain ⟨lx, x0, x1, hlx, hlr, hlh, hx⟩ : ∃ lx x0 x1, atI [V.ref l1, .ref l2, .ref l3] ((N : Int) - 2) = some (.ref lx) ∧ lx ≠ r ∧ (upd (upd (upd (upd H6 l1 (.lst [V.str w1, .str (PySem.Str.ofString "xxxxx")])) l2 (.lst [V.str (PySem.Str.ofString "x....x"), .str (PySem.Str.ofString "xxx")])) l3 (.lst [V.str (PySem.Str.ofString "x...x"), .str (PySem.Str.ofString "xx")])) l4 (.lst [V.ref l1, .ref l2, .ref l3])) lx = some (.lst [.str x0, .str x1]) ∧
          ∀ x, x = x0 ∨ x = x1 → isMask x = true ∧ ¬ fitsM x N := by
        rcases hN3 with h | h | h
        · subst h
          refine ⟨l1, _, _, rfl, R6.ne nl1, E4 _ _ (E3 _ _ (E2 _ _ upd_same)), fun x hx => ?_⟩
          rw [← hw1] at hx
          rcases hx with rfl | rfl <;> exact ⟨by decide +kernel, by unfold fitsM; decide +kernel⟩
        · subst h
          refine ⟨l2, _, _, rfl, R6.ne (fresh_back E1 nl2), E4 _ _ (E3 _ _ upd_same), fun x hx => ?_⟩
          rcases hx with rfl | rfl <;> exact ⟨by decide +kernel, by unfold fitsM; decide +kernel⟩
        · subst h
          refine ⟨l3, _, _, rfl, R6.ne (fresh_back E1 (fresh_back E2 nl3)), E4 _ _ upd_same, fun x hx => ?_⟩
          rcases hx with rfl | rfl <;> exact ⟨by decide +kernel, by unfold fitsM; decide +kernel⟩
      refine ⟨_, rfl, _, _, rfl, rfl, l4, _, (N : Int) - 2, .ref lx, rfl, rfl, sq_of upd_same, hlx, ?_⟩
      refine ⟨_, rfl, r, a, ns, 2, rfl, by omega, by omega, R7, fun n2 H8 m0 m1 X8 R8 => ?_⟩
      obtain ⟨x, hxat, hxx⟩ : ∃ x, atI [V.str x0, .str x1] n2 = some (.str x) ∧ (x = x0 ∨ x = x1) := by
        have : n2 = 0 ∨ n2 = 1 := by omega
        rcases this with rfl | rfl
        · exact ⟨_, rfl, .inl rfl⟩
        · exact ⟨_, rfl, .inr rfl⟩
      obtain ⟨hxm, hxf⟩ := hx x hxx
      refine ⟨lx, _, n2, .str x, rfl, rfl, sq_of (X8 lx _ hlr hlh), hxat, ?_⟩
      dsimp only [tSeq, gName]
      refine ⟨_, rfl, r, a, ns, 6, rfl, by omega, by omega, R8, fun kd2 H9 k20 k21 X9 R9 => ?_⟩
      refine ⟨_, rfl, _, rfl, kd2, x, .int (N : Int), .non, 1, rfl, k20, by omega, hxm, odd_int.n _, vok_non, by omega, ⟨by omega, N, rfl, by omega, N4, hxf⟩, fun HA eA => ⟨rfl, _, rfl, ite2 (fun z => absurd z (tne (told 1))) (fun _ => ?_)⟩⟩
      have RA := R9.ex eA
      -- rows with other letters
      refine ⟨_, rfl, r, a, ns, 9, rfl, by omega, by omega, RA, fun j HB j0 j1 XB RB => ?_⟩
      obtain ⟨j, rfl⟩ := Int.eq_ofNat_of_zero_le j0
      have c1 := cut1_len N N2 N4
      refine ⟨_, j, rfl, rfl, by omega, by decide +kernel, _, rfl, _, _, rfl, rfl, _, _, rfl, rfl, _, rfl, _, rfl, by decide +kernel, 1, rfl, _, rfl, by rw [sizeLine_eq]; omega, _, _, rfl, rfl, by rw [rep_len, c1.1, sizeLine_eq]; omega, _, _, rfl, rfl, ?_, ?_⟩
      · rw [← len_l, str_app, List.length_append, len_l, len_l, rep_len, c1.1, show (PySem.Str.ofString "a").length = 1 by decide +kernel, sizeLine_eq]
        omega
      dsimp only [tSeq, gName]
      refine ⟨_, rfl, r, a, ns, 4, rfl, by omega, by omega, RB, fun kd3 HC k30 k31 XC RC => ⟨_, _, rfl, rfl, ?_⟩⟩
      refine ⟨_, rfl, _, rfl, 5 + kd3, _, .int (N : Int), .str (othS j N), 2, rfl, by omega, by omega, by decide +kernel, odd_int.n _, .str (by have := oth_len (j := j) N2 N4 (by omega); omega), by omega, ⟨by omega, N, rfl, by omega, N4, fit_x N2 N4, oth_no N2 N4⟩, fun HD eD => ⟨rfl, _, rfl, ite2 (fun z => absurd z (tne (told 2))) (fun _ => ?_)⟩⟩
      have RD := RC.ex eD
      -- numbers, then letters, of best_masks
      refine ⟨by show 5 ≤ sizeLine; decide, fun L2 nL2 => ?_⟩
      have RE := RD.ex (Ex.new (o := .lst [V.non, .int 0, .int 13, .bl true, .str (PySem.Str.ofString "2")]) nL2)
      refine ⟨_, rfl, r, a, ns, 5, rfl, by omega, by omega, RE, fun n5 HE n50 n51 XE' RE' => ?_⟩
      have hL2 := XE' L2 _ (RD.ne nL2) upd_same
      obtain ⟨b2, hat2, ob2, nb2⟩ : ∃ b2, atI [V.non, .int 0, .int 13, .bl true, .str (PySem.Str.ofString "2")] n5 = some b2 ∧ Odd K b2 ∧ isNum 1 12 b2 = false := by
        have : n5 = 0 ∨ n5 = 1 ∨ n5 = 2 ∨ n5 = 3 ∨ n5 = 4 := by omega
        rcases this with rfl | rfl | rfl | rfl | rfl
        · exact ⟨_, rfl, odd_non, rfl⟩
        · exact ⟨_, rfl, odd_int, by decide⟩
        · exact ⟨_, rfl, odd_int, by decide⟩
        · exact ⟨_, rfl, odd_bl, rfl⟩
        · exact ⟨_, rfl, odd_two, rfl⟩
      refine ⟨L2, _, n5, b2, rfl, rfl, sq_of hL2, hat2, ?_⟩
      dsimp only [tSeq, gName]
      refine ⟨by show 5 ≤ sizeLine; decide, fun L3 nL3 => ?_⟩
      have RF := RE'.ex (Ex.new (o := .lst [V.non, .int 0, .int 5, .bl true, .str (PySem.Str.ofString "2")]) nL3)
      refine ⟨_, rfl, r, a, ns, 5, rfl, by omega, by omega, RF, fun n6 HF n60 n61 XF RF' => ?_⟩
      have hL3 := XF L3 _ (RE'.ne nL3) upd_same
      obtain ⟨b3, hat3, ob3, nb3⟩ : ∃ b3, atI [V.non, .int 0, .int 5, .bl true, .str (PySem.Str.ofString "2")] n6 = some b3 ∧ Odd K b3 ∧ isNum 1 4 b3 = false := by
        have : n6 = 0 ∨ n6 = 1 ∨ n6 = 2 ∨ n6 = 3 ∨ n6 = 4 := by omega
        rcases this with rfl | rfl | rfl | rfl | rfl
        · exact ⟨_, rfl, odd_non, rfl⟩
        · exact ⟨_, rfl, odd_int, by decide⟩
        · exact ⟨_, rfl, odd_int, by decide⟩
        · exact ⟨_, rfl, odd_bl, rfl⟩
        · exact ⟨_, rfl, odd_two, rfl⟩
      refine ⟨L3, _, n6, b3, rfl, rfl, sq_of hL3, hat3, ?_⟩
      dsimp only [tSeq, gName]
      have hsh : SeqAt.shaped (.list [datV b2]) = true := shaped_list fun d hd => by
        rw [List.mem_singleton.mp hd]
        exact ⟨(lay_flat ob2.o).1, Nat.le_trans (lay_flat ob2.o).2 (by omega)⟩
      refine q_when (b := false || false) (et_or (et_test (ev_opLL (xs := [b2]) (ys := [b2]) (el_call (ea_cons (ev_var rfl) (ea_cons (ev_var rfl) (ea_cons (ev_var rfl) ea_nil))) fun G e Q q E => ⟨b2, b2, b3, rfl, ob2.n _, ob2.n _, ob3.n _, ob2.s _, ob2.s _, .inl ⟨nb2, q⟩⟩) (el_lst (ea_cons (ev_var rfl) ea_nil) (by simp)) fun p q' G hp hq e => rv_ne_same (d := .list [datV b2]) (fun G1 e1 => .lst (sq_of (e1 _ _ hp)) (.cons (dp_flat ob2.o) .nil)) (fun G1 e1 => .lst (sq_of (e1 _ _ hq)) (.cons (dp_flat ob2.o) .nil)) hsh)) fun _ =>
        et_test (ev_opLL (xs := [b2]) (ys := [b2]) (el_call (ea_cons ev_c (ea_cons (ev_var rfl) (ea_cons (ev_var rfl) ea_nil))) fun G e Q q E => ⟨.int 2, b2, b3, rfl, odd_int.n _, ob2.n _, ob3.n _, odd_int.s _, ob2.s _, .inr (.inl ⟨by decide, nb2, q⟩)⟩) (el_lst (ea_cons (ev_var rfl) ea_nil) (by simp)) fun p q' G hp hq e => rv_ne_same (d := .list [datV b2]) (fun G1 e1 => .lst (sq_of (e1 _ _ hp)) (.cons (dp_flat ob2.o) .nil)) (fun G1 e1 => .lst (sq_of (e1 _ _ hq)) (.cons (dp_flat ob2.o) .nil)) hsh)) (fun z => by cases z) (fun _ HG eG => ?_)
      have RG := RF'.ex eG
      have sl : SeqAt.shaped (.str (told 0)) = true := by decide +kernel
      have sg : SeqAt.shaped (.str (told 1)) = true := by decide +kernel
      have pick : ∀ (x0 x1 x2 : Int), ∃ y : Nat → Int, y 2 = x0 ∧ y 3 = x1 ∧ y 4 = x2 ∧ atI [V.int x0, .int x1, .int x2] ((N : Int) - 2) = some (.int (y N)) := fun x0 x1 x2 => by
        refine ⟨fun k => if k = 2 then x0 else if k = 3 then x1 else x2, rfl, rfl, rfl, ?_⟩
        have : N = 2 ∨ N = 3 ∨ N = 4 := by omega
        rcases this with h | h | h <;> (subst h; rfl)
      obtain ⟨y, y2, y3, y4, hy⟩ := pick 9 6 5
      obtain ⟨v, v2, v3, v4, hv⟩ := pick 5 3 2
      refine q_when (b := false || false) (et_or (et_test (ev_op (x := .str (told 0)) (ev_call (ea_cons ev_c (ea_cons ev_c (ea_cons (ev_var rfl) ea_nil))) fun G e Q q E => ⟨.int 2, .int 4, b3, rfl, odd_int.n _, odd_int.n _, ob3.n _, odd_int.s _, odd_int.s _, .inr (.inr (.inl ⟨by decide, by decide, nb3, q⟩))⟩) ev_c (rv_ne_same (d := .str (told 0)) (fun _ _ => .str _) (fun _ _ => .str _) sl))) fun _ =>
        et_test (ev_op (x := .str (told 1)) (ev_call (vs := [.int 1, .int (y N), .int (N : Int)]) (ea_cons ev_c (ea_cons ?_ (ea_cons (ev_var rfl) ea_nil))) fun G e Q q E => ?_) ev_c (rv_ne_same (d := .str (told 1)) (fun _ _ => .str _) (fun _ _ => .str _) sg))) (fun z => by cases z) (fun _ HH eH => ?_)
      · exact fun G e Q q => ⟨by show 3 ≤ sizeLine; decide, fun l nl => ⟨_, rfl, _, _, rfl, rfl, l, _, _, _, rfl, rfl, sq_of upd_same, hy, q _ (Ex.new nl)⟩⟩
      · have : N = 2 ∨ N = 3 ∨ N = 4 := by omega
        rcases this with h | h | h <;> subst h
        · rw [y2]; exact ⟨_, _, _, rfl, odd_int.n _, odd_int.n _, odd_int.n _, odd_int.s _, odd_int.s _, .inr (.inr (.inr ⟨1, 9, 2, rfl, rfl, rfl, by decide, by decide, by decide, by decide, by decide, by decide, by decide, q⟩))⟩
        · rw [y3]; exact ⟨_, _, _, rfl, odd_int.n _, odd_int.n _, odd_int.n _, odd_int.s _, odd_int.s _, .inr (.inr (.inr ⟨1, 6, 3, rfl, rfl, rfl, by decide, by decide, by decide, by decide, by decide, by decide, by decide, q⟩))⟩
        · rw [y4]; exact ⟨_, _, _, rfl, odd_int.n _, odd_int.n _, odd_int.n _, odd_int.s _, odd_int.s _, .inr (.inr (.inr ⟨1, 5, 4, rfl, rfl, rfl, by decide, by decide, by decide, by decide, by decide, by decide, by decide, q⟩))⟩
      have RH := RG.ex eH
      refine s_when (b := false) (et_test (ev_op (x := .str (told 1)) (ev_call (vs := [.int (v N), .int 2, .int (N : Int)]) (ea_cons ?_ (ea_cons ev_c (ea_cons (ev_var rfl) ea_nil))) fun G e Q q E => ?_) ev_c (rv_ne_same (d := .str (told 1)) (fun _ _ => .str _) (fun _ _ => .str _) sg))) (fun z => by cases z) (fun _ HI eI => ?_)
      · exact fun G e Q q => ⟨by show 3 ≤ sizeLine; decide, fun l nl => ⟨_, rfl, _, _, rfl, rfl, l, _, _, _, rfl, rfl, sq_of upd_same, hv, q _ (Ex.new nl)⟩⟩
      · have : N = 2 ∨ N = 3 ∨ N = 4 := by omega
        rcases this with h | h | h <;> subst h
        · rw [v2]; exact ⟨_, _, _, rfl, odd_int.n _, odd_int.n _, odd_int.n _, odd_int.s _, odd_int.s _, .inr (.inr (.inr ⟨5, 2, 2, rfl, rfl, rfl, by decide, by decide, by decide, by decide, by decide, by decide, by decide, q⟩))⟩
        · rw [v3]; exact ⟨_, _, _, rfl, odd_int.n _, odd_int.n _, odd_int.n _, odd_int.s _, odd_int.s _, .inr (.inr (.inr ⟨3, 2, 3, rfl, rfl, rfl, by decide, by decide, by decide, by decide, by decide, by decide, by decide, q⟩))⟩
        · rw [v4]; exact ⟨_, _, _, rfl, odd_int.n _, odd_int.n _, odd_int.n _, odd_int.s _, odd_int.s _, .inr (.inr (.inr ⟨2, 2, 4, rfl, rfl, rfl, by decide, by decide, by decide, by decide, by decide, by decide, by decide, q⟩))⟩
      exact ⟨RH.ex eI, _, _, _, _, _, _, rfl⟩
    · obtain ⟨R1, x2, x3, x4, x5, x6, x7, rfl⟩ := hp
      refine s_ret (v := .bl true) (ev_is (ev_op (x := .str (told 3)) (y := .str (told 3)) (ev_call (ea_cons ev_c (ea_cons ev_c (ea_cons ev_c (ea_cons ev_c ea_nil)))) fun G e Q q E => ⟨4, _, .int (2 : Nat), .non, 3, rfl, by decide, by decide, by decide +kernel, odd_int.n _, vok_non, by decide, ⟨rfl, 2, rfl, by decide, by decide, by unfold fitsM; decide +kernel⟩, q⟩) ev_c (rv_eq rfl)) (by rw [decide_eq_true rfl])) fun H2 e2 => q H2
end
end K10
namespace K10
open PySem PySem.Spec PyProof.Rows L2 Evl Qt
/-- the def x stands in the written part -/
def DefAt (K : PySem.W.Frag) (x : Str) (st : Stmt) : Prop := ∃ (f : Addr) (oc : Value) (od : Option Addr) (kV dc pm : Value) (an : Option Addr) (cd ct : Value) (sl : Array (Option Value)),
  PySem.W.nsIn K mainGlobals x = some (some (.ref f)) ∧ K.lookup f = some ⟨oc, od, .func (PySem.W.fnOf x x (defArgs st) (defBody st) (defScope st) .none kV dc pm an cd ct), sl⟩ ∧ PySem.W.codeIn K cd x = true ∧ PySem.W.keepIn K (.ref f) = true
theorem DefAt.mk {K : PySem.W.Frag} {x : Str} {st : Stmt} {f : Addr} {oc : Value} {od : Option Addr} {kV dc pm : Value} {an : Option Addr} {cd ct : Value} {sl : Array (Option Value)}
    (a : PySem.W.nsIn K mainGlobals x = some (some (.ref f))) (l : K.lookup f = some ⟨oc, od, .func (PySem.W.fnOf x x (defArgs st) (defBody st) (defScope st) .none kV dc pm an cd ct), sl⟩) (c : PySem.W.codeIn K cd x = true) (k : PySem.W.keepIn K (.ref f) = true) : DefAt K x st :=
  ⟨f, oc, od, kV, dc, pm, an, cd, ct, sl, a, l, c, k⟩
theorem DefAt.ent {K : PySem.W.Frag} {h : Heap} {mg : Str → Option Value} {x : Str} {st : Stmt} {ps : List Str} (D : DefAt K x st) (X : K.In h) (G : h.Ns mainGlobals mg)
    (hb : ∀ (kV doc pm : Value) (an : Option Addr) (cdv ct : Value) (us : List Value), us.length = ps.length → bindArgs (PySem.W.fnOf x x (defArgs st) (defBody st) (defScope st) .none kV doc pm an cdv ct) ⟨us, []⟩ = pure (ps.zip us)) : Ent K mg x st ps := by
  obtain ⟨f, oc, od, kV, dc, pm, an, cd, ct, sl, a, l, c, k⟩ := D
  have F := fun_mk (st := st) l c k
  exact ⟨f, _, F, PySem.W.mg_of X G a, F.binds hb⟩
/-- an error class of the text -/
def ErrAt (K : PySem.W.Frag) (x : Str) (C : Addr) : Prop := PySem.W.nsIn K mainGlobals x = some (some (.ref C)) ∧ PySem.W.excIn K C [.type "ValueError", .type "Exception", .type "BaseException", .type "object"] "ValueError.__new__" = true ∧
  PySem.W.keepIn K (.ref C) = true ∧ PySem.W.subIn K (.ref C) (.type "BaseException") = some true ∧ PySem.W.typeIn K (.ref C) = some (.type "type")
/-- an error class with an __init__ that stores the field n -/
def InitAt (K : PySem.W.Frag) (x n q : Str) (st : Stmt) (C fI : Addr) : Prop := PySem.W.nsIn K mainGlobals x = some (some (.ref C)) ∧
  (∃ nm q N bs bm sn sub ab col dd k0 k1 k2 k3 k5, K.lookup C = some (excClassObj nm q C N bs bm true sn sub ab col dd k0 k1 k2 k3 k5 "ValueError.__new__") ∧ PySem.HandSPX.refsVE bm = true) ∧
  PySem.W.findIn K (.ref C) "__setattr__" = some (some (.builtin "object.__setattr__")) ∧ PySem.W.subIn K (.ref C) (.type "BaseException") = some true ∧ PySem.W.typeIn K (.ref C) = some (.type "type") ∧ PySem.W.keepIn K (.ref C) = true ∧
  PySem.W.findIn K (.ref C) "__init__" = some (some (.ref fI)) ∧ PySem.W.typeIn K (.ref fI) = some (.type "function") ∧
  PySem.W.findIn K (.ref C) "__getattribute__" = some (some (.builtin "BaseException.__getattribute__")) ∧ PySem.W.findIn K (.ref C) "__getattr__" = some none ∧ PySem.W.hasDictIn K C = true ∧ PySem.W.findIn K (.ref C) n = some none ∧
  (∃ (oc : Value) (od : Option Addr) (kV dc pm : Value) (an : Option Addr) (cd ct : Value) (sl : Array (Option Value)),
    K.lookup fI = some ⟨oc, od, .func (PySem.W.fnOf "__init__" q (defArgs st) (defBody st) (defScope st) .none kV dc pm an cd ct), sl⟩ ∧ PySem.W.codeIn K cd q = true ∧ PySem.W.keepIn K (.ref fI) = true)
theorem InitAt.mk {K : PySem.W.Frag} {x n q : Str} {st : Stmt} {C fI : Addr} {nm qn : Str} {NN : Addr} {bs bm : List Value} {sn : List Str} {sub : List Value} {ab : Bool} {col : Option Bool} {dd : Option Addr} {k0 k1 k2 k3 k5 : Option Value}
    {oc : Value} {od : Option Addr} {kV dc pm : Value} {an : Option Addr} {cd ct : Value} {sl : Array (Option Value)} (a1 : PySem.W.nsIn K mainGlobals x = some (some (.ref C))) (a2 : K.lookup C = some (excClassObj nm qn C NN bs bm true sn sub ab col dd k0 k1 k2 k3 k5 "ValueError.__new__"))
    (a3 : PySem.HandSPX.refsVE bm = true) (a4 : PySem.W.findIn K (.ref C) "__setattr__" = some (some (.builtin "object.__setattr__"))) (a5 : PySem.W.subIn K (.ref C) (.type "BaseException") = some true) (a6 : PySem.W.typeIn K (.ref C) = some (.type "type"))
    (a7 : PySem.W.keepIn K (.ref C) = true) (a8 : PySem.W.findIn K (.ref C) "__init__" = some (some (.ref fI))) (a9 : PySem.W.typeIn K (.ref fI) = some (.type "function")) (b1 : PySem.W.findIn K (.ref C) "__getattribute__" = some (some (.builtin "BaseException.__getattribute__")))
    (b2 : PySem.W.findIn K (.ref C) "__getattr__" = some none) (b3 : PySem.W.hasDictIn K C = true) (b4 : PySem.W.findIn K (.ref C) n = some none)
    (b5 : K.lookup fI = some ⟨oc, od, .func (PySem.W.fnOf "__init__" q (defArgs st) (defBody st) (defScope st) .none kV dc pm an cd ct), sl⟩) (b6 : PySem.W.codeIn K cd q = true) (b7 : PySem.W.keepIn K (.ref fI) = true) : InitAt K x n q st C fI :=
  ⟨a1, ⟨_, _, _, _, _, _, _, _, _, _, _, _, _, _, _, a2, a3⟩, a4, a5, a6, a7, a8, a9, b1, b2, b3, b4, ⟨_, _, _, _, _, _, _, _, _, b5, b6, b7⟩⟩
def IntAt (K : PySem.W.Frag) (x : Str) (n : Int) : Prop := ∃ t, PySem.W.nsIn K mainGlobals x = some (some (.int n t))
theorem IntAt.mk {K : PySem.W.Frag} {x : Str} {n : Int} {t : Nat} (h : PySem.W.nsIn K mainGlobals x = some (some (.int n t))) : IntAt K x n := ⟨t, h⟩
def StrAt (K : PySem.W.Frag) (x : Str) (n : Str) : Prop := ∃ t, PySem.W.nsIn K mainGlobals x = some (some (.str n t))
theorem StrAt.mk {K : PySem.W.Frag} {x : Str} {n : Str} {t : Nat} (h : PySem.W.nsIn K mainGlobals x = some (some (.str n t))) : StrAt K x n := ⟨t, h⟩
structure All (K : PySem.W.Frag) (CM CR CLt CN CTg W fI a_SMALL_WIDTH a_SMALL_SEEN : Addr) : Prop where
  d_parts_of : DefAt K "parts_of" s_parts_of
  d_rebuilt : DefAt K "rebuilt" s_rebuilt
  d_copied : DefAt K "copied" s_copied
  d_made_of : DefAt K "made_of" s_made_of
  d_is_mask : DefAt K "is_mask" s_is_mask
  d_check_mask : DefAt K "check_mask" s_check_mask
  d_is_row : DefAt K "is_row" s_is_row
  d_check_row : DefAt K "check_row" s_check_row
  d_check_ring : DefAt K "check_ring" s_check_ring
  d_is_number : DefAt K "is_number" s_is_number
  d_check_number : DefAt K "check_number" s_check_number
  d_check_letters : DefAt K "check_letters" s_check_letters
  d_check_great : DefAt K "check_great" s_check_great
  d_check_small : DefAt K "check_small" s_check_small
  d_check_row_in : DefAt K "check_row_in" s_check_row_in
  d_check_lettered : DefAt K "check_lettered" s_check_lettered
  d_seen : DefAt K "seen" s_seen
  d_view_at : DefAt K "view_at" s_view_at
  d_others : DefAt K "others" s_others
  d_views : DefAt K "views" s_views
  d_all_unlike : DefAt K "all_unlike" s_all_unlike
  d_tells : DefAt K "tells" s_tells
  d_words : DefAt K "words" s_words
  d_near_bits : DefAt K "near_bits" s_near_bits
  d_window_bits : DefAt K "window_bits" s_window_bits
  d_told_rows : DefAt K "told_rows" s_told_rows
  d_farthest_rows : DefAtD K "farthest_rows" s_farthest_rows 1
  d_longest_rows : DefAt K "longest_rows" s_longest_rows
  d_longest : DefAt K "longest" s_longest
  d_count_rows : DefAt K "count_rows" s_count_rows
  d_next_letters : DefAt K "next_letters" s_next_letters
  d_farthest : DefAt K "farthest" s_farthest
  d_masks_of : DefAt K "masks_of" s_masks_of
  d_masks_to : DefAt K "masks_to" s_masks_to
  d_best_masks : DefAt K "best_masks" s_best_masks
  d_told_near : DefAt K "told_near" s_told_near
  d_mend : DefAt K "mend" s_mend
  d_weak_letters : DefAt K "weak_letters" s_weak_letters
  d_ring_view : DefAt K "ring_view" s_ring_view
  d_ring_views : DefAt K "ring_views" s_ring_views
  d_ring_tells : DefAt K "ring_tells" s_ring_tells
  d_count_views : DefAt K "count_views" s_count_views
  d_is_least : DefAt K "is_least" s_is_least
  d_longest_ring : DefAt K "longest_ring" s_longest_ring
  d_full_rings : DefAt K "full_rings" s_full_rings
  d__law_taken : DefAt K "_law_taken" s__law_taken
  d__law_call : DefAt K "_law_call" s__law_call
  d__law_refused : DefAt K "_law_refused" s__law_refused
  d__law_best : DefAt K "_law_best" s__law_best
  bb : ∀ x ∈ (["isinstance", "str", "int", "bool", "list", "tuple", "dict", "all", "len", "enumerate", "range", "reversed", "zip", "set", "min", "max", "sum"] : List Str), PySem.W.nsIn K mainGlobals x = some none
  h_LETTERS : StrAt K "LETTERS" (PySem.Str.ofString "abcd")
  h_UNREAD : StrAt K "UNREAD" (PySem.Str.ofString "?")
  h_WIDEST : IntAt K "WIDEST" 12
  h_LONGEST : IntAt K "LONGEST" 60
  h_LONGEST_TO_MEND : IntAt K "LONGEST_TO_MEND" 8
  k_SMALL_WIDTH : PySem.W.nsIn K mainGlobals "SMALL_WIDTH" = some (some (.ref a_SMALL_WIDTH)) ∧ TabI K a_SMALL_WIDTH [(1, 12), (2, 8), (3, 5), (4, 4)]
  k_SMALL_SEEN : PySem.W.nsIn K mainGlobals "SMALL_SEEN" = some (some (.ref a_SMALL_SEEN)) ∧ TabI K a_SMALL_SEEN [(1, 12), (2, 4), (3, 2), (4, 1)]
  x_BadMask : ErrAt K "BadMask" CM
  x_BadRow : ErrAt K "BadRow" CR
  x_BadLetters : ErrAt K "BadLetters" CLt
  x_TooGreat : ErrAt K "TooGreat" CTg
  n_BadNumber : InitAt K "BadNumber" "n" "BadNumber.__init__" s_BadNumber___init__ CN fI
  ew : PySem.W.nsIn K mainGlobals "WindowError" = some (some (.ref W)) ∧ PySem.W.readsIn K W (.type "type") = true ∧ PySem.W.specialIn K (.ref W) "__getattribute__" = some (some (.builtin "type.__getattribute__")) ∧
    PySem.W.findCls K (.ref W) (.type "type") "__init__" = some (.val (.builtin "ValueError.__init__"))
  q_CLt_CLt : PySem.W.exmOne K (.ref CLt) (.ref CLt) = some true
  q_CTg_CLt : PySem.W.exmOne K (.ref CTg) (.ref CLt) = some false
  q_CTg_CTg : PySem.W.exmOne K (.ref CTg) (.ref CTg) = some true
  q_CR_CLt : PySem.W.exmOne K (.ref CR) (.ref CLt) = some false
  q_CR_CTg : PySem.W.exmOne K (.ref CR) (.ref CTg) = some false
  q_CR_CR : PySem.W.exmOne K (.ref CR) (.ref CR) = some true
  q_CN_CLt : PySem.W.exmOne K (.ref CN) (.ref CLt) = some false
  q_CN_CTg : PySem.W.exmOne K (.ref CN) (.ref CTg) = some false
  q_CN_CR : PySem.W.exmOne K (.ref CN) (.ref CR) = some false
  q_CN_CN : PySem.W.exmOne K (.ref CN) (.ref CN) = some true
  q_CLt_CN : PySem.W.exmOne K (.ref CLt) (.ref CN) = some false
  q_CTg_CN : PySem.W.exmOne K (.ref CTg) (.ref CN) = some false
theorem all_mk {l : PySem.W.OpenLaw} {w : World} {K : PySem.W.Frag} {h : Heap} {mg : Str → Option Value} {fa f CM CR CLt CN CTg W fI a_SMALL_WIDTH a_SMALL_SEEN : Addr} (X : K.In h) (G : h.Ns mainGlobals mg) (hfa : mg "law" = some (.ref fa)) (A : All K CM CR CLt CN CTg W fI a_SMALL_WIDTH a_SMALL_SEEN)
    {od an : Option Addr} {sl : Array (Option Value)} {oc kV dc pm cd ct : Value} (a : PySem.W.nsIn K mainGlobals "law" = some (some (.ref f)))
    (lk : K.lookup f = some ⟨oc, od, .func (PySem.W.fnOf "law" "law" (defArgs s_law) (defBody s_law) (defScope s_law) .none kV dc pm an cd ct), sl⟩) (c : PySem.W.codeIn K cd "law" = true) (k : PySem.W.keepIn K (.ref f) = true) :
    ∃ fd : FuncData, (∀ (s : Shared) (v : Value), BindsTo s fd ⟨[v], []⟩ [("_law_script", v)]) ∧ ∀ base : Heap, K.In base → base.Ns mainGlobals mg → FnOk l.prog w K mg base CX0 13 fa fd ["_law_script"] (spLaw K) := by
  have e := hfa.symm.trans (PySem.W.mg_of X G a)
  cases e
  have F := fun_mk (st := s_law) lk c k
  have N : ∀ x ∈ (["isinstance", "str", "int", "bool", "list", "tuple", "dict", "all", "len", "enumerate", "range", "reversed", "zip", "set", "min", "max", "sum"] : List Str), mg x = none := fun x hx => PySem.W.mg_none_of X G (A.bb x hx)
  obtain ⟨g1_BadMask, g2_BadMask, g3_BadMask, g4_BadMask, g5_BadMask⟩ := A.x_BadMask
  obtain ⟨g1_BadRow, g2_BadRow, g3_BadRow, g4_BadRow, g5_BadRow⟩ := A.x_BadRow
  obtain ⟨g1_BadLetters, g2_BadLetters, g3_BadLetters, g4_BadLetters, g5_BadLetters⟩ := A.x_BadLetters
  obtain ⟨g1_TooGreat, g2_TooGreat, g3_TooGreat, g4_TooGreat, g5_TooGreat⟩ := A.x_TooGreat
  obtain ⟨w1, w2, w3, w4⟩ := A.ew
  obtain ⟨n1_BadNumber, n2_BadNumber, n3_BadNumber, n4_BadNumber, n5_BadNumber, n6_BadNumber, n7_BadNumber, n8_BadNumber, n9_BadNumber, n10_BadNumber, n11_BadNumber, n12_BadNumber, oc_BadNumber, od_BadNumber, kV_BadNumber, dc_BadNumber, pm_BadNumber, an_BadNumber, cd_BadNumber, ct_BadNumber, sl_BadNumber, n13_BadNumber, n14_BadNumber, n15_BadNumber⟩ := A.n_BadNumber
  have FI_BadNumber := fun_mk (st := s_BadNumber___init__) n13_BadNumber n14_BadNumber n15_BadNumber
  have T : Top K mg CM CR CLt CN CTg W fI a_SMALL_WIDTH a_SMALL_SEEN :=
    { m_isinstance := N _ (by simp), m_str := N _ (by simp), m_int := N _ (by simp), m_bool := N _ (by simp), m_list := N _ (by simp), m_tuple := N _ (by simp), m_dict := N _ (by simp), m_all := N _ (by simp), m_len := N _ (by simp), m_enumerate := N _ (by simp), m_range := N _ (by simp), m_reversed := N _ (by simp), m_zip := N _ (by simp), m_set := N _ (by simp), m_min := N _ (by simp), m_max := N _ (by simp), m_sum := N _ (by simp), g_LETTERS := A.h_LETTERS.imp fun _ q => PySem.W.mg_of X G q, g_UNREAD := A.h_UNREAD.imp fun _ q => PySem.W.mg_of X G q, g_WIDEST := A.h_WIDEST.imp fun _ q => PySem.W.mg_of X G q, g_LONGEST := A.h_LONGEST.imp fun _ q => PySem.W.mg_of X G q, g_LONGEST_TO_MEND := A.h_LONGEST_TO_MEND.imp fun _ q => PySem.W.mg_of X G q, g_SMALL_WIDTH := ⟨PySem.W.mg_of X G A.k_SMALL_WIDTH.1, A.k_SMALL_WIDTH.2⟩, g_SMALL_SEEN := ⟨PySem.W.mg_of X G A.k_SMALL_SEEN.1, A.k_SMALL_SEEN.2⟩, e_BadMask := ⟨PySem.W.mg_of X G g1_BadMask, g2_BadMask, g3_BadMask, g4_BadMask, g5_BadMask⟩, e_BadRow := ⟨PySem.W.mg_of X G g1_BadRow, g2_BadRow, g3_BadRow, g4_BadRow, g5_BadRow⟩, e_BadLetters := ⟨PySem.W.mg_of X G g1_BadLetters, g2_BadLetters, g3_BadLetters, g4_BadLetters, g5_BadLetters⟩, e_TooGreat := ⟨PySem.W.mg_of X G g1_TooGreat, g2_TooGreat, g3_TooGreat, g4_TooGreat, g5_TooGreat⟩, e_BadNumber := ⟨PySem.W.mg_of X G n1_BadNumber, ⟨n2_BadNumber, n3_BadNumber, n4_BadNumber, n5_BadNumber, n6_BadNumber⟩, n7_BadNumber, n8_BadNumber, ⟨n9_BadNumber, n10_BadNumber, n4_BadNumber, n11_BadNumber⟩, n12_BadNumber⟩, f_init := ⟨_, FI_BadNumber, FI_BadNumber.binds fun _ _ _ _ _ _ us hl => match us, hl with | [_, _], _ => rfl⟩, b_WindowError := ⟨PySem.W.mg_of X G w1, w2, w3, w4⟩, q_CLt_CLt := A.q_CLt_CLt, q_CTg_CLt := A.q_CTg_CLt, q_CTg_CTg := A.q_CTg_CTg, q_CR_CLt := A.q_CR_CLt, q_CR_CTg := A.q_CR_CTg, q_CR_CR := A.q_CR_CR, q_CN_CLt := A.q_CN_CLt, q_CN_CTg := A.q_CN_CTg, q_CN_CR := A.q_CN_CR, q_CN_CN := A.q_CN_CN, q_CLt_CN := A.q_CLt_CN, q_CTg_CN := A.q_CTg_CN }
  refine ⟨PySem.W.fnOf "law" "law" (defArgs s_law) (defBody s_law) (defScope s_law) .none kV dc pm an cd ct, fun s v => .of_eq rfl, fun base _ _ => ?_⟩
  have e_parts_of := A.d_parts_of.ent (ps := p_parts_of) X G fun _ _ _ _ _ _ us hl => match us, hl with | [_], _ => rfl
  have e_rebuilt := A.d_rebuilt.ent (ps := p_rebuilt) X G fun _ _ _ _ _ _ us hl => match us, hl with | [_, _], _ => rfl
  have e_copied := A.d_copied.ent (ps := p_copied) X G fun _ _ _ _ _ _ us hl => match us, hl with | [_], _ => rfl
  have e_made_of := A.d_made_of.ent (ps := p_made_of) X G fun _ _ _ _ _ _ us hl => match us, hl with | [_, _], _ => rfl
  have e_is_mask := A.d_is_mask.ent (ps := p_is_mask) X G fun _ _ _ _ _ _ us hl => match us, hl with | [_], _ => rfl
  have e_check_mask := A.d_check_mask.ent (ps := p_check_mask) X G fun _ _ _ _ _ _ us hl => match us, hl with | [_], _ => rfl
  have e_is_row := A.d_is_row.ent (ps := p_is_row) X G fun _ _ _ _ _ _ us hl => match us, hl with | [_], _ => rfl
  have e_check_row := A.d_check_row.ent (ps := p_check_row) X G fun _ _ _ _ _ _ us hl => match us, hl with | [_], _ => rfl
  have e_check_ring := A.d_check_ring.ent (ps := p_check_ring) X G fun _ _ _ _ _ _ us hl => match us, hl with | [_], _ => rfl
  have e_is_number := A.d_is_number.ent (ps := p_is_number) X G fun _ _ _ _ _ _ us hl => match us, hl with | [_, _, _], _ => rfl
  have e_check_number := A.d_check_number.ent (ps := p_check_number) X G fun _ _ _ _ _ _ us hl => match us, hl with | [_, _, _], _ => rfl
  have e_check_letters := A.d_check_letters.ent (ps := p_check_letters) X G fun _ _ _ _ _ _ us hl => match us, hl with | [_], _ => rfl
  have e_check_great := A.d_check_great.ent (ps := p_check_great) X G fun _ _ _ _ _ _ us hl => match us, hl with | [_, _, _], _ => rfl
  have e_check_small := A.d_check_small.ent (ps := p_check_small) X G fun _ _ _ _ _ _ us hl => match us, hl with | [_, _], _ => rfl
  have e_check_row_in := A.d_check_row_in.ent (ps := p_check_row_in) X G fun _ _ _ _ _ _ us hl => match us, hl with | [_, _], _ => rfl
  have e_check_lettered := A.d_check_lettered.ent (ps := p_check_lettered) X G fun _ _ _ _ _ _ us hl => match us, hl with | [_, _, _], _ => rfl
  have e_seen := A.d_seen.ent (ps := p_seen) X G fun _ _ _ _ _ _ us hl => match us, hl with | [_], _ => rfl
  have e_view_at := A.d_view_at.ent (ps := p_view_at) X G fun _ _ _ _ _ _ us hl => match us, hl with | [_, _, _], _ => rfl
  have e_others := A.d_others.ent (ps := p_others) X G fun _ _ _ _ _ _ us hl => match us, hl with | [_, _], _ => rfl
  have e_views := A.d_views.ent (ps := p_views) X G fun _ _ _ _ _ _ us hl => match us, hl with | [_, _], _ => rfl
  have e_all_unlike := A.d_all_unlike.ent (ps := p_all_unlike) X G fun _ _ _ _ _ _ us hl => match us, hl with | [_], _ => rfl
  have e_tells := A.d_tells.ent (ps := p_tells) X G fun _ _ _ _ _ _ us hl => match us, hl with | [_, _], _ => rfl
  have e_words := A.d_words.ent (ps := p_words) X G fun _ _ _ _ _ _ us hl => match us, hl with | [_, _], _ => rfl
  have e_near_bits := A.d_near_bits.ent (ps := p_near_bits) X G fun _ _ _ _ _ _ us hl => match us, hl with | [_, _, _], _ => rfl
  have e_window_bits := A.d_window_bits.ent (ps := p_window_bits) X G fun _ _ _ _ _ _ us hl => match us, hl with | [_, _, _], _ => rfl
  have e_told_rows := A.d_told_rows.ent (ps := p_told_rows) X G fun _ _ _ _ _ _ us hl => match us, hl with | [_, _, _], _ => rfl
  have e_farthest_rows := A.d_farthest_rows.ent (ps := p_farthest_rows) (n := 3) X G rfl (fun _ _ _ _ _ _ _ us its h1 h2 => match us, its, h1, h2 with | [_, _, _, _], [_], _, _ => ⟨_, rfl, rfl⟩) (fun _ _ _ _ _ _ _ us its h1 h2 => match us, its, h1, h2 with | [_, _, _], [_], _, _ => ⟨_, rfl, rfl⟩)
  have e_longest_rows := A.d_longest_rows.ent (ps := p_longest_rows) X G fun _ _ _ _ _ _ us hl => match us, hl with | [_, _], _ => rfl
  have e_longest := A.d_longest.ent (ps := p_longest) X G fun _ _ _ _ _ _ us hl => match us, hl with | [_, _], _ => rfl
  have e_count_rows := A.d_count_rows.ent (ps := p_count_rows) X G fun _ _ _ _ _ _ us hl => match us, hl with | [_, _, _], _ => rfl
  have e_next_letters := A.d_next_letters.ent (ps := p_next_letters) X G fun _ _ _ _ _ _ us hl => match us, hl with | [_, _, _], _ => rfl
  have e_farthest := A.d_farthest.ent (ps := p_farthest) X G fun _ _ _ _ _ _ us hl => match us, hl with | [_, _, _], _ => rfl
  have e_masks_of := A.d_masks_of.ent (ps := p_masks_of) X G fun _ _ _ _ _ _ us hl => match us, hl with | [_], _ => rfl
  have e_masks_to := A.d_masks_to.ent (ps := p_masks_to) X G fun _ _ _ _ _ _ us hl => match us, hl with | [_], _ => rfl
  have e_best_masks := A.d_best_masks.ent (ps := p_best_masks) X G fun _ _ _ _ _ _ us hl => match us, hl with | [_, _, _], _ => rfl
  have e_told_near := A.d_told_near.ent (ps := p_told_near) X G fun _ _ _ _ _ _ us hl => match us, hl with | [_, _, _, _], _ => rfl
  have e_mend := A.d_mend.ent (ps := p_mend) X G fun _ _ _ _ _ _ us hl => match us, hl with | [_, _, _], _ => rfl
  have e_weak_letters := A.d_weak_letters.ent (ps := p_weak_letters) X G fun _ _ _ _ _ _ us hl => match us, hl with | [_, _, _], _ => rfl
  have e_ring_view := A.d_ring_view.ent (ps := p_ring_view) X G fun _ _ _ _ _ _ us hl => match us, hl with | [_, _, _], _ => rfl
  have e_ring_views := A.d_ring_views.ent (ps := p_ring_views) X G fun _ _ _ _ _ _ us hl => match us, hl with | [_, _], _ => rfl
  have e_ring_tells := A.d_ring_tells.ent (ps := p_ring_tells) X G fun _ _ _ _ _ _ us hl => match us, hl with | [_, _], _ => rfl
  have e_count_views := A.d_count_views.ent (ps := p_count_views) X G fun _ _ _ _ _ _ us hl => match us, hl with | [_, _], _ => rfl
  have e_is_least := A.d_is_least.ent (ps := p_is_least) X G fun _ _ _ _ _ _ us hl => match us, hl with | [_], _ => rfl
  have e_longest_ring := A.d_longest_ring.ent (ps := p_longest_ring) X G fun _ _ _ _ _ _ us hl => match us, hl with | [_, _], _ => rfl
  have e_full_rings := A.d_full_rings.ent (ps := p_full_rings) X G fun _ _ _ _ _ _ us hl => match us, hl with | [_, _], _ => rfl
  have e__law_taken := A.d__law_taken.ent (ps := p__law_taken) X G fun _ _ _ _ _ _ us hl => match us, hl with | [_, _], _ => rfl
  have e__law_call := A.d__law_call.ent (ps := p__law_call) X G fun _ _ _ _ _ _ us hl => match us, hl with | [_, _, _, _], _ => rfl
  have e__law_refused := A.d__law_refused.ent (ps := p__law_refused) X G fun _ _ _ _ _ _ us hl => match us, hl with | [_, _, _, _], _ => rfl
  have e__law_best := A.d__law_best.ent (ps := p__law_best) X G fun _ _ _ _ _ _ us hl => match us, hl with | [_, _, _], _ => rfl
  have c__law_taken := ok_taken (P := l.prog) (w := w) (base := base) e__law_taken T
  have c_made_of := ok_made_of (P := l.prog) (w := w) (base := base) e_made_of T
  have c_is_mask := ok_is_mask e_is_mask T c_made_of
  have c_check_mask := ok_check_mask e_check_mask T c_is_mask
  have c_is_number := ok_is_number (P := l.prog) (w := w) (base := base) e_is_number T
  have x_check_letters := ok_lettersX e_check_letters T c_is_number
  have x_check_great := ok_check_greatX (P := l.prog) (w := w) (base := base) e_check_great T
  have x_check_small := ok_check_smallE e_check_small T c_check_mask x_check_letters x_check_great
  have c_longest_rows := ok_longest_rows e_longest_rows T x_check_small
  have c_longest := ok_longest e_longest T c_longest_rows
  have c_full_rings := ok_full_rings e_full_rings T x_check_small
  have c_longest_ring := ok_longest_ring e_longest_ring T x_check_small
  have c_parts_of := ok_parts_of (P := l.prog) (w := w) (base := base) e_parts_of T
  have c_rebuilt := ok_rebuilt (P := l.prog) (w := w) (base := base) e_rebuilt T
  have c_copied := ok_copied e_copied T c_parts_of c_rebuilt
  have c_check_number := ok_check_number e_check_number T c_copied c_is_number
  have c_count_rows := ok_count e_count_rows T x_check_small c_check_number
  have c_is_row := ok_is_row e_is_row T c_made_of
  have x_check_row := ok_check_rowX e_check_row T c_is_row
  have x_check_row_in := ok_check_row_inX e_check_row_in T x_check_row c_made_of
  have c_farthest := ok_farthest e_farthest T x_check_small x_check_row_in
  have x_check_lettered := ok_check_letteredX e_check_lettered T c_check_mask x_check_letters x_check_row_in
  have c_next_letters := ok_next_letters e_next_letters T x_check_lettered
  have c_mend := ok_mend e_mend T x_check_lettered
  have c_weak_letters := ok_weak_letters e_weak_letters T x_check_lettered
  have c__law_call := ok_call e__law_call T c_longest c_longest_rows c_full_rings c_longest_ring c_count_rows c_farthest c_next_letters c_mend c_weak_letters
  have c__law_refused := ok_refused e__law_refused T c__law_call
  have c_best_masks := ok_best e_best_masks T c_check_number x_check_letters x_check_great
  have c__law_best := ok_lbest e__law_best T c_best_masks
  exact ok_law F T c__law_taken c__law_refused c__law_best
end K10
open PySem PySem.W PyProof.Rows
set_option maxHeartbeats 0
theorem PySem.Challenge.cw_holedwindows_k10_letters_refused_holds : PySem.Challenge.rw_holedwindows_k10_letters_refused.Holds := by
  w_on; o_law; k_head; (case hw => w_witness2)
  k_fill
  refine L2.walk_of (l := PySem.Challenge.rw_holedwindows_k10_letters_refused) (n := 63) (k := 13) (x := "_law_script") (CX := fun _ => L2.CX0) (sp := fun w => K10.spLaw _) rfl (by decide) rfl ⟨rfl, by decide, by decide⟩ (fun w h Y => PySem.W.kIn_of Y) ?F (fun _ _ a ns hl _ hS => ⟨a, ns, rfl, hS, hl, fun _ => rfl⟩) (fun _ _ _ _ _ h => h)
  case F =>
    intro w mg fa h KX G hmg
    refine' K10.all_mk KX G hmg ?A ?a ?l ?c ?k
    (case a => k_is); (case l => k_is); (case c => k_is); (case k => k_is)
    case A =>
      refine' ⟨?zd0, ?zd1, ?zd2, ?zd3, ?zd4, ?zd5, ?zd6, ?zd7, ?zd8, ?zd9, ?zd10, ?zd11, ?zd12, ?zd13, ?zd14, ?zd15, ?zd16, ?zd17, ?zd18, ?zd19, ?zd20, ?zd21, ?zd22, ?zd23, ?zd24, ?zd25, ?zd26, ?zd27, ?zd28, ?zd29, ?zd30, ?zd31, ?zd32, ?zd33, ?zd34, ?zd35, ?zd36, ?zd37, ?zd38, ?zd39, ?zd40, ?zd41, ?zd42, ?zd43, ?zd44, ?zd45, ?zd46, ?zd47, ?zd48, ?zbb, ?zh0, ?zh1, ?zh2, ?zh3, ?zh4, ?zk0, ?zk1, ?zx0, ?zx1, ?zx2, ?zx3, ?zn0, ?zew, ?zq0, ?zq1, ?zq2, ?zq3, ?zq4, ?zq5, ?zq6, ?zq7, ?zq8, ?zq9, ?zq10, ?zq11⟩
      (case zd0 => refine' K10.DefAt.mk ?x1 ?x2 ?x3 ?x4; (case x1 => k_is); (case x2 => k_is); (case x3 => k_is); (case x4 => k_is))
      (case zd1 => refine' K10.DefAt.mk ?x1 ?x2 ?x3 ?x4; (case x1 => k_is); (case x2 => k_is); (case x3 => k_is); (case x4 => k_is))
      (case zd2 => refine' K10.DefAt.mk ?x1 ?x2 ?x3 ?x4; (case x1 => k_is); (case x2 => k_is); (case x3 => k_is); (case x4 => k_is))
      (case zd3 => refine' K10.DefAt.mk ?x1 ?x2 ?x3 ?x4; (case x1 => k_is); (case x2 => k_is); (case x3 => k_is); (case x4 => k_is))
      (case zd4 => refine' K10.DefAt.mk ?x1 ?x2 ?x3 ?x4; (case x1 => k_is); (case x2 => k_is); (case x3 => k_is); (case x4 => k_is))
      (case zd5 => refine' K10.DefAt.mk ?x1 ?x2 ?x3 ?x4; (case x1 => k_is); (case x2 => k_is); (case x3 => k_is); (case x4 => k_is))
      (case zd6 => refine' K10.DefAt.mk ?x1 ?x2 ?x3 ?x4; (case x1 => k_is); (case x2 => k_is); (case x3 => k_is); (case x4 => k_is))
      (case zd7 => refine' K10.DefAt.mk ?x1 ?x2 ?x3 ?x4; (case x1 => k_is); (case x2 => k_is); (case x3 => k_is); (case x4 => k_is))
      (case zd8 => refine' K10.DefAt.mk ?x1 ?x2 ?x3 ?x4; (case x1 => k_is); (case x2 => k_is); (case x3 => k_is); (case x4 => k_is))
      (case zd9 => refine' K10.DefAt.mk ?x1 ?x2 ?x3 ?x4; (case x1 => k_is); (case x2 => k_is); (case x3 => k_is); (case x4 => k_is))
      (case zd10 => refine' K10.DefAt.mk ?x1 ?x2 ?x3 ?x4; (case x1 => k_is); (case x2 => k_is); (case x3 => k_is); (case x4 => k_is))
      (case zd11 => refine' K10.DefAt.mk ?x1 ?x2 ?x3 ?x4; (case x1 => k_is); (case x2 => k_is); (case x3 => k_is); (case x4 => k_is))
      (case zd12 => refine' K10.DefAt.mk ?x1 ?x2 ?x3 ?x4; (case x1 => k_is); (case x2 => k_is); (case x3 => k_is); (case x4 => k_is))
      (case zd13 => refine' K10.DefAt.mk ?x1 ?x2 ?x3 ?x4; (case x1 => k_is); (case x2 => k_is); (case x3 => k_is); (case x4 => k_is))
      (case zd14 => refine' K10.DefAt.mk ?x1 ?x2 ?x3 ?x4; (case x1 => k_is); (case x2 => k_is); (case x3 => k_is); (case x4 => k_is))
      (case zd15 => refine' K10.DefAt.mk ?x1 ?x2 ?x3 ?x4; (case x1 => k_is); (case x2 => k_is); (case x3 => k_is); (case x4 => k_is))
      (case zd16 => refine' K10.DefAt.mk ?x1 ?x2 ?x3 ?x4; (case x1 => k_is); (case x2 => k_is); (case x3 => k_is); (case x4 => k_is))
      (case zd17 => refine' K10.DefAt.mk ?x1 ?x2 ?x3 ?x4; (case x1 => k_is); (case x2 => k_is); (case x3 => k_is); (case x4 => k_is))
      (case zd18 => refine' K10.DefAt.mk ?x1 ?x2 ?x3 ?x4; (case x1 => k_is); (case x2 => k_is); (case x3 => k_is); (case x4 => k_is))
      (case zd19 => refine' K10.DefAt.mk ?x1 ?x2 ?x3 ?x4; (case x1 => k_is); (case x2 => k_is); (case x3 => k_is); (case x4 => k_is))
      (case zd20 => refine' K10.DefAt.mk ?x1 ?x2 ?x3 ?x4; (case x1 => k_is); (case x2 => k_is); (case x3 => k_is); (case x4 => k_is))
      (case zd21 => refine' K10.DefAt.mk ?x1 ?x2 ?x3 ?x4; (case x1 => k_is); (case x2 => k_is); (case x3 => k_is); (case x4 => k_is))
      (case zd22 => refine' K10.DefAt.mk ?x1 ?x2 ?x3 ?x4; (case x1 => k_is); (case x2 => k_is); (case x3 => k_is); (case x4 => k_is))
      (case zd23 => refine' K10.DefAt.mk ?x1 ?x2 ?x3 ?x4; (case x1 => k_is); (case x2 => k_is); (case x3 => k_is); (case x4 => k_is))
      (case zd24 => refine' K10.DefAt.mk ?x1 ?x2 ?x3 ?x4; (case x1 => k_is); (case x2 => k_is); (case x3 => k_is); (case x4 => k_is))
      (case zd25 => refine' K10.DefAt.mk ?x1 ?x2 ?x3 ?x4; (case x1 => k_is); (case x2 => k_is); (case x3 => k_is); (case x4 => k_is))
      (case zd26 => refine' Qt.DefAtD.mk ?x1 ?x2 ?x3 ?x4 ?x5 ?x6; (case x1 => k_is); (case x2 => k_is); (case x3 => k_is); (case x4 => k_is); (case x5 => k_is); (case x6 => exact ⟨_, rfl⟩))
      (case zd27 => refine' K10.DefAt.mk ?x1 ?x2 ?x3 ?x4; (case x1 => k_is); (case x2 => k_is); (case x3 => k_is); (case x4 => k_is))
      (case zd28 => refine' K10.DefAt.mk ?x1 ?x2 ?x3 ?x4; (case x1 => k_is); (case x2 => k_is); (case x3 => k_is); (case x4 => k_is))
      (case zd29 => refine' K10.DefAt.mk ?x1 ?x2 ?x3 ?x4; (case x1 => k_is); (case x2 => k_is); (case x3 => k_is); (case x4 => k_is))
      (case zd30 => refine' K10.DefAt.mk ?x1 ?x2 ?x3 ?x4; (case x1 => k_is); (case x2 => k_is); (case x3 => k_is); (case x4 => k_is))
      (case zd31 => refine' K10.DefAt.mk ?x1 ?x2 ?x3 ?x4; (case x1 => k_is); (case x2 => k_is); (case x3 => k_is); (case x4 => k_is))
      (case zd32 => refine' K10.DefAt.mk ?x1 ?x2 ?x3 ?x4; (case x1 => k_is); (case x2 => k_is); (case x3 => k_is); (case x4 => k_is))
      (case zd33 => refine' K10.DefAt.mk ?x1 ?x2 ?x3 ?x4; (case x1 => k_is); (case x2 => k_is); (case x3 => k_is); (case x4 => k_is))
      (case zd34 => refine' K10.DefAt.mk ?x1 ?x2 ?x3 ?x4; (case x1 => k_is); (case x2 => k_is); (case x3 => k_is); (case x4 => k_is))
      (case zd35 => refine' K10.DefAt.mk ?x1 ?x2 ?x3 ?x4; (case x1 => k_is); (case x2 => k_is); (case x3 => k_is); (case x4 => k_is))
      (case zd36 => refine' K10.DefAt.mk ?x1 ?x2 ?x3 ?x4; (case x1 => k_is); (case x2 => k_is); (case x3 => k_is); (case x4 => k_is))
      (case zd37 => refine' K10.DefAt.mk ?x1 ?x2 ?x3 ?x4; (case x1 => k_is); (case x2 => k_is); (case x3 => k_is); (case x4 => k_is))
      (case zd38 => refine' K10.DefAt.mk ?x1 ?x2 ?x3 ?x4; (case x1 => k_is); (case x2 => k_is); (case x3 => k_is); (case x4 => k_is))
      (case zd39 => refine' K10.DefAt.mk ?x1 ?x2 ?x3 ?x4; (case x1 => k_is); (case x2 => k_is); (case x3 => k_is); (case x4 => k_is))
      (case zd40 => refine' K10.DefAt.mk ?x1 ?x2 ?x3 ?x4; (case x1 => k_is); (case x2 => k_is); (case x3 => k_is); (case x4 => k_is))
      (case zd41 => refine' K10.DefAt.mk ?x1 ?x2 ?x3 ?x4; (case x1 => k_is); (case x2 => k_is); (case x3 => k_is); (case x4 => k_is))
      (case zd42 => refine' K10.DefAt.mk ?x1 ?x2 ?x3 ?x4; (case x1 => k_is); (case x2 => k_is); (case x3 => k_is); (case x4 => k_is))
      (case zd43 => refine' K10.DefAt.mk ?x1 ?x2 ?x3 ?x4; (case x1 => k_is); (case x2 => k_is); (case x3 => k_is); (case x4 => k_is))
      (case zd44 => refine' K10.DefAt.mk ?x1 ?x2 ?x3 ?x4; (case x1 => k_is); (case x2 => k_is); (case x3 => k_is); (case x4 => k_is))
      (case zd45 => refine' K10.DefAt.mk ?x1 ?x2 ?x3 ?x4; (case x1 => k_is); (case x2 => k_is); (case x3 => k_is); (case x4 => k_is))
      (case zd46 => refine' K10.DefAt.mk ?x1 ?x2 ?x3 ?x4; (case x1 => k_is); (case x2 => k_is); (case x3 => k_is); (case x4 => k_is))
      (case zd47 => refine' K10.DefAt.mk ?x1 ?x2 ?x3 ?x4; (case x1 => k_is); (case x2 => k_is); (case x3 => k_is); (case x4 => k_is))
      (case zd48 => refine' K10.DefAt.mk ?x1 ?x2 ?x3 ?x4; (case x1 => k_is); (case x2 => k_is); (case x3 => k_is); (case x4 => k_is))
      (case zh0 => refine' K10.StrAt.mk ?x1; (case x1 => k_is))
      (case zh1 => refine' K10.StrAt.mk ?x1; (case x1 => k_is))
      (case zh2 => refine' K10.IntAt.mk ?x1; (case x1 => k_is))
      (case zh3 => refine' K10.IntAt.mk ?x1; (case x1 => k_is))
      (case zh4 => refine' K10.IntAt.mk ?x1; (case x1 => k_is))
      (case zk0 => refine' ⟨?x1, ?x2⟩; (case x1 => k_is); (case x2 => intro kv hkv; simp only [List.mem_cons, List.not_mem_nil, or_false] at hkv; rcases hkv with rfl | rfl | rfl | rfl <;> (refine' Qt.KDctI.mk ?y1 ?y2 ?y3 ?y4; (case y1 => k_is); (case y2 => exact (Qt.KeysInt.cons rfl rfl (Qt.KeysInt.cons rfl rfl (Qt.KeysInt.cons rfl rfl (Qt.KeysInt.cons rfl rfl Qt.KeysInt.nil))))); (case y3 => rfl); (case y4 => exact ⟨_, rfl⟩))))
      (case zk1 => refine' ⟨?x1, ?x2⟩; (case x1 => k_is); (case x2 => intro kv hkv; simp only [List.mem_cons, List.not_mem_nil, or_false] at hkv; rcases hkv with rfl | rfl | rfl | rfl <;> (refine' Qt.KDctI.mk ?y1 ?y2 ?y3 ?y4; (case y1 => k_is); (case y2 => exact (Qt.KeysInt.cons rfl rfl (Qt.KeysInt.cons rfl rfl (Qt.KeysInt.cons rfl rfl (Qt.KeysInt.cons rfl rfl Qt.KeysInt.nil))))); (case y3 => rfl); (case y4 => exact ⟨_, rfl⟩))))
      (case zx0 => refine' ⟨?x1, ?x2, ?x3, ?x4, ?x5⟩; (case x1 => k_is); (case x2 => kernel_rfl); (case x3 => k_is); (case x4 => k_is); (case x5 => k_is))
      (case zx1 => refine' ⟨?x1, ?x2, ?x3, ?x4, ?x5⟩; (case x1 => k_is); (case x2 => kernel_rfl); (case x3 => k_is); (case x4 => k_is); (case x5 => k_is))
      (case zx2 => refine' ⟨?x1, ?x2, ?x3, ?x4, ?x5⟩; (case x1 => k_is); (case x2 => kernel_rfl); (case x3 => k_is); (case x4 => k_is); (case x5 => k_is))
      (case zx3 => refine' ⟨?x1, ?x2, ?x3, ?x4, ?x5⟩; (case x1 => k_is); (case x2 => kernel_rfl); (case x3 => k_is); (case x4 => k_is); (case x5 => k_is))
      (case zn0 =>
        refine' K10.InitAt.mk ?a1 ?a2 ?a3 ?a4 ?a5 ?a6 ?a7 ?a8 ?a9 ?b1 ?b2 ?b3 ?b4 ?b5 ?b6 ?b7
        (case a1 => k_is); (case a2 => k_is); (case a3 => rfl); (case a4 => k_is); (case a5 => k_is); (case a6 => k_is); (case a7 => k_is); (case a8 => k_is); (case a9 => k_is); (case b1 => k_is); (case b2 => k_is); (case b3 => k_is); (case b4 => k_is); (case b5 => k_is); (case b6 => k_is); (case b7 => k_is))
      (case zew => refine' ⟨?x1, ?x2, ?x3, ?x4⟩; (case x1 => k_is); (case x2 => k_is); (case x3 => k_is); (case x4 => k_is))
      (case zq0 => kts_exm)
      (case zq1 => kts_exm)
      (case zq2 => kts_exm)
      (case zq3 => kts_exm)
      (case zq4 => kts_exm)
      (case zq5 => kts_exm)
      (case zq6 => kts_exm)
      (case zq7 => kts_exm)
      (case zq8 => kts_exm)
      (case zq9 => kts_exm)
      (case zq10 => kts_exm)
      (case zq11 => kts_exm)
      (case zbb =>
        intro x hx
        simp only [List.mem_cons, List.not_mem_nil, or_false] at hx
        rcases hx with rfl | rfl | rfl | rfl | rfl | rfl | rfl | rfl | rfl | rfl | rfl | rfl | rfl | rfl | rfl | rfl | rfl <;> k_is)
